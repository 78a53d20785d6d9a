import PyProof.Rows.All
import Wide.All
import OpenK.AllK
import Wide.FinOn
import HandS.Style
import KE.KStateDown
import HandS.ForMost
import HandS.AnyAll
import HandS.Defaults
import HandS.Flow
import HandS.Wide
import HandS.IsInst
import HandS.SetKeys
import HandS.Walk
import HandS.Evl
import HandS.Head2
import HandS.HeadHook4
import HandS.HeadWalk
import HandS.Nested
import HandS.Codes
import HandS.Set
import PyProof.Rows.SetFrom
import HandS.SortRule
import HandS.SortOrd
import PyProof.SetRoads
import HandS.DictComp
import HandS.ListItems
import HandS.Records
import HandS.GenOver
import HandS.DeepEq
import HandS.WordsDict
import HandS.TupSets
import HandS.SetFor
import PyProof.SeqRoads2
import KE.KSetDisp
import HandS.SetIn
import KE.KDictSum
import HandS.Conv
import HandS.Strs
import KE.LtSeq
import KE.DataMinMax
import KE.KDictList
import KE.KExcSuper
import KE.KExcIs
import HandS.ExcCtx
import HandS.ExcInit
import HandS.HotCalls
import HandS.FStr
import HandS.ExcField
import KE.DataFind
import HandS.Head3
import KE.GoesComp
import KE.GoesRaise
import PyProof.StrLawsChain
import PyProof.ListStr
import PySem.Challenge.RW_filecross_k13_cards
set_option Elab.async false
set_option linter.all false
set_option maxRecDepth 100000
set_option maxHeartbeats 4000000
namespace Fc
open PySem PySem.Spec PyProof.Rows L2
def top (i : Nat) : Stmt := PySem.Challenge.pw_filecross_k13_cards.main.body.getD i (.Pass ⟨0, 0, 0, 0⟩)
abbrev sBegun : Stmt := top 32
abbrev sTake : Stmt := top 33
abbrev sMarksL : Stmt := top 35
abbrev sRuleL : Stmt := top 36
abbrev sPapersL : Stmt := top 37
abbrev sPairs : Stmt := top 43
abbrev sHeadsL : Stmt := top 39
abbrev sHeldL : Stmt := top 38
abbrev sNeedsL : Stmt := top 41
abbrev sReachL : Stmt := top 42
abbrev sIsSmall : Stmt := top 19
abbrev sIsWord : Stmt := top 20
abbrev sIsMarks : Stmt := top 21
abbrev sIsRow : Stmt := top 22
abbrev sCheckRule : Stmt := top 23
abbrev sCheckPapers : Stmt := top 24
abbrev sHolds : Stmt := top 8
abbrev sTurn : Stmt := top 9
abbrev sMain : Stmt := top 11
abbrev sRising : Stmt := top 10
abbrev sNeedsOf : Stmt := top 30
abbrev sNeeded : Stmt := top 27
abbrev sRuleHeads : Stmt := top 12
abbrev sCheckHead : Stmt := top 25
abbrev sCome : Stmt := top 28
abbrev sEnough : Stmt := top 29
abbrev sAlike : Stmt := top 34
abbrev sFar : Stmt := top 44
abbrev sLaw : Stmt := top 45
end Fc
set_option maxHeartbeats 4000000
/-! What stays between two heaps (Kp), data (Dn), rules that are lacking. -/
namespace Fc
open PySem PySem.Spec PyProof.Rows L2
/-! ### what stays -/
def IsTb (o : HO) : Prop := ∃ ps : Array Value, o = .tbl ps ∧ TriplesOk ps.toList
/-- behind H stands H': all but what S names stands as it stood, tables may have grown -/
def Kp (S : Addr → Prop) (H H' : Hp) : Prop := ∀ a o, H a = some o → ∃ u, H' a = some u ∧ (u = o ∨ (S a ∧ ¬ IsTb o ∧ ¬ IsTb u) ∨ (IsTb o ∧ IsTb u))
abbrev N0 : Addr → Prop := fun _ => False
section
variable {S S' : Addr → Prop} {H H1 H2 H' : Hp} {p a : Addr} {o u : HO}
theorem Kp.refl : Kp S H H := fun a o h => ⟨o, h, .inl rfl⟩
theorem Kp.trans (x : Kp S H H1) (y : Kp S H1 H2) : Kp S H H2 := fun a o h => by
  obtain ⟨u, hu, c⟩ := x a o h
  obtain ⟨w, hw, d⟩ := y a u hu
  refine ⟨w, hw, ?_⟩
  rcases c with rfl | ⟨c1, c2, c3⟩ | ⟨c1, c2⟩
  · exact d
  · rcases d with rfl | ⟨_, _, d3⟩ | ⟨d1, _⟩
    · exact .inr (.inl ⟨c1, c2, c3⟩)
    · exact .inr (.inl ⟨c1, c2, d3⟩)
    · exact (c3 d1).elim
  · rcases d with rfl | ⟨_, d2, _⟩ | ⟨_, d2⟩
    · exact .inr (.inr ⟨c1, c2⟩)
    · exact (d2 c2).elim
    · exact .inr (.inr ⟨c1, d2⟩)
theorem Kp.mono (hs : ∀ a, S a → S' a) (x : Kp S H H') : Kp S' H H' := fun a o h => by
  obtain ⟨u, hu, c⟩ := x a o h
  exact ⟨u, hu, c.imp id (Or.imp (fun z => ⟨hs a z.1, z.2⟩) id)⟩
theorem Kp.up (x : Kp N0 H H') : Kp S H H' := x.mono fun _ z => z.elim
theorem Kp.new (h : H p = none) : Kp S H (upd H p o) := fun a u e => ⟨u, by rw [upd_ne (ne_of_none e h)]; exact e, .inl rfl⟩
theorem Kp.mut (x : Kp S H H') (h : H p = none) : Kp S H (upd H' p o) := fun a u e => by
  obtain ⟨w, hw, c⟩ := x a u e
  exact ⟨w, by rw [upd_ne (ne_of_none e h)]; exact hw, c⟩
theorem Kp.mutS (hs : S p) (h : H p = some u) (h1 : ¬ IsTb u) (h2 : ¬ IsTb o) : Kp S H (upd H p o) := fun a w e => by
  by_cases q : a = p
  · subst q
    rw [h] at e
    cases e
    exact ⟨o, upd_same, .inr (.inl ⟨hs, h1, h2⟩)⟩
  · exact ⟨w, by rw [upd_ne q]; exact e, .inl rfl⟩
theorem Kp.fresh (x : Kp S H H') (h : H' p = none) : H p = none := by
  cases q : H p with
  | none => rfl
  | some o =>
    obtain ⟨u, hu, _⟩ := x p o q
    rw [h] at hu
    cases hu
theorem Kp.obj (x : Kp S H H') (h : H a = some o) (ht : ¬ IsTb o) (hs : ¬ S a) : H' a = some o := by
  obtain ⟨u, hu, c⟩ := x a o h
  rcases c with rfl | ⟨c1, _⟩ | ⟨c1, _⟩
  · exact hu
  · exact (hs c1).elim
  · exact (ht c1).elim
theorem nn {a : Addr} : ¬ N0 a := fun z => z
theorem ntl {xs : List V} : ¬ IsTb (.lst xs) := fun ⟨_, e, _⟩ => nomatch e
theorem ntt {xs : List V} : ¬ IsTb (.tup xs) := fun ⟨_, e, _⟩ => nomatch e
theorem ntf {ob : Obj} {v : HO} : ¬ IsTb (.frz ob v) := fun ⟨_, e, _⟩ => nomatch e
theorem ntd {kvs : List (Key × V)} : ¬ IsTb (.dK kvs) := fun ⟨_, e, _⟩ => nomatch e
theorem nte {φ : Heap → Prop} : ¬ IsTb (.ext φ) := fun ⟨_, e, _⟩ => nomatch e
/-- the tables at these stand -/
def Tbs (T : List Addr) (H : Hp) : Prop := ∀ P ∈ T, GxR.TabG H P
theorem Kp.tab (x : Kp S H H') (h : GxR.TabG H a) : GxR.TabG H' a := by
  obtain ⟨ps, e, t⟩ := h
  obtain ⟨u, hu, c⟩ := x a _ e
  have hb : IsTb (HO.tbl ps) := ⟨ps, rfl, t⟩
  have key : IsTb u := by
    rcases c with rfl | ⟨_, c2, _⟩ | ⟨_, c2⟩
    · exact hb
    · exact (c2 hb).elim
    · exact c2
  obtain ⟨qs, rfl, t2⟩ := key
  exact ⟨qs, hu, t2⟩
theorem Kp.tbs {T : List Addr} (x : Kp S H H') (h : Tbs T H) : Tbs T H' := fun P hP => x.tab (h P hP)
theorem Kp.tabbed (h0 : GxR.TabG H a) (h : GxR.Tabbed a H H') : Kp S H H' := fun b o e => by
  by_cases q : b = a
  · subst q
    obtain ⟨ps, e1, t1⟩ := h0
    obtain ⟨qs, e2, t2⟩ := h.1
    rw [e1] at e
    cases e
    exact ⟨_, e2, .inr (.inr ⟨⟨ps, rfl, t1⟩, ⟨qs, rfl, t2⟩⟩)⟩
  · exact ⟨o, by rw [h.2 b q]; exact e, .inl rfl⟩
end
/-! ### data -/
mutual
inductive Dn (S : Addr → Prop) (H : Hp) : V → PyData → Prop
  | non : Dn S H .non .none
  | bl (b : Bool) : Dn S H (.bl b) (.bool b)
  | int (i : Int) : Dn S H (.int i) (.int i)
  | str (x : Str) : Dn S H (.str x) (.str x)
  | lst {a : Addr} {xs : List V} {ds : List PyData} (hs : ¬ S a) (e : H a = some (.lst xs)) (h : DnA S H xs ds) : Dn S H (.ref a) (.list ds)
  | tup {a : Addr} {xs : List V} {ds : List PyData} (hs : ¬ S a) (e : H a = some (.tup xs)) (h : DnA S H xs ds) : Dn S H (.ref a) (.tuple ds)
inductive DnA (S : Addr → Prop) (H : Hp) : List V → List PyData → Prop
  | nil : DnA S H [] []
  | cons {v : V} {vs : List V} {d : PyData} {ds : List PyData} (h : Dn S H v d) (t : DnA S H vs ds) : DnA S H (v :: vs) (d :: ds)
end
section
variable {S S' : Addr → Prop} {H H1 H2 H' : Hp}
mutual
theorem Dn.kp (k : Kp S H H') : ∀ {v : V} {d : PyData}, Dn S H v d → Dn S H' v d
  | _, _, .non => .non
  | _, _, .bl b => .bl b
  | _, _, .int i => .int i
  | _, _, .str x => .str x
  | _, _, .lst hs e h => .lst hs (k.obj e ntl hs) (DnA.kp k h)
  | _, _, .tup hs e h => .tup hs (k.obj e ntt hs) (DnA.kp k h)
theorem DnA.kp (k : Kp S H H') : ∀ {v : List V} {d : List PyData}, DnA S H v d → DnA S H' v d
  | _, _, .nil => .nil
  | _, _, .cons h t => .cons (Dn.kp k h) (DnA.kp k t)
end
mutual
theorem Dn.weak (k : ∀ a, S' a → S a) : ∀ {v : V} {d : PyData}, Dn S H v d → Dn S' H v d
  | _, _, .non => .non
  | _, _, .bl b => .bl b
  | _, _, .int i => .int i
  | _, _, .str x => .str x
  | _, _, .lst hs e h => .lst (fun z => hs (k _ z)) e (DnA.weak k h)
  | _, _, .tup hs e h => .tup (fun z => hs (k _ z)) e (DnA.weak k h)
theorem DnA.weak (k : ∀ a, S' a → S a) : ∀ {v : List V} {d : List PyData}, DnA S H v d → DnA S' H v d
  | _, _, .nil => .nil
  | _, _, .cons h t => .cons (Dn.weak k h) (DnA.weak k t)
end
mutual
theorem Dn.dp {K : PySem.W.Frag} : ∀ {v : V} {d : PyData}, Dn S H v d → Dp K H v d
  | _, _, .non => .non
  | _, _, .bl b => .bl b
  | _, _, .int i => .int i
  | _, _, .str x => .str x
  | _, _, .lst _ e h => .lst (SqL.of e) (DnA.dp h)
  | _, _, .tup _ e h => .tup (SqT.of e) (DnA.dp h)
theorem DnA.dp {K : PySem.W.Frag} : ∀ {v : List V} {d : List PyData}, DnA S H v d → DpAll K H v d
  | _, _, .nil => .nil
  | _, _, .cons h t => .cons (Dn.dp h) (DnA.dp t)
end
theorem DnA.len : ∀ {v : List V} {d : List PyData}, DnA S H v d → v.length = d.length
  | _, _, .nil => rfl
  | _, _, .cons h t => congrArg Nat.succ t.len
theorem DnA.at : ∀ {vs : List V} {ds : List PyData} {i : Nat} {v : V}, DnA S H vs ds → vs[i]? = some v → ∃ d, ds[i]? = some d ∧ Dn S H v d
  | _, _, _, _, .nil, e => by simp at e
  | _, _, 0, _, .cons h _, e => by simp at e; subst e; exact ⟨_, rfl, h⟩
  | _, _, i + 1, v, .cons _ t, e => by
    obtain ⟨d, h1, h2⟩ := DnA.at (i := i) t (by simpa using e)
    exact ⟨d, by simpa using h1, h2⟩
theorem DnA.at' : ∀ {vs : List V} {ds : List PyData} {i : Nat} {d : PyData}, DnA S H vs ds → ds[i]? = some d → ∃ v, vs[i]? = some v ∧ Dn S H v d
  | _, _, _, _, .nil, e => by simp at e
  | _, _, 0, _, .cons h _, e => by simp at e; subst e; exact ⟨_, rfl, h⟩
  | _, _, i + 1, v, .cons _ t, e => by
    obtain ⟨d, h1, h2⟩ := DnA.at' (i := i) t (by simpa using e)
    exact ⟨d, by simpa using h1, h2⟩
theorem DnA.app : ∀ {xs ys : List V} {ds es : List PyData}, DnA S H xs ds → DnA S H ys es → DnA S H (xs ++ ys) (ds ++ es)
  | _, _, _, _, .nil, h => h
  | _, _, _, _, .cons h t, k => .cons h (t.app k)
theorem DnA.one {v : V} {d : PyData} (h : Dn S H v d) : DnA S H [v] [d] := .cons h .nil
theorem DnA.strs : ∀ (xs : List Str), DnA S H (xs.map V.str) (xs.map PyData.str)
  | [] => .nil
  | x :: xs => .cons (.str x) (DnA.strs xs)
theorem Dn.str_eq {v : V} {x : Str} (h : Dn S H v (.str x)) : v = .str x := by cases h; rfl
theorem Dn.int_eq {v : V} {x : Int} (h : Dn S H v (.int x)) : v = .int x := by cases h; rfl
theorem Dn.bl_eq {v : V} {x : Bool} (h : Dn S H v (.bool x)) : v = .bl x := by cases h; rfl
theorem Dn.non_eq {v : V} (h : Dn S H v .none) : v = .non := by cases h; rfl
theorem Dn.lst_ex {v : V} {ds : List PyData} (h : Dn S H v (.list ds)) : ∃ a xs, v = .ref a ∧ ¬ S a ∧ H a = some (.lst xs) ∧ DnA S H xs ds := by
  cases h with
  | lst hs e h => exact ⟨_, _, rfl, hs, e, h⟩
theorem Dn.tup_ex {v : V} {ds : List PyData} (h : Dn S H v (.tuple ds)) : ∃ a xs, v = .ref a ∧ ¬ S a ∧ H a = some (.tup xs) ∧ DnA S H xs ds := by
  cases h with
  | tup hs e h => exact ⟨_, _, rfl, hs, e, h⟩
theorem DnA.strs_eq : ∀ {vs : List V} {xs : List Str}, DnA S H vs (xs.map PyData.str) → vs = xs.map V.str
  | _, [], h => by cases h; rfl
  | _, x :: xs, h => by
    cases h with
    | cons h t => rw [h.str_eq, t.strs_eq]; rfl
theorem DnA.nil_eq {vs : List V} (h : DnA S H vs []) : vs = [] := by cases h; rfl
theorem DnA.cons_ex {vs : List V} {d : PyData} {ds : List PyData} (h : DnA S H vs (d :: ds)) : ∃ v ws, vs = v :: ws ∧ Dn S H v d ∧ DnA S H ws ds := by
  cases h with
  | cons h t => exact ⟨_, _, rfl, h, t⟩
end
end Fc
set_option maxHeartbeats 4000000
/-! any, all of a generator expression whose element makes nothing that was there otherwise: over a text, a list, a tuple. -/
namespace Fc
open PySem PySem.Spec PyProof.Rows L2
section
variable {X : Cx}
/-- a generator expression's own scope: its one name x, the walked thing, names captured of the def sc's cells -/
def genOk (sc scope : Scope) (x : Str) : Bool := decide (scope.kind = .function) && (!scope.isCoroutine && (scope.names.all (fun y => decide (y.2 ≠ .cell)) && (decide (scope.names.lookup (".0" : Str) = some NameKind.local) &&
  (decide (scope.names.lookup x = some NameKind.local) && scope.names.all fun y => decide (y.2 ≠ .free) || decide (sc.names.lookup y.1 = some .cell)))))
theorem genOk_s {pins : List (Addr × Obj)} {σ : L2.St} {H : Hp} {s : Shared} {scope : Scope} {x : Str} (I : Inv X pins σ H s) (h : genOk X.env.scope scope x = true) : GxR.GenS X.env scope x := by
  obtain ⟨h1, h⟩ := Bool.and_eq_true_iff.mp h
  obtain ⟨h2, h⟩ := Bool.and_eq_true_iff.mp h
  obtain ⟨h3, h⟩ := Bool.and_eq_true_iff.mp h
  obtain ⟨h4, h⟩ := Bool.and_eq_true_iff.mp h
  obtain ⟨h5, h6⟩ := Bool.and_eq_true_iff.mp h
  refine ⟨of_decide_eq_true h1, by simpa using h2, fun y hy => of_decide_eq_true (List.all_eq_true.mp h3 y hy), of_decide_eq_true h4, of_decide_eq_true h5, fun y hy e => ?_⟩
  have q := List.all_eq_true.mp h6 y hy
  rw [e] at q
  have q2 : X.env.scope.names.lookup y.1 = some .cell := by simpa using q
  exact I.ok.has y.1 (.inl q2)
/-- u, walked, gives the values of vs in turn, over addresses other than the table's -/
def Src (X : Cx) (P : Addr) (v : V) (vs : List V) (H1 : Hp) : Prop :=
  ∀ (pins : List (Addr × Obj)) (σ : L2.St) (s1 : Shared) (u : Value) (Qi : Value → Shared → Prop) (Ei : Value → Shared → Prop), Inv X pins σ H1 s1 → RelV v u →
    (∀ (ob : Obj) (fp : List Addr) (St : Nat → Heap → Prop), (∀ b ∈ fp, b = s1.heap.objs.size ∨ (b ≠ P ∧ b < s1.heap.objs.size)) →
      (∀ A' : Around, A'.handled = none → Walks X.prog X.w A' s1.heap.objs.size fp [s1.heap.objs.size] vs.length (fun i q => ∃ x, vs[i]? = some x ∧ RelV x q) St) →
      St 0 (s1.heap.push ob) → Qi (.ref s1.heap.objs.size) { s1 with heap := s1.heap.push ob }) → wpAny (model X.prog X.w) X.A (pyIter u) Qi Ei s1
theorem walks_imp {prog : Program} {w : World} {A : Around} {I : Addr} {fp wr : List Addr} {n m : Nat} {P P' : Nat → Value → Prop} {St : Nat → Heap → Prop} (W : Walks prog w A I fp wr n P St) (hn : n = m) (k : ∀ i v, P i v → P' i v) :
    Walks prog w A I fp wr m P' St := by
  subst hn
  exact ⟨W.sub, W.frame, fun i s Q E hi st q => W.item i s Q E hi st fun v h' tk p => q v h' tk (k i v p), W.done, W.self⟩
def signs (z : Str) : List V := z.cps.toList.map fun c => V.str ⟨#[c]⟩
theorem src_str {P : Addr} {z : Str} {H1 : Hp} : Src X P (.str z) (signs z) H1 := by
  intro pins σ s1 u Qi Ei I r hk
  obtain ⟨t, rfl⟩ := r
  refine wpAny_pyIter_str fun ob St W st => hk ob _ St (fun b hb => .inl (by simpa using hb)) (fun A' hA => walks_imp (W A' hA) (by simp [signs]) fun i q hq => ?_) st
  obtain ⟨c, t', hc, rfl⟩ := hq
  exact ⟨.str ⟨#[c]⟩, by simp [signs, hc], _, rfl⟩
theorem src_lst {P a : Addr} {xs : List V} {H1 : Hp} (ha : H1 a = some (.lst xs)) (hP : GxR.TabG H1 P) : Src X P (.ref a) xs H1 := by
  intro pins σ s1 u Qi Ei I r hk
  obtain rfl : u = Value.ref a := r
  obtain ⟨its, rv, hl, hz⟩ := I.list (SqL.of ha)
  have hi := hl.isList
  have lt : a < s1.heap.objs.size := I.hok.lt ha
  have nP : a ≠ P := fun e => by
    obtain ⟨ps, q, _⟩ := hP
    rw [← e, ha] at q
    cases q
  refine wpAny_pyIter_list hi (hk _ [s1.heap.objs.size, a] _ (fun b hb => ?_) (fun A' hA => walks_imp (Walks.list hA _ a (Nat.ne_of_lt lt) its.toArray) (by simpa using rv.length.symm) fun i q hq => ?_) ⟨⟨_, Heap.get?_push_size _ rfl, rfl, rfl⟩, hi.push _⟩)
  · rcases List.mem_cons.mp hb with q | q
    · exact .inl q
    · rw [List.mem_singleton.mp q]
      exact .inr ⟨nP, lt⟩
  · have hq2 : its[i]? = some q := by simpa using hq
    have hi2 : i < its.length := (List.getElem?_eq_some_iff.mp hq2).1
    have hx : i < xs.length := by rw [rv.length]; exact hi2
    obtain ⟨w, e1, e2⟩ := rv.get (List.getElem?_eq_getElem hx)
    rw [hq2] at e1
    cases e1
    exact ⟨xs[i], List.getElem?_eq_getElem hx, e2⟩
theorem src_tup {P a : Addr} {xs : List V} {H1 : Hp} (ha : H1 a = some (.tup xs)) (hP : GxR.TabG H1 P) : Src X P (.ref a) xs H1 := by
  intro pins σ s1 u Qi Ei I r hk
  obtain rfl : u = Value.ref a := r
  obtain ⟨hz, its, rv, hi⟩ := I.hok a _ ha
  have hi : s1.heap.IsTuple a its.toArray := hi
  have lt : a < s1.heap.objs.size := I.hok.lt ha
  have nP : a ≠ P := fun e => by
    obtain ⟨ps, q, _⟩ := hP
    rw [← e, ha] at q
    cases q
  have hpush : ∀ ob : Obj, (s1.heap.push ob).IsTuple a its.toArray := fun ob => by
    obtain ⟨o, e, r⟩ := hi
    exact ⟨o, Heap.get?_push_of_some _ e, r⟩
  refine wpAny_pyIter_tuple hi (hk _ [s1.heap.objs.size, a] _ (fun b hb => ?_) (fun A' hA => walks_imp (Walks.tuple hA _ a (Nat.ne_of_lt lt) its.toArray) (by simpa using rv.length.symm) fun i q hq => ?_) ⟨⟨_, Heap.get?_push_size _ rfl, rfl, rfl⟩, hpush _⟩)
  · rcases List.mem_cons.mp hb with q | q
    · exact .inl q
    · rw [List.mem_singleton.mp q]
      exact .inr ⟨nP, lt⟩
  · have hq2 : its[i]? = some q := by simpa using hq
    have hi2 : i < its.length := (List.getElem?_eq_some_iff.mp hq2).1
    have hx : i < xs.length := by rw [rv.length]; exact hi2
    obtain ⟨w, e1, e2⟩ := rv.get (List.getElem?_eq_getElem hx)
    rw [hq2] at e1
    cases e1
    exact ⟨xs[i], List.getElem?_eq_getElem hx, e2⟩
/-- the element, of the i-th value a test f i; the heap grows -/
def Elt (X : Cx) (σ : L2.St) (P : Addr) (scope : Scope) (x : Str) (elt : Expr) (vs : List V) (f : Nat → Bool) (H1 : Hp) : Prop :=
  ∀ (pins : List (Addr × Obj)) (s1 : Shared), Inv X pins σ H1 s1 → ∀ (cenv : Env) (A' : Around) (E' : Value → Shared → Prop) (i : Nat) (v : V) (u : Value) (s2 : Shared) (m2 : Str → Option Value),
    cenv.scope = scope → cenv.cells = cloFrom X.env.cells scope.names [] → cenv.globals = X.env.globals → A'.handled = none → vs[i]? = some v → RelV v u → s2.heap.Ns cenv.locals m2 → m2 x = some u →
    (∀ b o, b ≠ P → s1.heap.get? b = some o → s2.heap.get? b = some o) → wpAny (model X.prog X.w) A' (eval elt cenv) (fun y s3 => y = .bool (f i) ∧ Keeps s2 s3) E' s2
theorem gen_any {pins : List (Addr × Obj)} {σ : L2.St} {H : Hp} {s : Shared} {c P : Addr} {elt iter : Expr} {x : Str} {px gp : Pos} {scope : Scope} {te : TE} {k : Nat} {Qg : Value → Shared → Prop} {R : Nat → (Nat → Bool) → Hp → Prop}
    (hr : Room k X.A) (TB : GxR.TabB X.base X.mg c P) (hcode : X.env.code = .ref c) (hS : genOk X.env.scope scope x = true) (hi : PE X iter te) (hs : ∀ v, genFold iter X.env v = pure v) (I : Inv X pins σ H s)
    (h : te σ H fun v H1 => GxR.TabG H1 P ∧ ∃ vs f, Src X P v vs H1 ∧ Elt X σ P scope x elt vs f H1 ∧ R vs.length f H1)
    (hQ : ∀ (n : Nat) (f : Nat → Bool) (H1 : Hp) (g : Addr) (s5 : Shared) (fp wr : List Addr) (G : Array GenState → Array GenState → Prop) (F : Nat → Value → Prop) (St : Nat → Shared → Prop), R n f H1 → WalksS X.prog X.w X.A.in1 g fp wr G n F St → St 0 s5 →
      TruthOf X.prog X.w X.A.in1 F f → (∀ s', Moved wr G s5 s' → ∃ H2, GxR.Tabbed P H1 H2 ∧ Inv X pins σ H2 s') → Qg (.ref g) s5) :
    wpAny (model X.prog X.w) X.A (eval (.GeneratorExp elt [⟨.Name x px, iter, [], 0⟩] scope gp) X.env) Qg X.xe s := by
  have S := genOk_s I hS
  refine wpAny_GeneratorExp_walksQ hr.hd S.co (closure_ok S.free) S.cell S.dot S.loc S.kind (by have z := hr.dp; omega) ?_ hs
  refine thn (hi.run pins s σ H _ I h) fun u s1 ⟨v, H1, I1, r1, tabP, vs, f, src, el, rr⟩ => ?_
  obtain ⟨ps, hP, trip⟩ := tabP
  refine src pins σ s1 u _ _ I1 r1 fun ob fp St hfp W st0 => ?_
  have atP : s1.heap.get? P = some { cls := .none, data := .fields ps } := I1.hok P _ hP
  have ltP : P < s1.heap.objs.size := Heap.lt_size atP
  have atP2 := Heap.get?_push_of_some ob atP
  have limit2 := I1.nolimit.push ob
  have codeHd := TB.code.keeps (h' := s1.heap.push ob) fun b q e => Heap.get?_push_of_some _ (I1.bk b q e)
  have size2 : (s1.heap.push ob).objs.size = s1.heap.objs.size + 1 := Heap.size_push ..
  have main : ∀ (code : Value) (h3 : Heap) (tk : Nat) (qs : Array Value), Heap.ExtBut P (s1.heap.push ob) h3 → (s1.heap.push ob).objs.size ≤ h3.objs.size → h3.get? P = some { cls := .none, data := .fields qs } → (∃ more, qs = ps ++ more) → TriplesOk qs.toList → wpAny (model X.prog X.w) X.A (builtinsFor X.env.globals X.env.builtins) (fun bi s4 => ∃ Ia fp' wr' n' P' St' pz F', Value.ref s1.heap.objs.size = .ref Ia ∧ (∀ A' : Around, A'.handled = none → Walks X.prog X.w A' Ia fp' wr' n' P' St') ∧ St' 0 s4.heap ∧ (∀ b ∈ fp', b < s4.heap.objs.size) ∧ s4.heap.NoLimit ∧ cStatics ∉ wr' ∧ (∀ hf : Heap, (∀ b o, s4.heap.get? b = some o → hf.get? b = some o) → QuietGen X.prog X.w (genEnv scope (cloFrom X.env.cells scope.names []) s4.heap.objs.size code bi X.env) x [] elt (List.range s4.heap.objs.size) wr' P' pz F' hf) ∧ (∀ a h5 tk5 gs, gs.bare = true → s4.heap.objs.size < a → h5.objs.size = a + 1 → (∀ b o, s4.heap.get? b = some o → h5.get? b = some o) → WalksS X.prog X.w X.A.in4 a (a :: s4.heap.objs.size :: List.range s4.heap.objs.size) (s4.heap.objs.size :: wr') (GenOnlyQ s4.gens.size) (passing pz n' 0).length (fun j y => ∃ i, (passing pz n' 0)[j]? = some i ∧ F' i y) (GenAt X.prog X.w X.A.in4 a s4.gens.size s4.heap.objs.size (List.range s4.heap.objs.size) wr' pz n' F') → GenAt X.prog X.w X.A.in4 a s4.gens.size s4.heap.objs.size (List.range s4.heap.objs.size) wr' pz n' F' 0 { s4 with gens := s4.gens.push gs, toks := tk5, heap := h5 } → Qg (.ref a) { s4 with gens := s4.gens.push gs, toks := tk5, heap := h5 })) X.xe { s1 with heap := h3, toks := tk } := by
    intro code h3 tk qs hx hsz hP3 hmore trip3
    obtain ⟨bm, obm, b1, b2, b3, b4, b5, b6, b7, b8⟩ := TB.bm
    have statics : cStatics < s1.heap.objs.size := let ⟨_, q, _⟩ := I1.nolimit; q.lt
    have staticsP : cStatics ≠ P := fun e => by
      obtain ⟨_, ns, _⟩ := I1.nolimit
      obtain ⟨o', es, ep, q1, q2, _⟩ := ns
      rw [e, atP] at q1
      cases q1
      cases q2
    have kept3 : ∀ b q, b ≠ P → s1.heap.get? b = some q → h3.get? b = some q := fun b q nb e => hx b q nb (Heap.get?_push_of_some _ e)
    have globals : h3.Ns X.env.globals X.mg := by
      rw [I1.ok.glob]
      exact ((I1.mod.glob.keeps I1.bk).push ob).extBut hx TB.gP
    refine wpAny_builtinsFor globals b1 b2 (kept3 _ _ b4 (I1.bk _ _ b5)) b6 b7 b8 ?_
    refine ⟨s1.heap.objs.size, fp, [s1.heap.objs.size], vs.length, _, St, (fun _ => true), (fun i y => (∃ q, vs[i]? = some q) ∧ y = .bool (f i)), rfl, W, ?_, fun b hb => ?_, limit2.extBut hx staticsP, fun z => ?_, fun hf keep => ?_, ?_⟩
    · refine (W X.A hr.hd).frame _ _ _ st0 fun b hb q e => hx b q (fun z => ?_) e
      rcases hfp b hb with y | y
      · exact Nat.ne_of_lt ltP (z.symm.trans y)
      · exact y.1 z
    · have big : s1.heap.objs.size < h3.objs.size := Nat.lt_of_lt_of_le (by rw [size2]; exact Nat.lt_succ_self _) hsz
      rcases hfp b hb with y | y
      · rw [y]
        exact big
      · exact Nat.lt_trans y.2 big
    · exact Nat.ne_of_lt statics (List.mem_singleton.mp z)
    · refine ⟨fun A' E' i v2 s2 m2 hA hv hn hm hk => ?_, fun A' E' i v2 s2 m2 hA hv _ hn hm hk => ?_⟩
      · rw [List.forIn_nil]
        exact wpAny_pure ⟨rfl, GxR.keeps_refl _⟩
      · obtain ⟨y, hy, ry⟩ := hv
        refine wpAny_mono (el pins s1 I1 _ A' E' i y v2 s2 m2 rfl rfl rfl hA hy ry hn hm fun b o nb e => ?_) (fun z s3 q => ⟨⟨⟨y, hy⟩, q.1⟩, q.2⟩) fun _ _ e => e
        have e3 := kept3 b o nb e
        have lt1 := Heap.lt_size e
        exact hk b (List.mem_range.mpr (Heap.lt_size e3)) (fun z => Nat.ne_of_lt lt1 (List.mem_singleton.mp z)) o (keep b o e3)
    · intro g h5 tk5 gs hgb hag hsz5 hk5 W5 hat
      rw [GxR.passing_true, List.length_range] at W5
      refine hQ vs.length f H1 g _ _ _ _ _ _ rr W5.in4_1 hat ?_ fun s' hm => ?_
      · intro j y sj Qj Ej hy hQj
        obtain ⟨i, hij, _, rfl⟩ := hy
        obtain ⟨hj, ej⟩ := List.getElem?_eq_some_iff.mp hij
        rw [List.getElem_range] at ej
        subst ej
        exact wpAny_truthy_bool hQj
      · obtain ⟨more, em⟩ := hmore
        have notW : ∀ b q, s1.heap.get? b = some q → b ∉ h3.objs.size :: [s1.heap.objs.size] := fun b q e hb => by
          have lt1 := Heap.lt_size e
          rcases List.mem_cons.mp hb with z | z
          · have big : s1.heap.objs.size < h3.objs.size := Nat.lt_of_lt_of_le (by rw [size2]; exact Nat.lt_succ_self _) hsz
            rw [z] at lt1
            exact Nat.lt_irrefl _ (Nat.lt_trans lt1 big)
          · exact Nat.ne_of_lt lt1 (List.mem_singleton.mp z)
        have atPe : s'.heap.get? P = some { cls := .none, data := .fields (ps ++ more) } := by
          rw [← em]
          exact hm.heap P _ (notW P _ atP) (hk5 P _ hP3)
        have J := GxR.inv_tab (more := more) (h' := s'.heap) (g' := s'.gens) (d' := s'.drawn) (t' := s'.toks) I1 hP (fun b q nb e => hm.heap b q (notW b q e) (hk5 b q (kept3 b q nb e))) atPe (AllBare.movedS (I1.bare.push hgb) hm)
        rw [GxR.sh_eta s1 s' hm.os] at J
        exact ⟨_, ⟨⟨ps ++ more, upd_same, by rw [← em]; exact trip3⟩, fun b nb => upd_ne nb⟩, J⟩
  refine ⟨limit2, ?_⟩
  cases hc : codeAmong gp ps.toList with
  | none =>
    refine wpAny_genexprCodeX hcode (codeHd.code atP2 trip) (codeHd.tab atP2) hc fun c' h' tk hx hge hlt hco _ htab _ => ?_
    obtain ⟨_, _, _, _, _, _, _, _, _, _, _, _, _, _, _, _, _, _, _, tr3, _⟩ := hco
    exact main _ h' tk _ hx (Nat.le_trans hge (Nat.le_of_lt hlt)) htab.2 ⟨_, rfl⟩ tr3
  | some cv =>
    refine wpAny_genexprCode_hit hcode (codeHd.code atP2 trip) hc ?_
    exact main cv _ s1.toks ps (Heap.ExtBut.refl _ _) (Nat.le_refl _) atP2 ⟨#[], by simp⟩ trip
theorem boot_all' : bootBuiltins "all" = some (.builtin "all") := by decide +kernel
/-- all(..), any(..) of n tests f -/
def tGen (X : Cx) (b : Bool) (P : Addr) (scope : Scope) (x : Str) (elt : Expr) (te : TE) : TE := fun σ H Q => te σ H fun v H1 => GxR.TabG H1 P ∧ ∃ vs f, Src X P v vs H1 ∧ Elt X σ P scope x elt vs f H1 ∧
  ∀ H2, GxR.Tabbed P H1 H2 → Q (.bl (if b = true then (List.range vs.length).all f else (List.range vs.length).any f)) H2
theorem pe_all {c P : Addr} {elt iter : Expr} {x : Str} {px p pos gp : Pos} {scope : Scope} {te : TE} {k : Nat} (hr : Room k X.A) (hg : Gl X "all") (hm : X.mg "all" = none) (TB : GxR.TabB X.base X.mg c P) (hcode : X.env.code = .ref c)
    (hi : PE X iter te) (hS : genOk X.env.scope scope x = true := by rfl) (hs : ∀ v, genFold iter X.env v = pure v := by exact fun _ => rfl) (he : starEach [.GeneratorExp elt [⟨.Name x px, iter, [], 0⟩] scope gp] X.env = (false, eval (.GeneratorExp elt [⟨.Name x px, iter, [], 0⟩] scope gp) X.env) :: starEach [] X.env := by rfl) :
    PE X (.Call (.Name "all" p) [.GeneratorExp elt [⟨.Name x px, iter, [], 0⟩] scope gp] [] pos) (tGen X true P scope x elt te) := by
  refine ⟨fun pins s σ H Q I h => ?_⟩
  refine wpAny_Call_Name_kw (ld_blt I hg hm boot_all' ?_)
  refine PyProof.Rows.callWith_builtin1 ?_ he (by rfl)
  rw [he]
  show wpAny _ _ (spliced ((false, eval (.GeneratorExp elt [⟨.Name x px, iter, [], 0⟩] scope gp) X.env) :: backTo pos (starEach [] X.env))) _ _ s
  refine Calls.spliced_cons (gen_any (R := fun n f H1 => ∀ H2, GxR.Tabbed P H1 H2 → Q (.bl ((List.range n).all f)) H2) hr TB hcode hS hi hs I h fun n f H1 g s5 fp wr G F St rr W st tr mv => Calls.spliced_nil ?_)
  refine call_all_walkS (W.self 0 _ _ _ st ⟨g, fp, wr, G, n, F, St, f, rfl, W, st, tr, fun s' m => ?_⟩)
  obtain ⟨H2, t2, J⟩ := mv s' m
  exact ⟨.bl _, H2, J, rfl, rr H2 t2⟩
theorem pe_any {c P : Addr} {elt iter : Expr} {x : Str} {px p pos gp : Pos} {scope : Scope} {te : TE} {k : Nat} (hr : Room k X.A) (hg : Gl X "any") (hm : X.mg "any" = none) (TB : GxR.TabB X.base X.mg c P) (hcode : X.env.code = .ref c)
    (hi : PE X iter te) (hS : genOk X.env.scope scope x = true := by rfl) (hs : ∀ v, genFold iter X.env v = pure v := by exact fun _ => rfl) (he : starEach [.GeneratorExp elt [⟨.Name x px, iter, [], 0⟩] scope gp] X.env = (false, eval (.GeneratorExp elt [⟨.Name x px, iter, [], 0⟩] scope gp) X.env) :: starEach [] X.env := by rfl) :
    PE X (.Call (.Name "any" p) [.GeneratorExp elt [⟨.Name x px, iter, [], 0⟩] scope gp] [] pos) (tGen X false P scope x elt te) := by
  refine ⟨fun pins s σ H Q I h => ?_⟩
  refine wpAny_Call_Name_kw (ld_blt I hg hm boot_any ?_)
  refine PyProof.Rows.callWith_builtin1 ?_ he (by rfl)
  rw [he]
  show wpAny _ _ (spliced ((false, eval (.GeneratorExp elt [⟨.Name x px, iter, [], 0⟩] scope gp) X.env) :: backTo pos (starEach [] X.env))) _ _ s
  refine Calls.spliced_cons (gen_any (R := fun n f H1 => ∀ H2, GxR.Tabbed P H1 H2 → Q (.bl ((List.range n).any f)) H2) hr TB hcode hS hi hs I h fun n f H1 g s5 fp wr G F St rr W st tr mv => Calls.spliced_nil ?_)
  refine call_any_walkS (W.self 0 _ _ _ st ⟨g, fp, wr, G, n, F, St, f, rfl, W, st, tr, fun s' m => ?_⟩)
  obtain ⟨H2, t2, J⟩ := mv s' m
  exact ⟨.bl _, H2, J, rfl, rr H2 t2⟩
end
end Fc
set_option maxHeartbeats 4000000
/-! Elements of generator expressions, defs. -/
namespace Fc
open PySem PySem.Spec PyProof.Rows L2
/-- the sign c is in the text m -/
def sg (m : Str) (c : Nat) : Bool := decide (c ∈ m.cps.toList)
section
variable {X : Cx}
theorem signs_at {z : Str} {i : Nat} {v : V} (h : (signs z)[i]? = some v) : ∃ c, z.cps.toList[i]? = some c ∧ v = .str ⟨#[c]⟩ := by
  unfold signs at h
  rw [List.getElem?_map] at h
  cases e : z.cps.toList[i]? with
  | none =>
    rw [e] at h
    cases h
  | some c =>
    rw [e] at h
    exact ⟨c, rfl, (Option.some.inj h).symm⟩
theorem signs_len (z : Str) : (signs z).length = z.cps.toList.length := by simp [signs]
theorem all_sg (z : Str) (pb : Nat → Bool) : (List.range (signs z).length).all (GxR.trF pb z.cps.toList) = z.cps.toList.all pb := by
  rw [signs_len]
  exact GxR.all_trF _ _
theorem any_sg (z : Str) (pb : Nat → Bool) : (List.range (signs z).length).any (GxR.trF pb z.cps.toList) = z.cps.toList.any pb := by
  rw [signs_len]
  exact GxR.any_trF _ _
/-- the captured name y, slot j, is read within a generator expression -/
theorem ld_cap {pins : List (Addr × Obj)} {σ : L2.St} {H1 : Hp} {s1 s2 : Shared} {P : Addr} {scope : Scope} {j : Nat} {y : Str} {v : V} {cenv : Env} {A' : Around} {E' Q : Value → Shared → Prop} (I : Inv X pins σ H1 s1) (hS : genOk X.env.scope scope x = true)
    (tb : GxR.TabG H1 P) (hN : X.N[j]? = some y) (hv : σ[j]? = some (some v)) (hy : (y, NameKind.free) ∈ scope.names) (hl : scope.names.lookup y = some .free) (hsc : X.env.scope.names.lookup y = some .cell)
    (e1 : cenv.scope = scope) (e2 : cenv.cells = cloFrom X.env.cells scope.names []) (k : ∀ b o, b ≠ P → s1.heap.get? b = some o → s2.heap.get? b = some o) (hQ : ∀ u, RelV v u → Q u s2) (hn : (y == ("__classdict__" : Str)) = false) :
    wpAny (model X.prog X.w) A' (loadName cenv y) Q E' s2 := by
  have S := genOk_s I hS
  obtain ⟨m, _, hloc⟩ := I.loc
  obtain ⟨u, r, hk⟩ := hloc j y v hN hv (.inr (.inl hsc))
  rcases hk with ⟨q, _⟩ | ⟨_, c, hc, hcell⟩
  · have q2 : X.env.scope.names.lookup y = some .local := q
    rw [hsc] at q2
    cases q2
  · have hcl : cenv.cells.lookup y = some c := by
      rw [e2]
      exact NdefX.clo_has S.free hy hc
    obtain ⟨ps, hP, _⟩ := tb
    have atP := I.hok P _ hP
    have atP : s1.heap.get? P = some { cls := .none, data := .fields ps } := atP
    obtain ⟨oc, ho, hd⟩ := hcell
    have nP : c ≠ P := fun z => by
      rw [z, atP] at ho
      cases ho
      cases hd
    exact wpAny_loadName_free (by rw [e1]; exact S.kind) (show cenv.scope.names.lookup y = some .free by rw [e1]; exact hl) hcl ⟨oc, k c oc nP ho, hd⟩ (hQ u r) hn
theorem ld_own {scope : Scope} {x : Str} {cenv : Env} {A' : Around} {E' Q : Value → Shared → Prop} {s2 : Shared} {m2 : Str → Option Value} {u : Value} {prog : Program} {w : World} (hk : scope.kind = .function) (hl : scope.names.lookup x = some .local) (e1 : cenv.scope = scope) (hn : s2.heap.Ns cenv.locals m2) (hm : m2 x = some u) (h : Q u s2) :
    wpAny (model prog w) A' (loadName cenv x) Q E' s2 := wpAny_loadName_local (by rw [e1]; exact hk) (show cenv.scope.names.lookup x = some .local by rw [e1]; exact hl) hn hm h
theorem ld_gl {pins : List (Addr × Obj)} {σ : L2.St} {H1 : Hp} {s1 s2 : Shared} {P : Addr} {scope : Scope} {y : Str} {u : Value} {pos : Pos} {cenv : Env} {A' : Around} {E' Q : Value → Shared → Prop} (I : Inv X pins σ H1 s1) (tb : GxR.TabG H1 P) (hk : scope.kind = .function)
    (hl : scope.names.lookup y = some .globalImplicit) (hm : X.mg y = some u) (e1 : cenv.scope = scope) (e3 : cenv.globals = X.env.globals) (k : ∀ b o, b ≠ P → s1.heap.get? b = some o → s2.heap.get? b = some o) (hQ : Q u s2) (hd : (y == ("__debug__" : Str)) = false) :
    wpAny (model X.prog X.w) A' (eval (.Name y pos) cenv) Q E' s2 := by
  refine Calls.Name_function_global (by rw [e1]; exact hk) (show cenv.scope.names.lookup y = some .globalImplicit by rw [e1]; exact hl) (Calls.loadGlobal_global (mg := X.mg) ?_ hm hQ) hd
  rw [e3, I.ok.glob]
  have g1 : s1.heap.Ns mainGlobals X.mg := I.mod.glob.keeps I.bk
  obtain ⟨o, es, ep, ho, hdat, r⟩ := g1
  obtain ⟨ps, hP, _⟩ := tb
  have atP : s1.heap.get? P = some { cls := .none, data := .fields ps } := I.hok P _ hP
  refine ⟨o, es, ep, k _ o (fun z => ?_) ho, hdat, r⟩
  rw [z, atP] at ho
  cases ho
  cases hdat
/-- mark in marks, marks captured: a text in slot j -/
theorem elt_cap {σ : L2.St} {P : Addr} {scope : Scope} {x y : Str} {p1 p2 p3 : Pos} {z m : Str} {H1 : Hp} {j : Nat} (hS : genOk X.env.scope scope x = true) (tb : GxR.TabG H1 P) (hv : σ[j]? = some (some (.str m)))
    (hN : X.N[j]? = some y) (hy : (y, NameKind.free) ∈ scope.names) (hl : scope.names.lookup y = some .free) (hsc : X.env.scope.names.lookup y = some .cell) (hn : (y == ("__classdict__" : Str)) = false := by decide) (hd : (y == ("__debug__" : Str)) = false := by decide) (hd2 : (x == ("__debug__" : Str)) = false := by decide) :
    Elt X σ P scope x (.Compare (.Name x p1) [.In] [.Name y p2] p3) (signs z) (GxR.trF (sg m) z.cps.toList) H1 := by
  intro pins s1 I cenv A' E' i v u s2 m2 e1 e2 e3 hA hvi r ns hm k
  have S := genOk_s I hS
  obtain ⟨c, hc, rfl⟩ := signs_at hvi
  obtain ⟨t, rfl⟩ := r
  refine wpAny_Compare1 (wpAny_Name (ld_own S.kind S.loc e1 ns hm (wpAny_Name (ld_cap I hS tb hN hv hy hl hsc e1 e2 k (fun u r => ?_) hn) hd)) hd2)
  obtain ⟨t', rfl⟩ := r
  refine PyProof.Rows.in_str ⟨?_, GxR.keeps_refl _⟩
  rw [GxR.trF_some hc]
  exact congrArg Value.bool (PySem.StrLaws.found_one m c)
/-- letter in LETTERS -/
theorem elt_glo {σ : L2.St} {P : Addr} {scope : Scope} {x y : Str} {p1 p2 p3 : Pos} {z m : Str} {H1 : Hp} (hS : genOk X.env.scope scope x = true) (tb : GxR.TabG H1 P) (hm' : ∃ t, X.mg y = some (.str m t)) (hl : scope.names.lookup y = some .globalImplicit)
    (hd : (y == ("__debug__" : Str)) = false := by decide) (hd2 : (x == ("__debug__" : Str)) = false := by decide) :
    Elt X σ P scope x (.Compare (.Name x p1) [.In] [.Name y p2] p3) (signs z) (GxR.trF (sg m) z.cps.toList) H1 := by
  intro pins s1 I cenv A' E' i v u s2 m2 e1 e2 e3 hA hvi r ns hm k
  have S := genOk_s I hS
  obtain ⟨c, hc, rfl⟩ := signs_at hvi
  obtain ⟨t, rfl⟩ := r
  obtain ⟨t', hg⟩ := hm'
  refine wpAny_Compare1 (wpAny_Name (ld_own S.kind S.loc e1 ns hm (ld_gl I tb S.kind hl hg e1 e3 k ?_ hd)) hd2)
  refine PyProof.Rows.in_str ⟨?_, GxR.keeps_refl _⟩
  rw [GxR.trF_some hc]
  exact congrArg Value.bool (PySem.StrLaws.found_one m c)
end

section
variable {X : Cx}
/-- a reading, what is wanted weakened -/
def eMon (te : TE) : TE := fun σ H Q => ∃ Q0 : VK, te σ H Q0 ∧ ∀ v H1, Q0 v H1 → Q v H1
theorem pe_mono {e : Expr} {te : TE} (h : PE X e te) : PE X e (eMon te) := ⟨fun pins s σ H Q I ⟨Q0, h0, k⟩ => thn (h.run pins s σ H Q0 I h0) fun _ _ ⟨x, H1, I1, r, q⟩ => ⟨x, H1, I1, r, k x H1 q⟩⟩
/-- all, any of «x in y» over a text, y captured, a text in slot j -/
def tCap (b : Bool) (P : Addr) (j : Nat) (te : TE) : TE := fun σ H Q => te σ H fun v H1 => ∃ z m : Str, v = .str z ∧ σ[j]? = some (some (.str m)) ∧ GxR.TabG H1 P ∧ ∀ H2, GxR.Tabbed P H1 H2 → Q (.bl (if b = true then z.cps.toList.all (sg m) else z.cps.toList.any (sg m))) H2
/-- .. y a text of the module -/
def tGlo (b : Bool) (P : Addr) (m : Str) (te : TE) : TE := fun σ H Q => te σ H fun v H1 => ∃ z : Str, v = .str z ∧ GxR.TabG H1 P ∧ ∀ H2, GxR.Tabbed P H1 H2 → Q (.bl (if b = true then z.cps.toList.all (sg m) else z.cps.toList.any (sg m))) H2
theorem pe_allCap {c P : Addr} {iter : Expr} {x y : Str} {px p pos gp p1 p2 p3 : Pos} {scope : Scope} {te : TE} {k j : Nat} (hr : Room k X.A) (hm : X.mg "all" = none) (TB : GxR.TabB X.base X.mg c P) (hcode : X.env.code = .ref c) (hi : PE X iter te) (hN : X.N[j]? = some y := by rfl)
    (hg : Gl X "all" := by rfl) (hS : genOk X.env.scope scope x = true := by rfl) (hs : ∀ v, genFold iter X.env v = pure v := by exact fun _ => rfl) (hy : (y, NameKind.free) ∈ scope.names := by decide +kernel) (hl : scope.names.lookup y = some .free := by rfl) (hsc : X.env.scope.names.lookup y = some .cell := by rfl)
    (hn : (y == ("__classdict__" : Str)) = false := by decide) (hd : (y == ("__debug__" : Str)) = false := by decide) (hd2 : (x == ("__debug__" : Str)) = false := by decide)
    (he : starEach [.GeneratorExp (.Compare (.Name x p1) [.In] [.Name y p2] p3) [⟨.Name x px, iter, [], 0⟩] scope gp] X.env = (false, eval (.GeneratorExp (.Compare (.Name x p1) [.In] [.Name y p2] p3) [⟨.Name x px, iter, [], 0⟩] scope gp) X.env) :: starEach [] X.env := by rfl) :
    PE X (.Call (.Name "all" p) [.GeneratorExp (.Compare (.Name x p1) [.In] [.Name y p2] p3) [⟨.Name x px, iter, [], 0⟩] scope gp] [] pos) (tCap true P j te) :=
  ⟨fun pins s σ H Q I h => (pe_all hr hg hm TB hcode (pe_mono hi) hS hs he).run pins s σ H Q I ⟨_, h, fun v H1 q => by
    obtain ⟨z, m, rfl, hv, tb, q⟩ := q
    refine ⟨tb, signs z, GxR.trF (sg m) z.cps.toList, src_str, elt_cap hS tb hv hN hy hl hsc hn hd hd2, fun H2 t2 => ?_⟩
    have q2 := q H2 t2
    rw [if_pos rfl] at q2 ⊢
    rw [all_sg]
    exact q2⟩⟩
theorem pe_anyCap {c P : Addr} {iter : Expr} {x y : Str} {px p pos gp p1 p2 p3 : Pos} {scope : Scope} {te : TE} {k j : Nat} (hr : Room k X.A) (hm : X.mg "any" = none) (TB : GxR.TabB X.base X.mg c P) (hcode : X.env.code = .ref c) (hi : PE X iter te) (hN : X.N[j]? = some y := by rfl)
    (hg : Gl X "any" := by rfl) (hS : genOk X.env.scope scope x = true := by rfl) (hs : ∀ v, genFold iter X.env v = pure v := by exact fun _ => rfl) (hy : (y, NameKind.free) ∈ scope.names := by decide +kernel) (hl : scope.names.lookup y = some .free := by rfl) (hsc : X.env.scope.names.lookup y = some .cell := by rfl)
    (hn : (y == ("__classdict__" : Str)) = false := by decide) (hd : (y == ("__debug__" : Str)) = false := by decide) (hd2 : (x == ("__debug__" : Str)) = false := by decide)
    (he : starEach [.GeneratorExp (.Compare (.Name x p1) [.In] [.Name y p2] p3) [⟨.Name x px, iter, [], 0⟩] scope gp] X.env = (false, eval (.GeneratorExp (.Compare (.Name x p1) [.In] [.Name y p2] p3) [⟨.Name x px, iter, [], 0⟩] scope gp) X.env) :: starEach [] X.env := by rfl) :
    PE X (.Call (.Name "any" p) [.GeneratorExp (.Compare (.Name x p1) [.In] [.Name y p2] p3) [⟨.Name x px, iter, [], 0⟩] scope gp] [] pos) (tCap false P j te) :=
  ⟨fun pins s σ H Q I h => (pe_any hr hg hm TB hcode (pe_mono hi) hS hs he).run pins s σ H Q I ⟨_, h, fun v H1 q => by
    obtain ⟨z, m, rfl, hv, tb, q⟩ := q
    refine ⟨tb, signs z, GxR.trF (sg m) z.cps.toList, src_str, elt_cap hS tb hv hN hy hl hsc hn hd hd2, fun H2 t2 => ?_⟩
    have q2 := q H2 t2
    rw [if_neg Bool.false_ne_true] at q2 ⊢
    rw [any_sg]
    exact q2⟩⟩
theorem pe_allGlo {c P : Addr} {iter : Expr} {x y m : Str} {px p pos gp p1 p2 p3 : Pos} {scope : Scope} {te : TE} {k : Nat} (hr : Room k X.A) (hm : X.mg "all" = none) (TB : GxR.TabB X.base X.mg c P) (hcode : X.env.code = .ref c) (hi : PE X iter te) (hmY : ∃ t, X.mg y = some (.str m t))
    (hg : Gl X "all" := by rfl) (hS : genOk X.env.scope scope x = true := by rfl) (hs : ∀ v, genFold iter X.env v = pure v := by exact fun _ => rfl) (hl : scope.names.lookup y = some .globalImplicit := by rfl) (hd : (y == ("__debug__" : Str)) = false := by decide) (hd2 : (x == ("__debug__" : Str)) = false := by decide)
    (he : starEach [.GeneratorExp (.Compare (.Name x p1) [.In] [.Name y p2] p3) [⟨.Name x px, iter, [], 0⟩] scope gp] X.env = (false, eval (.GeneratorExp (.Compare (.Name x p1) [.In] [.Name y p2] p3) [⟨.Name x px, iter, [], 0⟩] scope gp) X.env) :: starEach [] X.env := by rfl) :
    PE X (.Call (.Name "all" p) [.GeneratorExp (.Compare (.Name x p1) [.In] [.Name y p2] p3) [⟨.Name x px, iter, [], 0⟩] scope gp] [] pos) (tGlo true P m te) :=
  ⟨fun pins s σ H Q I h => (pe_all hr hg hm TB hcode (pe_mono hi) hS hs he).run pins s σ H Q I ⟨_, h, fun v H1 q => by
    obtain ⟨z, rfl, tb, q⟩ := q
    refine ⟨tb, signs z, GxR.trF (sg m) z.cps.toList, src_str, elt_glo hS tb hmY hl hd hd2, fun H2 t2 => ?_⟩
    have q2 := q H2 t2
    rw [if_pos rfl] at q2 ⊢
    rw [all_sg]
    exact q2⟩⟩
theorem pe_anyGlo {c P : Addr} {iter : Expr} {x y m : Str} {px p pos gp p1 p2 p3 : Pos} {scope : Scope} {te : TE} {k : Nat} (hr : Room k X.A) (hm : X.mg "any" = none) (TB : GxR.TabB X.base X.mg c P) (hcode : X.env.code = .ref c) (hi : PE X iter te) (hmY : ∃ t, X.mg y = some (.str m t))
    (hg : Gl X "any" := by rfl) (hS : genOk X.env.scope scope x = true := by rfl) (hs : ∀ v, genFold iter X.env v = pure v := by exact fun _ => rfl) (hl : scope.names.lookup y = some .globalImplicit := by rfl) (hd : (y == ("__debug__" : Str)) = false := by decide) (hd2 : (x == ("__debug__" : Str)) = false := by decide)
    (he : starEach [.GeneratorExp (.Compare (.Name x p1) [.In] [.Name y p2] p3) [⟨.Name x px, iter, [], 0⟩] scope gp] X.env = (false, eval (.GeneratorExp (.Compare (.Name x p1) [.In] [.Name y p2] p3) [⟨.Name x px, iter, [], 0⟩] scope gp) X.env) :: starEach [] X.env := by rfl) :
    PE X (.Call (.Name "any" p) [.GeneratorExp (.Compare (.Name x p1) [.In] [.Name y p2] p3) [⟨.Name x px, iter, [], 0⟩] scope gp] [] pos) (tGlo false P m te) :=
  ⟨fun pins s σ H Q I h => (pe_any hr hg hm TB hcode (pe_mono hi) hS hs he).run pins s σ H Q I ⟨_, h, fun v H1 q => by
    obtain ⟨z, rfl, tb, q⟩ := q
    refine ⟨tb, signs z, GxR.trF (sg m) z.cps.toList, src_str, elt_glo hS tb hmY hl hd hd2, fun H2 t2 => ?_⟩
    have q2 := q H2 t2
    rw [if_neg Bool.false_ne_true] at q2 ⊢
    rw [any_sg]
    exact q2⟩⟩
end
/-! ### defs -/
/-- the def st of the text stands under its name -/
structure DefAt (K : PySem.W.Frag) (mg : Str → Option Value) (x : Str) (st : Stmt) : Prop where
  fn : ∃ fd, FunD K x x (defArgs st) (defBody st) (defScope st) [] [] (He.ga K x) fd
  mgf : mg x = some (.ref (He.ga K x))
/-- its code object, its table -/
abbrev cO (K : PySem.W.Frag) (x : Str) : Addr := (He.cT K (x, none)).1
abbrev tO (K : PySem.W.Frag) (x : Str) : Addr := (He.cT K (x, none)).2
section
variable {P : Program} {w : World} {K : PySem.W.Frag} {mg : Str → Option Value} {base : Heap}
theorem fn_mk {CX : CXT} {x : Str} {st : Stmt} {fd : FuncData} {N ps : List Str} {k : Nat} {sp : Sp} (F : FunD K x x (defArgs st) (defBody st) (defScope st) [] [] (He.ga K x) fd) (S : FnScope N ps (defScope st)) (len : ∀ vs H Q E, sp vs H Q E → vs.length = ps.length)
    (hbody : ∀ (A : Around) (outer : List Env) (s : Shared) (H : Hp) (vs : List V) (Q : VK) (E : XK), Room k (A.deeper (envOfC x (defScope st) s.heap.objs.size (He.ga K x) (.ref (cO K x)))) → sp vs H Q E →
      ∃ t, PSs (cxOf CX P w K mg base N x (defScope st) (He.ga K x) (.ref (cO K x)) A outer s H E) (defBody st) t ∧ t { nx := fun _ H' => Q .non H', rt := Q } (start N vs) H) : FnOk P w K mg base CX (k + 1) (He.ga K x) fd ps sp := by
  obtain ⟨oc, od, dV, kV, doc, pm, an, cdv, ct, osl, rfl, lk, hcd, _, _⟩ := F.ex
  obtain ⟨c, rfl⟩ := He.codeIn_ref hcd
  have e : cO K x = c := He.codeOf_eq (p := (x, none)) lk rfl
  refine fn_of lk hcd S len fun A outer s H vs Q E hr hsp => ?_
  have b := hbody A outer s H vs Q E
  rw [e] at b
  exact b hr hsp
theorem cal_mk {x : Str} {st : Stmt} {N ps : List Str} {k : Nat} {sp : Sp} (D : DefAt K mg x st) (S : FnScope N ps (defScope st)) (len : ∀ vs H Q E, sp vs H Q E → vs.length = ps.length)
    (hb : ∀ (kV doc pm : Value) (an : Option Addr) (cdv ct : Value) (us : List Value), us.length = ps.length → bindArgs (PySem.W.fnOf x x (defArgs st) (defBody st) (defScope st) .none kV doc pm an cdv ct) ⟨us, []⟩ = pure (ps.zip us))
    (hbody : ∀ (A : Around) (outer : List Env) (s : Shared) (H : Hp) (vs : List V) (Q : VK) (E : XK), Room k (A.deeper (envOfC x (defScope st) s.heap.objs.size (He.ga K x) (.ref (cO K x)))) → sp vs H Q E →
      ∃ t, PSs (cxOf CX0 P w K mg base N x (defScope st) (He.ga K x) (.ref (cO K x)) A outer s H E).nox (defBody st) t ∧ t { nx := fun _ H' => Q .non H', rt := Q } (start N vs) H) : C8.Cal P w K mg base (k + 1) x sp [] := by
  obtain ⟨fd, F⟩ := D.fn
  refine ⟨_, fd, ps, [], fn_mk F S len (fun A outer s H vs Q E hr hsp => ?_), D.mgf, F.kp, F.bindsN hb, .nil⟩
  obtain ⟨t, h, q⟩ := hbody A outer s H vs Q E hr hsp
  exact ⟨t, h.nox, q⟩
end
/-! ### what isn't come to -/
section
variable {X : Cx}
def tNev : TS := fun _ _ _ => False
theorem ps_nev {st : Stmt} : PS X st tNev := ⟨fun _ _ _ _ _ _ h => h.elim⟩
def eNev : TE := fun _ _ _ => False
theorem pe_nev {e : Expr} : PE X e eNev := ⟨fun _ _ _ _ _ _ h => h.elim⟩
end
end Fc
set_option maxHeartbeats 4000000
/-! Sets of texts: made of a list or of a text's signs, sorted. -/
namespace Fc
open PySem PySem.Spec PyProof.Rows L2
def keyS (e : Int × Value) : Str := match e.2 with | .str k _ => k | _ => Str.empty
def GoodS (w : World) (e : Int × Value) : Prop := ∃ k tk, e.2 = Value.str k tk ∧ e.1 = hashStr w k
/-- at a a set of the texts l (in some order), each once; it can be walked -/
structure SetS (w : World) (h : Heap) (a : Addr) (l : List Str) : Prop where
  ex : ∃ o es ep t, h.get? a = some o ∧ o.ExactSet ∧ o.data = .set es ep t ∧ (∀ e ∈ es.toList, GoodS w e) ∧ (es.toList.map keyS).Perm l ∧ l.Nodup ∧ es.size < scanBound ∧ t.fits es.size = true ∧ Ris t.place.toList ∧ (w.params.followText "set-order" = true ∨ t.led = true)
section
variable {P : Program} {w : World} {A : Around} {E : Value → Shared → Prop} {s : Shared} {h h' : Heap} {a : Addr} {l : List Str}
theorem SetS.at (R : SetS w h a l) (k : ∀ o, h.get? a = some o → h'.get? a = some o) : SetS w h' a l := by
  obtain ⟨o, es, ep, t, ho, r⟩ := R.ex
  exact ⟨o, es, ep, t, k o ho, r⟩
theorem goodS_elems {es : List (Int × Value)} (g : ∀ e ∈ es, GoodS w e) : ElemsOf (PySem.strKind P w) es := fun e he => by
  obtain ⟨k, tk, h1, h2⟩ := g e he
  exact ⟨⟨k, by rw [h1]; exact strKind_is P w k tk, h2⟩, by rw [h1] <;> rfl⟩
theorem goodS_is {e : Int × Value} (g : GoodS w e) (k : Str) : (PySem.strKind P w).is k e.2 = true ↔ keyS e = k := by
  obtain ⟨k0, tk, h1, _⟩ := g
  unfold keyS
  rw [h1]
  constructor
  · intro z
    obtain ⟨t, q⟩ := Value.isStrOf_shape (x := k) (v := .str k0 tk) z
    injection q
  · intro z
    have z : k0 = k := z
    rw [z]
    exact strKind_is P w k tk
theorem SetS.setOf (R : SetS w h a l) : h.SetOf (PySem.strKind P w) a (fun k => decide (k ∈ l)) l.length := by
  obtain ⟨o, es, ep, t, ho, hx, hd, g, pm, nd, hb, hf, _⟩ := R.ex
  refine ⟨o, es, ep, t, ho, hx, hd, goodS_elems g, fun k => ?_, hb, hf, by rw [← pm.length_eq, List.length_map, Array.length_toList]⟩
  rw [decide_eq_true_eq, ← pm.mem_iff, List.mem_map]
  exact ⟨fun ⟨e, he, q⟩ => ⟨e, he, (goodS_is (g e he) k).2 q⟩, fun ⟨e, he, q⟩ => ⟨e, he, (goodS_is (g e he) k).1 q⟩⟩
theorem addS_tail {gw : Bool → Sem Unit} (hg : ∀ (b : Bool) (s1 : Shared) (Q' : Unit → Shared → Prop), Q' () s1 → wpAny (model P w) A (gw b) Q' E s1) {o : Obj} {es : Array (Int × Value)} {ep : Nat} {t : SetTable} (ho : s.heap.get? a = some o) (hex : o.ExactSet) (hd : o.data = .set es ep t)
    {fs : Array (Int × Value)} {u : SetTable} (gf : ∀ e ∈ fs.toList, GoodS w e) (pf : (fs.toList.map keyS).Perm l) (nd : l.Nodup) (bf : fs.size < scanBound) (ff : u.fits fs.size = true) (rf : Ris u.place.toList) (lf : w.params.followText "set-order" = true ∨ u.led = true) {wasD : Bool} {R : Option Bool → Shared → Prop}
    (hR : ∀ h', Heap.SameBut a s.heap h' → SetS w h' a l → R (some true) { s with heap := h' }) :
    wpAny (model P w) A (do
      storeSet a fs u; if (!wasD && u.tooFull) = true then do { gw (relayAll u fs (SetTable.grown fs.size)).2.2; storeSet a (relayAll u fs (SetTable.grown fs.size)).1 (relayAll u fs (SetTable.grown fs.size)).2.1; pure (some true) } else pure (some true)) R E s := by
  refine wpAny_bind (wpAny_storeSet_of ho hd ?_ (fits_of_scanBound bf))
  have st1 := store_at (es' := fs) (t' := u) ho hd
  have same1 := Heap.SameBut.update s.heap a (Obj.putSet fs u)
  by_cases c : (!wasD && u.tooFull) = true
  · rw [if_pos c]
    have p3 := relayAll_perm u fs (SetTable.grown fs.size)
    have f3 := relayAll_fits u fs (SetTable.grown fs.size)
    have r3 := relayAll_ris u fs (SetTable.grown fs.size)
    have l3 := relayAll_led u fs (SetTable.grown fs.size)
    generalize relayAll u fs (SetTable.grown fs.size) = Z at p3 f3 r3 l3 ⊢
    obtain ⟨gs, v, gave⟩ := Z
    dsimp only at p3 f3 r3 l3 ⊢
    have sz : gs.size = fs.size := by rw [← Array.length_toList, p3.length_eq, Array.length_toList]
    have bg : gs.size < scanBound := by rw [sz]; exact bf
    refine wpAny_bind (hg _ _ _ (wpAny_bind (wpAny_storeSet_of st1 rfl ?_ (fits_of_scanBound bg))))
    have st2 := store_at (es' := gs) (t' := v) st1 rfl
    exact wpAny_pure (hR _ (same1.trans (Heap.SameBut.update _ a _)) ⟨_, gs, _, v, st2, hex, rfl, fun e he => gf e (p3.mem_iff.mp he), (p3.map keyS).trans pf, nd, bg, f3, r3, lf.imp id fun z => by rw [l3]; exact z⟩)
  · rw [if_neg c]
    exact wpAny_pure (hR _ same1 ⟨_, fs, _, u, st1, hex, rfl, gf, pf, nd, bf, ff, rf, lf⟩)
/-- a text is put in -/
theorem addS_hashed {k : Str} {tk : Tok} {Q : Bool → Shared → Prop} (R : SetS w s.heap a l) (room : l.length + 1 < scanBound)
    (hQ : ∀ (b : Bool) (h' : Heap) (l' : List Str), Heap.SameBut a s.heap h' → SetS w h' a l' → l' = (if k ∈ l then l else k :: l) → Q b { s with heap := h' }) :
    wpAny (model P w) A (setAddHashed a (.str k tk) (hashStr w k)) Q E s := by
  obtain ⟨o, es, ep, t, ho, hex, hd, g, pm, nd, hb, hf, hr, hl⟩ := R.ex
  have is1 : (PySem.strKind P w).is k (.str k tk) = true := strKind_is P w k tk
  have scn : (Value.str k tk).scannable = true := rfl
  have els : ElemsOf (PySem.strKind P w) es.toList := goodS_elems g
  show wpAny _ _ (setAddHashed a (.str k tk) ((PySem.strKind P w).hash k)) _ _ _
  unfold setAddHashed setAddHashedIn
  refine wpAny_holding (wpAny_bind (wpAny_setState_of ho hd hf ?_)); dsimp only
  rw [byScan_of scn hb els]
  simp only [↓reduceIte]
  unfold setAddByScan
  refine wpAny_bind (wpAny_bind (wpAny_rule (wpAny_bind (wpAny_setScan_of is1 ho hd hf els ?_))))
  cases hfi : List.findIdx? (fun e => (PySem.strKind P w).is k e.2) es.toList with
  | some j =>
    dsimp only
    obtain ⟨hj, pj, _⟩ := List.findIdx?_eq_some_iff_getElem.mp hfi
    have hin : k ∈ l := pm.mem_iff.mp (List.mem_map.mpr ⟨es.toList[j], List.getElem_mem hj, (goodS_is (P := P) (g _ (List.getElem_mem hj)) k).1 pj⟩)
    exact wpAny_pure (wpAny_pure (hQ _ s.heap l (Heap.SameBut.refl a s.heap) R (by rw [if_pos hin])))
  | none =>
    dsimp only
    have hout : k ∉ l := fun z => by
      obtain ⟨e, he, q⟩ := List.mem_map.mp (pm.mem_iff.mpr z)
      have c := List.findIdx?_eq_none_iff.mp hfi e he
      rw [(goodS_is (P := P) (g e he) k).2 q] at c
      cases c
    have p1 := layNew_perm t es ((PySem.strKind P w).hash k) (.str k tk)
    have f1 := layNew_fits t es ((PySem.strKind P w).hash k) (.str k tk)
    have r1 := layNew_ris t es ((PySem.strKind P w).hash k) (.str k tk) hr
    have l1 := layNew_led t es ((PySem.strKind P w).hash k) (.str k tk)
    generalize layNew t es ((PySem.strKind P w).hash k) (.str k tk) = Z at p1 f1 r1 l1 ⊢
    obtain ⟨fs, u, wasD, gave⟩ := Z
    dsimp only at p1 f1 r1 l1 ⊢
    rw [Array.toList_push] at p1
    have pc : fs.toList.Perm (((PySem.strKind P w).hash k, Value.str k tk) :: es.toList) := p1.trans (List.perm_append_singleton _ _)
    have pk : (fs.toList.map keyS).Perm (k :: l) := (pc.map keyS).trans (List.Perm.cons k pm)
    have gf : ∀ e ∈ fs.toList, GoodS w e := fun e he => by
      rcases List.mem_cons.mp (pc.mem_iff.mp he) with z | z
      · rw [z]
        exact ⟨k, tk, rfl, rfl⟩
      · exact g e z
    have nd1 : (k :: l).Nodup := List.nodup_cons.mpr ⟨hout, nd⟩
    have bf : fs.size < scanBound := by
      have q := pk.length_eq
      rw [List.length_map, Array.length_toList, List.length_cons] at q
      omega
    have led1 : w.params.followText "set-order" = true ∨ u.led = true := hl.imp id fun z => by rw [l1]; exact z
    have fin : ∀ (b : Bool) (h' : Heap), Heap.SameBut a s.heap h' → SetS w h' a (k :: l) → Q b { s with heap := h' } := fun b h' sb r => hQ b h' _ sb r (by rw [if_neg hout])
    have gw : ∀ (b : Bool) (s1 : Shared) (Q' : Unit → Shared → Prop), Q' () s1 → wpAny (model P w) A (match b with | true => rule "set.scan.the-table-gave-way" | false => pure ()) Q' E s1 := fun b s1 Q' q => by cases b <;> first | exact wpAny_pure q | exact wpAny_rule q
    refine wpAny_bind (gw _ _ _ ?_)
    split
    · refine wpAny_bind ?_
      rw [hashByValue_scannable 8 scn]
      refine wpAny_pure (addS_tail ?_ ho hex hd gf pk nd1 bf ?_ ?_ ?_ ?_)
      · intro b s1 Q' q; cases b <;> first | exact wpAny_pure q | exact wpAny_rule q
      · first | (split <;> first | exact f1 | exact SetTable.fits_plain_off f1) | exact f1
      · first | (split <;> exact r1) | exact r1
      · first | (split <;> exact led1) | exact led1
      · intro h' sb r; exact wpAny_pure (fin _ h' sb r)
    · refine wpAny_bind (wpAny_pure ?_)
      simp only [↓reduceIte]
      refine addS_tail ?_ ho hex hd gf pk nd1 bf f1 r1 led1 ?_
      · intro b s1 Q' q; cases b <;> first | exact wpAny_pure q | exact wpAny_rule q
      · intro h' sb r; exact wpAny_pure (fin _ h' sb r)
end
end Fc
set_option maxHeartbeats 8000000
namespace Fc
open PySem PySem.Spec PyProof.Rows L2
/-- the texts of the first i, the latest first, each once -/
def metS (f : Nat → Str) : Nat → List Str
  | 0 => []
  | i + 1 => if f i ∈ metS f i then metS f i else f i :: metS f i
theorem metS_len (f : Nat → Str) : ∀ i, (metS f i).length ≤ i
  | 0 => Nat.le_refl _
  | i + 1 => by
    have ih := metS_len f i
    unfold metS
    split
    · omega
    · rw [List.length_cons]
      omega
theorem metS_mem (f : Nat → Str) (k : Str) : ∀ i, k ∈ metS f i ↔ ∃ j, j < i ∧ f j = k
  | 0 => by simp [metS]
  | i + 1 => by
    have ih := metS_mem f k i
    have key : k ∈ metS f (i + 1) ↔ k = f i ∨ k ∈ metS f i := by
      show k ∈ (if f i ∈ metS f i then metS f i else f i :: metS f i) ↔ _
      split
      · rename_i c
        exact ⟨.inr, fun z => z.elim (fun e => e ▸ c) id⟩
      · exact List.mem_cons
    rw [key, ih]
    constructor
    · rintro (z | ⟨j, hj, z⟩)
      · exact ⟨i, Nat.lt_succ_self i, z.symm⟩
      · exact ⟨j, Nat.lt_succ_of_lt hj, z⟩
    · rintro ⟨j, hj, z⟩
      rcases Nat.lt_succ_iff_lt_or_eq.mp hj with q | q
      · exact .inr ⟨j, q, z⟩
      · exact .inl (by rw [← z, q])
section
variable {prog : Program} {w : World} {A : Around} {R : Result → Shared → Prop} {I : Addr} {fp wr : List Addr} {G : Array GenState → Array GenState → Prop} {n : Nat} {P : Nat → Value → Prop} {St : Nat → Shared → Prop}
theorem loop_strs (W : WalksS prog w A.in1 I fp wr G n P St) (S : Addr) (hSf : S ∉ fp) (f : Nat → Str) (hf : ∀ i v, P i v → ∃ t, v = .str (f i) t) (hb : n + 1 < scanBound) :
    ∀ (k i : Nat) (s : Shared), n - i = k → i ≤ n → St i s → SetS w s.heap S (metS f i) → (∀ s', Moved (S :: wr) G s s' → SetS w s'.heap S (metS f n) → R (.ok (.ret .none)) s') →
      codeAny (model prog w) A (.builtin "set.update.loop" ⟨[.ref S, .ref I], []⟩) R s := by
  have outW : S ∉ wr := fun h => hSf (W.sub _ h)
  have subW : ∀ b ∈ wr, b ∈ S :: wr := fun b hb => List.mem_cons_of_mem _ hb
  intro k
  induction k with
  | zero =>
    intro i s hk hi st hS hR
    have e : i = n := by omega
    subst e
    refine codeAny_builtin PyProof.Rows.F.entry_set_update_loop ?_
    rw [Around.under_plainId PyProof.Rows.F.plain_set_update_loop _]
    refine wpAny_bind (m := pyNext (.ref I)) (W.done s _ _ st fun s' mv => ?_)
    exact wpAny_pure (hR s' (mv.mono subW) (hS.at fun o ho => mv.heap S _ outW ho))
  | succ k ih =>
    intro i s hk hi st hS hR
    have lt : i < n := by omega
    refine codeAny_builtin PyProof.Rows.F.entry_set_update_loop ?_
    rw [Around.under_plainId PyProof.Rows.F.plain_set_update_loop _]
    refine wpAny_bind (m := pyNext (.ref I)) (W.item i s _ _ lt st fun v s' hP st' mv => ?_)
    obtain ⟨t, rfl⟩ := hf i v hP
    have hS' : SetS w s'.heap S (metS f i) := hS.at fun o ho => mv.heap S _ outW ho
    refine wpAny_bind (m := holding [Value.str (f i) t] (setAdd S (.str (f i) t))) (wpAny_holding ?_)
    unfold setAdd
    refine wpAny_holding (wpAny_bind ((PySem.strKind prog w).pyHash (k := f i) (strKind_is _ _ _ _) ?_))
    have room : (metS f i).length + 1 < scanBound := by have z := metS_len f i; omega
    refine addS_hashed (s := { s' with toks := s'.toks + 1 }) hS' room fun b h' l' sb hS2 el => ?_
    have el2 : l' = metS f (i + 1) := el
    rw [el2] at hS2
    refine wpAny_pure ⟨plainId_quiet PyProof.Rows.F.plain_set_update_loop _, ih (i + 1) _ (by omega) lt (W.frame _ s' _ _ st' (Nat.le_succ _) fun b hb o e => ?_) hS2 fun s2 mv2 hS3 => hR s2 (Moved.trans W.gtrans ((mv.mono subW).then_heap (Nat.le_succ _) fun b o hb e => ?_) mv2) hS3⟩
    · rw [sb.2 b (fun z : b = S => hSf (by rw [← z]; exact hb))]
      exact e
    · rw [sb.2 b (fun z : b = S => hb (by rw [z]; exact List.mem_cons_self))]
      exact e
end
section
variable {prog : Program} {w : World} {A : Around} {E : Value → Shared → Prop} {s : Shared}
theorem newS {w : World} {o : Obj} (hl : o = { cls := .type "set", dict := none, data := .set #[] 0 (.fresh 0 0 (!w.params.followText "set-order")) }) {h : Heap} {a : Addr} (h1 : h.get? a = some o) : SetS w h a [] := by
  subst hl
  refine ⟨_, #[], 0, _, h1, ⟨rfl, rfl, rfl⟩, rfl, fun e he => by simp at he, List.Perm.nil, List.nodup_nil, by decide, rfl, List.Pairwise.nil, ?_⟩
  cases w.params.followText "set-order" <;> simp [SetTable.fresh]
theorem new_set1 (a : Value) {Q1 : Value → Shared → Prop} (h : Q1 (.ref s.heap.objs.size) { s with heap := s.heap.push { cls := .type "set", dict := none, data := .set #[] 0 (.fresh 0 0 (!w.params.followText "set-order")) } }) :
    codeAny (model prog w) A (.call (.builtin "set.__new__") ⟨[.type "set", a], []⟩) (wants Q1 E) s := by
  refine codeAny_of_tree (show wpAny _ A.in1 (do checkBuiltinCall "set.__new__" ⟨[.type "set", a], []⟩; again (.builtin "set.__new__" ⟨[.type "set", a], []⟩)) _ _ s from ?_)
  refine wpAny_bind (wpAny_of_eq (PySem.F.newCall_set_1 a) (wpAny_pure ⟨plainId_quiet PySem.F.plain_set_new _, codeAny_builtin PySem.F.entry_set_new ?_⟩))
  rw [Around.under_plainId PySem.F.plain_set_new _]; unfold Builtin.«set.__new__» Builtin.Frozenset.newClass
  have hsub := sub_set_self; obtain ⟨hp, g, d, tk, os⟩ := s; dsimp only; wp_walk
  refine wpAny_askSetting (wpAny_pure ?_); dsimp only; simp only [newObj]
  exact wpAny_bind (wpAny_alloc (wpAny_pure (wpAny_pure h)))
theorem set_of_list {l : Addr} {items : Array Value} {f : Nat → Str} {Q : Value → Shared → Prop} (hh : A.handled = none) (hl : s.heap.IsList l items) (hi : ∀ (i : Nat) (v : Value), items[i]? = some v → ∃ t, v = .str (f i) t) (hb : items.size + 1 < scanBound)
    (h : ∀ (h' : Heap) (tk : Nat), SetS w h' s.heap.objs.size (metS f items.size) → (∀ b o, b < s.heap.objs.size → s.heap.get? b = some o → h'.get? b = some o) → Q (.ref s.heap.objs.size) { s with heap := h', toks := tk }) :
    wpAny (model prog w) A (call (.type "set") [.ref l]) Q E s := by
  obtain ⟨c, tl, hmro⟩ := PySem.F.called_set.mro; have hmade := PySem.F.called_set.made; have hsub := PySem.F.called_set.sub
  refine wpAny_call (codeAny_of_tree (show wpAny _ _ (callAny (.type "set") _) _ _ _ from wpAny_pure ⟨Code.quiet_builtin _ (by decide +kernel), codeAny_builtin PySem.F.entry_type_call ?_⟩))
  rw [Around.under_plain (weight_type_call_type "set" [.ref l] []) rfl]
  have h1 := PySem.F.called_set.notType; have h2 := PySem.F.called_set.canCreate; have hct := PySem.F.typeCall_set_1 (.ref l)
  repeat (any_goals (first | assumption | wp_step))
  refine codeAny_mono (new_set1 (.ref l) (E := E) (Q1 := fun ob s1 => ob = .ref s.heap.objs.size ∧ s1 = { s with heap := s.heap.push { cls := .type "set", dict := none, data := .set #[] 0 (.fresh 0 0 (!w.params.followText "set-order")) } }) ⟨rfl, rfl⟩) fun r s1 hr => ?_
  cases r with
  | error e => exact hr
  | ok fl =>
    cases fl with
    | ret ob =>
      obtain ⟨rfl, rfl⟩ := hr
      generalize hso : ({ cls := .type "set", dict := none, data := .set #[] 0 (.fresh 0 0 (!w.params.followText "set-order")) } : Obj) = so
      have hcl : so.cls = .type "set" := by rw [← hso]
      have atS : (s.heap.push so).get? s.heap.objs.size = some so := Heap.get?_push_size _ (by rw [← hso]; rfl)
      have hT : Shared.TypeIs { s with heap := s.heap.push so } (.ref s.heap.objs.size) "set" := ⟨_, atS, hcl⟩
      have hli := PySem.F.called_set.init.lookup; have hbi := PySem.F.called_set.init.bind (.ref s.heap.objs.size)
      repeat (any_goals (first | assumption | wp_step))
      refine codeAny_mono (codeAny_call_builtin (R := wants (fun r s2 => r = .none ∧ ∃ h' tk, s2 = { s with heap := h', toks := tk } ∧ SetS w h' s.heap.objs.size (metS f items.size) ∧ (∀ b o, b < s.heap.objs.size → s.heap.get? b = some o → h'.get? b = some o)) E) PySem.F.called_set.init.plain PySem.F.entry_set_init (check_set_init_1 hT ?_)) fun r2 s2 hr2 => ?_
      · subst hso
        obtain ⟨ol, hol, hcl2, nl, hdl⟩ := hl
        obtain ⟨ocls, odict, odata, oslots⟩ := ol
        simp only at hcl2 hdl; subst hcl2; subst hdl
        have hol' : (s.heap.push { cls := .type "set", dict := none, data := .set #[] 0 (.fresh 0 0 (!w.params.followText "set-order")) }).get? l = some { cls := .type "list", dict := odict, data := .seq items nl, slots := oslots } := Heap.get?_push_of_some _ hol
        have hsls := PySem.F.sub_list_set; have hslf := PySem.F.sub_list_frozenset; have hne : (Value.type "list" == Value.type "dict") = false := by decide
        have hl1 : (s.heap.push { cls := .type "set", dict := none, data := .set #[] 0 (.fresh 0 0 (!w.params.followText "set-order")) }).IsList l items := ⟨_, hol', rfl, nl, rfl⟩
        unfold Builtin.«set.__init__» noKeywords Builtin.Frozenset.updateFrom; generalize hPI : pyIter = PI; wp_walk; subst hPI
        refine wpAny_pyIter_list hl1 ?_; refine wpAny_bind (wpAny_runValue ?_)
        have ltl : l < s.heap.objs.size := Heap.lt_size hol
        have hh3 : A.in1.in1.in1.handled = none := by simp [hh]
        have neI : l ≠ (s.heap.push { cls := .type "set", dict := none, data := .set #[] 0 (.fresh 0 0 (!w.params.followText "set-order")) }).objs.size := by rw [Heap.size_push]; exact Nat.ne_of_lt (Nat.lt_succ_of_lt ltl)
        have outS : s.heap.objs.size ∉ [(s.heap.push { cls := .type "set", dict := none, data := .set #[] 0 (.fresh 0 0 (!w.params.followText "set-order")) }).objs.size, l] := by
          rw [Heap.size_push]; simp only [List.mem_cons, List.mem_singleton, List.not_mem_nil, or_false, not_or]; exact ⟨Nat.ne_of_lt (Nat.lt_succ_self _), Nat.ne_of_gt ltl⟩
        refine loop_strs ((Walks.list hh3 _ l neI items).toS) s.heap.objs.size outS f (fun i v hv => hi i v hv) hb (items.size - 0) 0 _ (by omega) (Nat.zero_le _) ⟨⟨_, Heap.get?_push_size _ rfl, rfl, rfl⟩, (hl1.push _)⟩ ?hS0 ?hR
        case hS0 => exact newS rfl (Heap.get?_push_of_some _ atS)
        case hR =>
          intro s' mv hS'
          obtain ⟨h', g', d', tk', os'⟩ := s'
          have eg : g' = s.gens := mv.gens; have ed : d' = s.drawn := mv.drawn; have eo : os' = s.os := mv.os
          subst eg; subst ed; subst eo
          refine wpAny_pure (wpAny_pure ⟨rfl, h', tk', rfl, hS', fun b o hb e => mv.heap b o ?_ (Heap.get?_push_of_some _ (Heap.get?_push_of_some _ e))⟩)
          simp only [List.mem_cons, List.mem_singleton, List.not_mem_nil, or_false, not_or]
          exact ⟨Nat.ne_of_lt hb, by rw [Heap.size_push]; exact Nat.ne_of_lt (Nat.lt_succ_of_lt hb)⟩
      · cases r2 with
        | error e => exact hr2
        | ok fl2 =>
          cases fl2 with
          | ret r =>
            obtain ⟨rfl, h', tk, rfl, hS', hk'⟩ := hr2
            repeat (any_goals (first | assumption | wp_step))
            exact h _ _ hS' hk'
          | _ => exact hr2.elim
    | _ => exact hr.elim
end
end Fc
set_option maxHeartbeats 4000000
namespace Fc
open PySem PySem.Spec PyProof.Rows L2
/-! ### texts in order -/
def ltS (a b : Str) : Bool := decide (a.cps.toList < b.cps.toList)
theorem str_ext {a b : Str} (h : a.cps.toList = b.cps.toList) : a = b := by
  cases a
  cases b
  congr
  exact Array.toList_inj.mp h
theorem ltS_irr (a : Str) : ltS a a = false := decide_eq_false (List.lt_irrefl _)
theorem ltS_trans {a b c : Str} (h : ltS a b = true) (k : ltS b c = true) : ltS a c = true := decide_eq_true (List.lt_trans (of_decide_eq_true h) (of_decide_eq_true k))
theorem ltS_tri (a b : Str) : ltS a b = true ∨ a = b ∨ ltS b a = true := by
  by_cases h : a.cps.toList < b.cps.toList
  · exact .inl (decide_eq_true h)
  · by_cases k : b.cps.toList < a.cps.toList
    · exact .inr (.inr (decide_eq_true k))
    · exact .inr (.inl (str_ext (List.le_antisymm (List.not_lt.mp k) (List.not_lt.mp h))))
theorem ltS_asym {a b : Str} (h : ltS a b = true) : ltS b a = false := by
  cases q : ltS b a with
  | false => rfl
  | true =>
    have z := ltS_trans h q
    rw [ltS_irr] at z
    cases z
/-- rising, each once -/
abbrev Rs (l : List Str) : Prop := l.Pairwise fun a b => ltS a b = true
theorem Rs.nodup : ∀ {l : List Str}, Rs l → l.Nodup
  | [], _ => List.nodup_nil
  | x :: r, h => by
    obtain ⟨h1, h2⟩ := List.pairwise_cons.mp h
    refine List.nodup_cons.mpr ⟨fun z => ?_, Rs.nodup h2⟩
    have q := h1 x z
    rw [ltS_irr] at q
    cases q
/-- one rising list has these members -/
theorem Rs.uniq : ∀ {l m : List Str}, Rs l → Rs m → (∀ x, x ∈ l ↔ x ∈ m) → l = m
  | [], [], _, _, _ => rfl
  | [], y :: m, _, _, h => by
    have q := (h y).mpr List.mem_cons_self
    cases q
  | x :: l, [], _, _, h => by
    have q := (h x).mp List.mem_cons_self
    cases q
  | x :: l, y :: m, hl, hm, h => by
    obtain ⟨l1, l2⟩ := List.pairwise_cons.mp hl
    obtain ⟨m1, m2⟩ := List.pairwise_cons.mp hm
    have e : x = y := by
      rcases List.mem_cons.mp ((h x).mp List.mem_cons_self) with q | q
      · exact q
      · rcases List.mem_cons.mp ((h y).mpr List.mem_cons_self) with p | p
        · exact p.symm
        · have a := m1 x q
          have b := l1 y p
          rw [ltS_asym a] at b
          cases b
    subst e
    refine congrArg _ (Rs.uniq l2 m2 fun z => ⟨fun q => ?_, fun q => ?_⟩)
    · rcases List.mem_cons.mp ((h z).mp (List.mem_cons_of_mem _ q)) with p | p
      · have a := l1 z q
        rw [p, ltS_irr] at a
        cases a
      · exact p
    · rcases List.mem_cons.mp ((h z).mpr (List.mem_cons_of_mem _ q)) with p | p
      · have a := m1 z q
        rw [p, ltS_irr] at a
        cases a
      · exact p
def insS (x : Str) : List Str → List Str
  | [] => [x]
  | y :: r => if x = y then y :: r else if ltS x y = true then x :: y :: r else y :: insS x r
/-- the members rising, each once -/
def riseS (xs : List Str) : List Str := xs.foldr insS []
theorem insS_mem (x z : Str) : ∀ l : List Str, z ∈ insS x l ↔ z = x ∨ z ∈ l
  | [] => by simp [insS]
  | y :: r => by
    unfold insS
    split
    · rename_i e
      rw [e, List.mem_cons]
      exact ⟨.inr, fun q => q.elim .inl id⟩
    · split
      · rw [List.mem_cons]
      · rw [List.mem_cons, insS_mem x z r, List.mem_cons]
        exact ⟨fun q => q.elim (fun a => .inr (.inl a)) fun a => a.elim .inl fun b => .inr (.inr b), fun q => q.elim (fun a => .inr (.inl a)) fun a => a.elim .inl fun b => .inr (.inr b)⟩
theorem insS_rs (x : Str) : ∀ {l : List Str}, Rs l → Rs (insS x l)
  | [], _ => List.pairwise_singleton _ _
  | y :: r, h => by
    obtain ⟨h1, h2⟩ := List.pairwise_cons.mp h
    unfold insS
    split
    · exact h
    · rename_i ne
      split
      · rename_i lt
        refine List.pairwise_cons.mpr ⟨fun z hz => ?_, h⟩
        rcases List.mem_cons.mp hz with e | hz
        · rw [e]
          exact lt
        · exact ltS_trans lt (h1 z hz)
      · rename_i nlt
        refine List.pairwise_cons.mpr ⟨fun z hz => ?_, insS_rs x h2⟩
        rcases (insS_mem x z r).mp hz with e | hz
        · rw [e]
          rcases ltS_tri y x with q | q | q
          · exact q
          · exact (ne q.symm).elim
          · exact (nlt q).elim
        · exact h1 z hz
theorem riseS_mem (z : Str) : ∀ xs : List Str, z ∈ riseS xs ↔ z ∈ xs
  | [] => Iff.rfl
  | x :: r => by
    show z ∈ insS x (riseS r) ↔ _
    rw [insS_mem, riseS_mem z r, List.mem_cons]
theorem riseS_rs : ∀ xs : List Str, Rs (riseS xs)
  | [] => List.Pairwise.nil
  | x :: r => insS_rs x (riseS_rs r)
theorem riseS_of {xs l : List Str} (h : Rs l) (k : ∀ x, x ∈ l ↔ x ∈ xs) : l = riseS xs := Rs.uniq h (riseS_rs xs) fun x => (k x).trans (riseS_mem x xs).symm
theorem riseS_congr {xs ys : List Str} (h : ∀ x, x ∈ xs ↔ x ∈ ys) : riseS xs = riseS ys := riseS_of (riseS_rs xs) fun x => (riseS_mem x xs).trans (h x)
theorem risingS_rs : ∀ (l : List Str) (p : Str), risingS p l = true → (p :: l).Nodup → Rs (p :: l)
  | [], p, _, _ => List.pairwise_singleton _ _
  | x :: r, p, h, nd => by
    have h' : (!ltCps x.cps.toList p.cps.toList && risingS x r) = true := h
    obtain ⟨h1, h2⟩ := Bool.and_eq_true_iff.mp h'
    obtain ⟨n1, n2⟩ := List.nodup_cons.mp nd
    have ih := risingS_rs r x h2 n2
    have lt : ltS p x = true := by
      rw [ltCps_eq] at h1
      rcases ltS_tri p x with q | q | q
      · exact q
      · exact (n1 (by rw [q]; exact List.mem_cons_self)).elim
      · rw [show decide (x.cps.toList < p.cps.toList) = true from q] at h1
        cases h1
    refine List.pairwise_cons.mpr ⟨fun z hz => ?_, ih⟩
    rcases List.mem_cons.mp hz with e | hz
    · rw [e]
      exact lt
    · exact ltS_trans lt ((List.pairwise_cons.mp ih).1 z hz)
theorem sortedS_rs {l : List Str} (h : sortedS l = true) (nd : l.Nodup) : Rs l := by
  cases l with
  | nil => exact List.Pairwise.nil
  | cons x r => exact risingS_rs r x h nd
/-! ### rules: set(list of texts), len, sorted -/
def SetSO (w : World) (a : Addr) (l : List Str) : HO := .ext fun h => SetS w h a l
section
variable {X : Cx}
theorem setSO_new {w : World} {P : Program} {H : Hp} {h : Heap} {a : Addr} {l : List Str} (R : SetS w h a l) : ObjOk P w H h a (SetSO w a l) := by
  obtain ⟨o, _, _, _, ho, _⟩ := R.ex
  exact ⟨R, ⟨o, ho⟩, fun h1 h2 p k => SetS.at p k⟩
theorem setSO_get {pins : List (Addr × Obj)} {σ : L2.St} {H : Hp} {s : Shared} {a : Addr} {l : List Str} (I : Inv X pins σ H s) (ha : H a = some (SetSO X.w a l)) : SetS X.w s.heap a l := (I.hok a _ ha).1
/-- set(xs), xs a list of texts -/
def rSetS (K : PySem.W.Frag) (w : World) : List V → Hp → VK → Prop := fun vs H Q => ∃ (a : Addr) (xs : List Str), vs = [.ref a] ∧ SqL K H a (xs.map V.str) ∧ xs.length < 1000 ∧ ∀ (p : Addr) (l : List Str), H p = none → l.Nodup → (∀ x, x ∈ l ↔ x ∈ xs) → l.length ≤ xs.length → Q (.ref p) (upd H p (SetSO w p l))
theorem cr_setS (hc : X.calm = true) : CallR X (.type "set") (rSetS X.K X.w) := by
  intro pins s σ H vs us Q I r h
  obtain ⟨a, xs, rfl, hs, hl, q⟩ := h
  obtain ⟨its, rv, pl, _⟩ := I.list hs
  rw [Vals.ref1 r]
  have len : its.length = xs.length := by rw [← rv.length, List.length_map]
  have at_ : ∀ (i : Nat) (v : Value), its.toArray[i]? = some v → ∃ t, v = .str ((fun i => xs.getD i Str.empty) i) t := fun i v hv => by
    have hv2 : its[i]? = some v := by simpa using hv
    have hi2 : i < xs.length := by rw [← len]; exact (List.getElem?_eq_some_iff.mp hv2).1
    have hx : (xs.map V.str)[i]? = some (V.str xs[i]) := by simp [hi2]
    obtain ⟨u, hu, ru⟩ := rv.get hx
    rw [hv2] at hu
    cases hu
    obtain ⟨t, e⟩ := (show ∃ t, v = Value.str xs[i] t from ru)
    exact ⟨t, by rw [e]; simp [List.getD, hi2]⟩
  refine set_of_list (I.ok.hd hc) pl.isList at_ (by rw [List.size_toArray, len]; unfold scanBound; omega) fun h' tk R k => ?_
  rw [show its.toArray.size = xs.length from by rw [List.size_toArray, len]] at R
  refine ⟨.ref s.heap.objs.size, upd H s.heap.objs.size (SetSO X.w s.heap.objs.size _), I.laid (t' := tk) (fun b u e => k b u (Heap.lt_size e) e) (Nat.le_refl _) (setSO_new R), rfl, q _ _ (I.hok.fresh (Nat.le_refl _)) ?_ (fun x => ?_) (metS_len _ _)⟩
  · obtain ⟨_, _, _, _, _, _, _, _, _, nd, _⟩ := R.ex
    exact nd
  · rw [metS_mem]
    constructor
    · rintro ⟨j, hj, e⟩
      rw [← e]
      simp [List.getD, hj]
    · intro hx
      obtain ⟨j, hj, e⟩ := List.getElem_of_mem hx
      exact ⟨j, hj, by simp [List.getD, hj, e]⟩
/-- sorted(a set of texts) -/
def rSortSS (w : World) : List V → Hp → VK → Prop := fun vs H Q => ∃ (a : Addr) (l : List Str), vs = [.ref a] ∧ H a = some (SetSO w a l) ∧ l.length < 64 ∧ ∀ p, H p = none → Q (.ref p) (upd H p (.lst ((riseS l).map V.str)))
theorem cr_sortSS (hc : X.calm = true) : CallR X (.builtin "sorted") (rSortSS X.w) := by
  intro pins s σ H vs us Q I r h
  obtain ⟨a, l, rfl, ha, h64, q⟩ := h
  have R := setSO_get I ha
  obtain ⟨o, es, ep, t, ho, hex, hd, g, pm, nd, hb, hf, hr, hl⟩ := R.ex
  rw [Vals.ref1 r]
  refine Calls.call_function_entry kind_sorted plain_sorted entry_sorted (args_sorted1 _) ?_
  unfold Builtin.«sorted»
  refine wpAny_bind (m := checkCount "sorted" 1 1 _) (wpAny_pure (wpAny_bind (collect_set (A := X.A.in1) (I.ok.hd hc) ⟨o, ho, hex.1, hd⟩ hf hb hr hl fun s1 vs k1 hz g1 o1 pv => ?_)))
  have esl : es.toList.length = l.length := by rw [← pm.length_eq, List.length_map]
  have vl : vs.length = l.length := by rw [pv.length_eq, List.length_map]; exact esl
  have isS : ∀ v ∈ vs, ∃ x t, v = Value.str x t := fun v hv => by
    obtain ⟨e, he, z⟩ := List.mem_map.mp (pv.mem_iff.mp hv)
    obtain ⟨k, tk, h1, _⟩ := g e he
    exact ⟨k, tk, by rw [← z]; exact h1⟩
  have hS := strsAre_map vs isS
  have pk : (vs.map strOf).Perm l := by
    refine ((pv.map strOf).trans ?_).trans pm
    rw [List.map_map]
    exact List.Perm.of_eq (List.map_congr_left fun e he => by
      obtain ⟨k, tk, h1, _⟩ := g e he
      show strOf e.2 = keyS e
      unfold keyS
      rw [h1]
      rfl)
  refine wpAny_bind (wpAny_newList ?_ (by rw [vl, sizeLine_eq]; omega))
  have atL : (s1.heap.push (seqObj "list" vs.toArray 0)).get? s1.heap.objs.size = some (seqObj "list" vs.toArray 0) := Heap.get?_push_size _ rfl
  have kk : ∀ v₁ v₂ rest, vs = v₁ :: v₂ :: rest → keyKind' (v₁ :: v₂ :: rest).toArray = pure oneType' := fun v₁ v₂ rest e => keyKind_strs (by rw [← e]; exact hS)
  refine wpAny_bind (wpAny_holding (wpAny_call_entry slot_list_sort ⟨_, atL, rfl⟩ entry_list_sort (list_sort_treeK strKind_oneLt atL hS.keysOf kk (by rw [vl]; exact h64) fun st' a1 a2 => ⟨_, rfl, ?_⟩) (args_list_sort _)))
  obtain ⟨ss, b1, b2, b3⟩ := sorted_out_str hS a1 a2
  obtain ⟨c, hcap⟩ := sortedHeap_at (vs := vs) (out := (arrOf st').map (·.2)) atL
  have ps : ss.Perm l := b2.trans pk
  have rs : Rs ss := sortedS_rs b3 (ps.nodup_iff.mpr nd)
  have er : ss = riseS l := riseS_of rs fun x => ps.mem_iff
  have hn : H s1.heap.objs.size = none := I.hok.fresh hz
  have hlen : ((riseS l).map V.str).length ≤ sizeLine := by rw [List.length_map, ← er, ps.length_eq]; exact small64 h64
  have vals : Vals ((riseS l).map V.str) ((arrOf st').map (·.2)).toList := by rw [← er]; exact vals_of_strs b1
  have keep : ∀ b u, s.heap.get? b = some u → (sortedHeap (s1.heap.push (seqObj "list" vs.toArray 0)) s1.heap.objs.size vs ((arrOf st').map (·.2))).get? b = some u := fun b u e => by
    have z := k1 b u e
    have lt := Heap.lt_size z
    rw [sortedHeap_old (Nat.ne_of_lt lt) (by rw [size_push']; exact Nat.lt_succ_of_lt lt)]
    exact Heap.get?_push_of_some _ z
  refine wpAny_pure ⟨_, rfl, ?_⟩
  have J : Inv X pins σ (upd H s1.heap.objs.size (.lst ((riseS l).map V.str))) { s with heap := sortedHeap (s1.heap.push (seqObj "list" vs.toArray 0)) s1.heap.objs.size vs ((arrOf st').map (·.2)), gens := s1.gens, drawn := s1.drawn, toks := s1.toks } :=
    I.call (ch := []) (Un.laid keep hz hn) (I.hok.laid keep hz ⟨hlen, _, c, vals, hcap⟩) (by rw [g1]; exact I.bare) (fun _ z => nomatch z)
  have e : ({ s1 with heap := sortedHeap (s1.heap.push (seqObj "list" vs.toArray 0)) s1.heap.objs.size vs ((arrOf st').map (·.2)) } : Shared) = { s with heap := sortedHeap (s1.heap.push (seqObj "list" vs.toArray 0)) s1.heap.objs.size vs ((arrOf st').map (·.2)), gens := s1.gens, drawn := s1.drawn, toks := s1.toks } := by
    cases s1
    cases s
    cases o1
    rfl
  exact ⟨.ref s1.heap.objs.size, _, by rw [e]; exact J, rfl, q _ hn⟩
end
end Fc
set_option maxHeartbeats 4000000
namespace Fc
open PySem PySem.Spec PyProof.Rows L2
section
variable {X : Cx}
def rSet0S (w : World) : List V → Hp → VK → Prop := fun vs H Q => vs = [] ∧ ∀ p, H p = none → Q (.ref p) (upd H p (SetSO w p []))
theorem cr_set0S : CallR X (.type "set") (rSet0S X.w) := by
  intro pins s σ H vs us Q I r h
  obtain ⟨rfl, q⟩ := h
  cases r
  refine setR_new fun _ => ⟨.ref _, upd H s.heap.objs.size (SetSO X.w s.heap.objs.size []), I.laid (t' := s.toks) (fun b u e => Heap.get?_push_of_some _ e) (Nat.le_refl _) (setSO_new (newS rfl (Heap.get?_push_size _ rfl))), rfl, q _ (I.hok.fresh (Nat.le_refl _))⟩
def rSAddS (w : World) : V → List V → Hp → VK → Prop := fun x vs H Q => ∃ (a : Addr) (k : Str) (l : List Str), x = .ref a ∧ vs = [.str k] ∧ H a = some (SetSO w a l) ∧ l.length < 1000 ∧ Q .non (upd H a (SetSO w a (if k ∈ l then l else k :: l)))
theorem addS {s : Shared} {w : World} {P : Program} {A : Around} {E : Value → Shared → Prop} {a : Addr} {l : List Str} {k : Str} {tk : Tok} {Q : Value → Shared → Prop} (R : SetS w s.heap a l) (room : l.length + 1 < scanBound)
    (hQ : ∀ h', Heap.SameBut a s.heap h' → SetS w h' a (if k ∈ l then l else k :: l) → Q .none { s with heap := h', toks := s.toks + 1 }) :
    wpAny (model P w) A (call (.builtin "set.add") [.ref a, .str k tk]) Q E s := by
  have hS : s.heap.SetOf (PySem.strKind P w) a _ _ := R.setOf
  refine wpAny_call_entry PySem.F.slot_set_add hS.typeIs PySem.F.entry_set_add ?_ (PySem.F.args_set_add_2 _ _)
  unfold Builtin.«set.add» Builtin.Frozenset.oneOther; simp only [List.isEmpty_nil, bind_assoc]
  unfold Builtin.Frozenset.addrOf setAdd; refine wpAny_bind (wpAny_pure ?_)
  try dsimp only
  refine wpAny_bind (wpAny_pure ?_)
  try dsimp only
  refine wpAny_bind (wpAny_holding (wpAny_bind ((PySem.strKind P w).pyHash (strKind_is P w k tk) ?_)))
  refine addS_hashed (s := { s with toks := s.toks + 1 }) R room fun b h' l' sb r el => ?_
  rw [el] at r
  exact wpAny_pure ⟨_, rfl, hQ h' sb r⟩
theorem mt_saddS : MtR X "set.add" (rSAddS X.w) := by
  intro pins s σ H x xs v us Q I rx rxs h
  obtain ⟨a, k, l, rfl, rfl, ha, room, q⟩ := h
  cases rx
  cases rxs with
  | cons ry rt =>
    cases rt
    obtain ⟨tk, rfl⟩ := ry
    refine addS (setSO_get I ha) (by unfold scanBound; omega) fun h' sb new => ?_
    have he : ∃ u, h'.get? a = some u := by
      obtain ⟨o, _, _, _, ho, _⟩ := new.ex
      exact ⟨o, ho⟩
    exact ⟨.non, upd H a (SetSO X.w a _), I.write (e := a) (t' := s.toks + 1) (by rw [ha]; trivial) (.inl rfl) (fun b u hb hu => (sb.2 b hb).trans hu) he (setSO_new new), rfl, q⟩
def tSAddS (w : World) (to : TE) (t : TA) : TE := fun σ H Q => to σ H fun x H1 => (∃ a l, x = V.ref a ∧ H1 a = some (SetSO w a l)) ∧ t σ H1 fun xs H2 => rSAddS w x xs H2 Q
theorem pe_saddS {o e : Expr} {es : List Expr} {to : TE} {t : TA} {apos cpos : Pos} (ho : PE X o to) (ha : PA X (e :: es) t) (hbase : attributeBase o "add" X.env (eval o X.env) = eval o X.env := by rfl)
    (hfew : ((backTo cpos (starEach (e :: es) X.env)).all (fun x => !x.1) && (backToKw cpos (keywordEach [] X.env)).all (fun x => x.1.isSome) && decide ((e :: es).length + ([] : List Keyword).length + (if ([] : List Keyword).isEmpty then 0 else 1) < 30)) = true := by rfl)
    (hline : (apos.endLine == cpos.line) = true := by rfl) (hs : starEach (e :: es) X.env = (false, eval e X.env) :: starEach es X.env := by rfl) (hplain : (backTo cpos (starEach es X.env)).any (·.1) = false := by rfl) :
    PE X (.Call (.Attribute o "add" apos) (e :: es) [] cpos) (tSAddS X.w to t) := by
  refine ⟨fun pins s σ H Q I h => wpAny_Call_method_late hbase hfew hline rfl (thn (ho.run pins s σ H _ I h) fun v s1 ⟨x, H1, I1, r1, ty, q1⟩ => ?_)⟩
  obtain ⟨a, l, rfl, hka⟩ := ty
  have hS := (setSO_get I1 hka).setOf (P := X.prog)
  cases r1
  refine ⟨"set", "set.add", PySem.F.plainAttrs_set, PySem.F.slot_set_add, PySem.F.type_set_add, hS.typeIs, hS.noDict, ?_⟩
  have hA := ha.run cpos pins s1 σ H1 _ I1 q1; rw [hs] at hA ⊢
  refine Calls.callWith_builtin (by show (false || (backTo cpos (starEach es X.env)).any (·.1)) = false; rw [hplain] <;> rfl) (Calls.evalArgs_plain ?_)
  exact thn hA fun us s2 ⟨vs, H2, I2, r2, q2⟩ => mt_saddS pins s2 σ H2 (.ref a) vs (.ref a) us Q I2 rfl r2 q2
def rLenSS (w : World) : List V → Hp → VK → Prop := fun vs H Q => ∃ (a : Addr) (l : List Str), vs = [.ref a] ∧ H a = some (SetSO w a l) ∧ Q (.int (l.length : Nat)) H
theorem call_lenSS : CallR X (.builtin "len") (rLenSS X.w) := by
  intro pins s σ H vs us Q I r h
  obtain ⟨a, l, rfl, ha, q⟩ := h
  rw [Vals.ref1 r]
  obtain ⟨o, es, ep, t, ho, hex, hd, _, pm, _, hb, hf, _⟩ := (setSO_get I ha).ex
  have sz : es.size = l.length := by rw [← pm.length_eq, List.length_map, Array.length_toList]
  refine PySem.call_len_set ho hex hd hf (by unfold scanBound at hb; omega) ?_
  rw [sz]
  exact ⟨.int (l.length : Nat), H, I.tok _, ⟨_, rfl⟩, q⟩
end
end Fc
set_option maxHeartbeats 4000000
/-! A comprehension whose parts leave what was there. -/
namespace Fc
open PySem PySem.Spec PyProof.Rows L2
theorem Dn.sub {S S' : Addr → Prop} {H : Hp} {v : V} {d : PyData} (h : Dn S' H v d) (k : ∀ a, S a → S' a) : Dn S H v d := Dn.weak k h
theorem DnA.map_at {α : Type} {F : α → PyData} {S : Addr → Prop} {H : Hp} {xs : List V} {l : List α} {i : Nat} {x : V} {b : α} (h : DnA S H xs (l.map F)) (hx : xs[i]? = some x) (hb : l[i]? = some b) : Dn S H x (F b) := by
  obtain ⟨d, h1, h2⟩ := h.at hx
  rw [List.getElem?_map, hb] at h1
  cases h1
  exact h2
/-- S, and D -/
def sD (S : Addr → Prop) (D : Addr) : Addr → Prop := fun a => S a ∨ a = D
section
variable {J : It} {n : Nat} {G : Hp → Prop} {Y : Nat → Hp → V → Hp → Prop} {g : TG} {tt : TT} {te : TE} {vs : List Nat} {σ : L2.St} {H1 : Hp} {D : Addr} {Qd : Hp → Prop}
theorem lc_gen {α : Type} (w : Walk J n G Y) (l : List α) (hn : l.length = n) (f : α → Bool) (v : α → PyData) (S : Addr → Prop) (hS : ∀ a, S a → H1 a ≠ none) (hD : H1 D = none) (hl : n ≤ 1000) (hG : ∀ H, Kp N0 H1 H → G H)
    (turn : ∀ (i : Nat) (a : α) (x : V) (H H' : Hp), l[i]? = some a → Kp N0 H1 H → Y i H x H' → ∀ Kt : L2.St → Hp → Prop, (∀ (σ2 : L2.St) (H2 : Hp), Kp N0 H H2 → wipe σ2 vs = wipe σ vs → (∀ Q : Bool → Hp → Prop, (∀ H3, Kp N0 H2 H3 → Q (f a) H3) → tt σ2 H2 Q) →
      (f a = true → ∀ H3, Kp N0 H2 H3 → ∀ S', (∀ a, S a → S' a) → (∀ a, S' a → H3 a ≠ none) → ∀ Q : VK, (∀ y H4, Kp N0 H3 H4 → Dn S' H4 y (v a) → Q y H4) → te σ2 H3 Q) → Kt σ2 H2) → g x (wipe σ vs) H' Kt)
    (hd : ∀ H' out, Kp N0 H1 H' → H' D = some (.lst out) → DnA (sD S D) H' out ((l.filter f).map v) → Qd H') :
    ∃ W : Nat → Nat → Hp → Prop, (∃ m, W 0 m (upd H1 D (.lst []))) ∧ ∀ i m H, W i m H → (J.stop i H ∧ Qd H) ∨ (J.go i H ∧ ∃ Nx : Hp → Prop, (∀ H', Nx H' → ∃ m', m' < m ∧ W (i + 1) m' H') ∧ ∀ x H', J.yld i H x H' → g x (wipe σ vs) H' fun σ2 H2 => wipe σ2 vs = wipe σ vs ∧ tt σ2 H2 fun b H3 =>
      if b = true then te σ2 H3 fun y H4 => ∃ acc, H4 D = some (.lst acc) ∧ acc.length < sizeLine ∧ Nx (upd H4 D (.lst (acc ++ [y]))) else Nx H3) := by
  refine lc_it w (Pv := fun i H => Kp N0 H1 H ∧ ∃ out, H D = some (.lst out) ∧ out.length ≤ i ∧ DnA (sD S D) H out (((l.take i).filter f).map v)) ⟨Kp.new hD, [], upd_same, Nat.le_refl _, .nil⟩ (fun i H _ p => hG H p.1) (fun i x H H' hi p y => ?_) fun H p => ?_
  · obtain ⟨k1, out, hout, hlen, hdn⟩ := p
    have hil : i < l.length := by rw [hn]; exact hi
    refine turn i l[i] x H H' (List.getElem?_eq_getElem hil) k1 y _ fun σ2 H2 k2 hw test elt => ⟨hw, test _ fun H3 k3 => ?_⟩
    have tk : l.take (i + 1) = l.take i ++ [l[i]] := by rw [List.take_append_getElem]
    have k13 := k1.trans (k2.trans k3)
    have hout3 : H3 D = some (.lst out) := (k2.trans k3).obj hout ntl (fun z => z.elim)
    have hdn3 : DnA (sD S D) H3 out (((l.take i).filter f).map v) := hdn.kp (k2.trans k3).up
    cases c : f l[i] with
    | true =>
      rw [if_pos rfl]
      refine elt c H3 k3 (sD S D) (fun a z => .inl z) (fun a z => ?_) _ fun y2 H4 k4 hy => ?_
      · rcases z with z | z
        · intro q
          exact hS a z (k13.fresh q)
        · rw [z, hout3]
          intro q
          cases q
      · have hout4 : H4 D = some (.lst out) := k4.obj hout3 ntl (fun z => z.elim)
        have kd : Kp (sD S D) H4 (upd H4 D (.lst (out ++ [y2]))) := Kp.mutS (.inr rfl) hout4 ntl ntl
        refine ⟨out, hout4, Nat.lt_of_le_of_lt hlen (by rw [sizeLine_eq]; omega), (k13.trans k4).mut hD, out ++ [y2], upd_same, by rw [List.length_append]; exact Nat.succ_le_succ hlen, ?_⟩
        rw [tk, List.filter_append, List.map_append, List.filter_cons, if_pos c]
        exact ((hdn3.kp k4.up).kp kd).app (.one (hy.kp kd))
    | false =>
      rw [if_neg Bool.false_ne_true]
      refine ⟨k13, out, hout3, Nat.le_succ_of_le hlen, ?_⟩
      rw [tk, List.filter_append, List.map_append, List.filter_cons, if_neg (by rw [c]; exact Bool.false_ne_true)]
      show DnA (sD S D) H3 out (_ ++ [])
      rw [List.append_nil]
      exact hdn3
  · obtain ⟨k1, out, hout, _, hdn⟩ := p
    rw [← hn, List.take_length] at hdn
    exact hd H out k1 hout hdn
end
section
variable {K : PySem.W.Frag} {X : Cx}
/-- over a list: the target one name -/
theorem lc_lst {α : Type} {a D : Addr} {xs : List V} {tt : TT} {te : TE} {vs : List Nat} {σ : L2.St} {H1 : Hp} {Qd : Hp → Prop} {j : Nat} (l : List α) (f : α → Bool) (v : α → PyData) (S : Addr → Prop) (hx : H1 a = some (.lst xs)) (hn : l.length = xs.length) (hS : ∀ a, S a → H1 a ≠ none) (hD : H1 D = none) (hl : xs.length ≤ 1000)
    (hw : ∀ x, wipe ((wipe σ vs).set j (some x)) vs = wipe σ vs)
    (ht : ∀ (i : Nat) (b : α) (x : V) (H : Hp), l[i]? = some b → xs[i]? = some x → Kp N0 H1 H → ∀ Q : Bool → Hp → Prop, (∀ H3, Kp N0 H H3 → Q (f b) H3) → tt ((wipe σ vs).set j (some x)) H Q)
    (he : ∀ (i : Nat) (b : α) (x : V) (H : Hp), l[i]? = some b → xs[i]? = some x → f b = true → Kp N0 H1 H → ∀ S', (∀ a, S a → S' a) → (∀ a, S' a → H a ≠ none) → ∀ Q : VK, (∀ y H4, Kp N0 H H4 → Dn S' H4 y (v b) → Q y H4) → te ((wipe σ vs).set j (some x)) H Q)
    (hd : ∀ H' out, Kp N0 H1 H' → H' D = some (.lst out) → DnA (sD S D) H' out ((l.filter f).map v) → Qd H') :
    ∃ W : Nat → Nat → Hp → Prop, (∃ m, W 0 m (upd H1 D (.lst []))) ∧ ∀ i m H, W i m H → ((Itl K a).stop i H ∧ Qd H) ∨ ((Itl K a).go i H ∧ ∃ Nx : Hp → Prop, (∀ H', Nx H' → ∃ m', m' < m ∧ W (i + 1) m' H') ∧ ∀ x H', (Itl K a).yld i H x H' → gName j x (wipe σ vs) H' fun σ2 H2 => wipe σ2 vs = wipe σ vs ∧ tt σ2 H2 fun b H3 =>
      if b = true then te σ2 H3 fun y H4 => ∃ acc, H4 D = some (.lst acc) ∧ acc.length < sizeLine ∧ Nx (upd H4 D (.lst (acc ++ [y]))) else Nx H3) := by
  refine lc_gen walk_list l hn f v S hS hD hl (fun H k => SqL.of (k.obj hx ntl fun z => z.elim)) (fun i b x H H' hb k y Kt kt => ?_) hd
  obtain ⟨rfl, hxi⟩ := y
  exact kt _ _ Kp.refl (hw x) (ht i b x H' hb hxi k) fun c H3 k3 => he i b x H3 hb hxi c (k.trans k3)
/-- over a text -/
theorem lc_txt {z : Str} {D : Addr} {tt : TT} {te : TE} {vs : List Nat} {σ : L2.St} {H1 : Hp} {Qd : Hp → Prop} {j : Nat} (f : Nat → Bool) (v : Nat → PyData) (S : Addr → Prop) (hS : ∀ a, S a → H1 a ≠ none) (hD : H1 D = none) (hl : z.cps.toList.length ≤ 1000)
    (hw : ∀ x, wipe ((wipe σ vs).set j (some x)) vs = wipe σ vs)
    (ht : ∀ (c : Nat) (H : Hp), c ∈ z.cps.toList → Kp N0 H1 H → ∀ Q : Bool → Hp → Prop, (∀ H3, Kp N0 H H3 → Q (f c) H3) → tt ((wipe σ vs).set j (some (.str ⟨#[c]⟩))) H Q)
    (he : ∀ (c : Nat) (H : Hp), c ∈ z.cps.toList → f c = true → Kp N0 H1 H → ∀ S', (∀ a, S a → S' a) → (∀ a, S' a → H a ≠ none) → ∀ Q : VK, (∀ y H4, Kp N0 H H4 → Dn S' H4 y (v c) → Q y H4) → te ((wipe σ vs).set j (some (.str ⟨#[c]⟩))) H Q)
    (hd : ∀ H' out, Kp N0 H1 H' → H' D = some (.lst out) → DnA (sD S D) H' out ((z.cps.toList.filter f).map v) → Qd H') :
    ∃ W : Nat → Nat → Hp → Prop, (∃ m, W 0 m (upd H1 D (.lst []))) ∧ ∀ i m H, W i m H → ((Its z).stop i H ∧ Qd H) ∨ ((Its z).go i H ∧ ∃ Nx : Hp → Prop, (∀ H', Nx H' → ∃ m', m' < m ∧ W (i + 1) m' H') ∧ ∀ x H', (Its z).yld i H x H' → gName j x (wipe σ vs) H' fun σ2 H2 => wipe σ2 vs = wipe σ vs ∧ tt σ2 H2 fun b H3 =>
      if b = true then te σ2 H3 fun y H4 => ∃ acc, H4 D = some (.lst acc) ∧ acc.length < sizeLine ∧ Nx (upd H4 D (.lst (acc ++ [y]))) else Nx H3) := by
  refine lc_gen walk_str z.cps.toList (by simp) f v S hS hD (by simpa using hl) (fun _ _ => trivial) (fun i b x H H' hb k y Kt kt => ?_) hd
  obtain ⟨rfl, c, hc, rfl⟩ := y
  have e : z.cps.toList[i]? = some c := by simpa using hc
  rw [e] at hb
  cases hb
  have hm := List.mem_of_getElem? e
  exact kt _ _ Kp.refl (hw _) (ht _ H' hm k) fun cc H3 k3 => he _ H3 hm cc (k.trans k3)
theorem hu64 {A : Around} {k : Nat} (hr : Room k A) : A.units + 64 < cLine := by
  have z := hr.un
  omega
/-! the same rules, the written part told -/
theorem pe_gs {x z : Str} {pos : Pos} (h : ∃ t, X.mg x = some (.str z t)) (hg : Gl X x := by rfl) (hd : (x == ("__debug__" : Str)) = false := by decide) : PE X (.Name x pos) (tC (.str z)) := by
  obtain ⟨t, e⟩ := h
  exact pe_glob hg e ⟨t, rfl⟩ hd
theorem pe_gi {x : Str} {z : Int} {pos : Pos} (h : ∃ t, X.mg x = some (.int z t)) (hg : Gl X x := by rfl) (hd : (x == ("__debug__" : Str)) = false := by decide) : PE X (.Name x pos) (tC (.int z)) := by
  obtain ⟨t, e⟩ := h
  exact pe_glob hg e ⟨t, rfl⟩ hd
theorem pe_joinK {o e : Expr} {to te : TE} {apos pos : Pos} (hK : X.K = K) (ho : PE X o to) (he : PE X e te) (hs : starEach [e] X.env = [(false, eval e X.env)] := by rfl) (hbase : attributeBase o "join" X.env (eval o X.env) = eval o X.env := by rfl) (hline : (apos.endLine == pos.line) = true := by rfl) :
    PE X (.Call (.Attribute o "join" apos) [e] [] pos) (tM1 (fun x xs H Q => ∃ a p, ∃ ys : List Str, x = .str a ∧ xs = [.ref p] ∧ (SqL K H p (ys.map V.str) ∨ SqT K H p (ys.map V.str)) ∧ (ys.map (·.length)).sum + ys.length * a.length ≤ 16777216 ∧ Q (.str (Txt.join a ys)) H) to te) := by
  subst hK
  exact pe_join ho he hs hbase hline
theorem ix_tupK (h : X.K = K := by rfl) : IxR X (rIxT K) := by
  subst h
  exact ix_tup
theorem ix_listK (h : X.K = K := by rfl) : IxR X (rIxL K) := by
  subst h
  exact ix_list
end
/-! ### signs joined -/
def oS (l : List Nat) : Str := ⟨l.toArray⟩
theorem oS_cps (l : List Nat) : (oS l).cps.toList = l := by simp [oS]
theorem oS_eq {z : Str} {l : List Nat} (h : z.cps.toList = l) : z = oS l := str_ext (by rw [oS_cps, h])
theorem join_signs (l : List Nat) : Txt.join "" (l.map fun c => (⟨#[c]⟩ : Str)) = oS l := by
  have e : (l.map fun c => (⟨#[c]⟩ : Str)) = (l.map fun c => [c]).map SX.S := by
    rw [List.map_map]
    rfl
  have e0 : ("" : Str) = SX.S [] := rfl
  rw [e, e0, SX.join_S]
  have key : ∀ l : List Nat, TL.joinL [] (l.map fun c => [c]) = l := by
    intro l
    induction l with
    | nil => rfl
    | cons c r ih =>
      cases r with
      | nil => rfl
      | cons d t =>
        show [c] ++ [] ++ TL.joinL [] ((d :: t).map fun c => [c]) = c :: d :: t
        rw [ih]
        rfl
  rw [key]
  rfl
theorem signs_sum (l : List Nat) : ((l.map fun c => (⟨#[c]⟩ : Str)).map (·.length)).sum = l.length := by
  induction l with
  | nil => rfl
  | cons c r ih =>
    rw [List.map_cons, List.map_cons, List.sum_cons, ih, List.length_cons]
    show 1 + r.length = _
    omega
theorem signs_map (l : List Nat) : l.map (fun c => PyData.str ⟨#[c]⟩) = (l.map fun c => (⟨#[c]⟩ : Str)).map PyData.str := by
  rw [List.map_map]
  rfl
/-- a list without doubles in another -/
theorem nodup_le {α : Type} [DecidableEq α] : ∀ {l m : List α}, l.Nodup → (∀ x ∈ l, x ∈ m) → l.length ≤ m.length
  | [], _, _, _ => Nat.zero_le _
  | x :: r, m, nd, h => by
    obtain ⟨h1, h2⟩ := List.nodup_cons.mp nd
    have hx := h x List.mem_cons_self
    have ih := nodup_le (l := r) (m := m.erase x) h2 fun y hy => (List.mem_erase_of_ne (fun e => h1 (by rw [← show y = x from e]; exact hy))).mpr (h y (List.mem_cons_of_mem _ hy))
    rw [List.length_erase_of_mem hx] at ih
    have pos : 0 < m.length := List.length_pos_of_mem hx
    rw [List.length_cons]
    omega
end Fc
set_option maxHeartbeats 4000000
/-! What the drawing defs keep: a box of two: a list of numbers, a number. -/
namespace Fc
open PySem PySem.Spec PyProof.Rows L2
/-- the box at b, its numbers at l -/
def Box (H : Hp) (b l : Addr) : Prop := ∃ (ns : List Int) (s : Int), H b = some (.lst [.ref l, .int s]) ∧ H l = some (.lst (ns.map V.int)) ∧ ns.length ≤ 63
/-- what draws change -/
def sB (b l : Addr) : Addr → Prop := fun a => a = b ∨ a = l
section
variable {S : Addr → Prop} {H H' : Hp} {b l : Addr}
theorem Box.ne (h : Box H b l) : b ≠ l := by
  obtain ⟨ns, s, h1, h2, _⟩ := h
  intro e
  rw [e, h2] at h1
  have z := Option.some.inj h1
  injection z with z
  cases ns with
  | nil => cases z
  | cons n r =>
    injection z with z1
    cases z1
theorem Box.on (h : Box H b l) : ∀ a, sB b l a → H a ≠ none := fun a z => by
  obtain ⟨ns, s, h1, h2, _⟩ := h
  rcases z with e | e
  · rw [e, h1]
    intro q
    cases q
  · rw [e, h2]
    intro q
    cases q
theorem Box.kp (h : Box H b l) (k : Kp N0 H H') : Box H' b l := by
  obtain ⟨ns, s, h1, h2, h3⟩ := h
  exact ⟨ns, s, k.obj h1 ntl nn, k.obj h2 ntl nn, h3⟩
theorem Box.upd (h : Box H b l) {p : Addr} {o : HO} (hp : ¬ sB b l p) : Box (upd H p o) b l := by
  obtain ⟨ns, s, h1, h2, h3⟩ := h
  exact ⟨ns, s, by rw [upd_ne (fun e => hp (.inl e.symm))]; exact h1, by rw [upd_ne (fun e => hp (.inr e.symm))]; exact h2, h3⟩
theorem eqvI_nil : ∀ ns : List Int, PyData.eqv (.list (ns.map PyData.int)) (.list []) = ns.isEmpty
  | [] => by simp [PyData.eqv, PyData.eqvAll]
  | n :: r => by simp [PyData.eqv, PyData.eqvAll]
theorem depthI : ∀ ns : List Int, PyData.depthAll (ns.map PyData.int) ≤ 1
  | [] => by simp [PyData.depthAll]
  | n :: r => by
    have ih := depthI r
    simp only [List.map_cons, PyData.depthAll, PyData.depth]
    omega
theorem layI : ∀ ns : List Int, PyData.canLayAll0 (ns.map PyData.int) = true
  | [] => by simp [PyData.canLayAll0]
  | n :: r => by simp [PyData.canLayAll0, PyData.canLay0, layI r]
theorem shapedI (ns : List Int) : SeqAt.shaped (.list (ns.map PyData.int)) = true := by
  unfold SeqAt.shaped
  rw [Bool.and_eq_true]
  have h := depthI ns
  exact ⟨by simp [PyData.canLay0, layI ns], decide_eq_true (by simp only [PyData.depth]; omega)⟩
theorem dpI {K : PySem.W.Frag} {H : Hp} : ∀ ns : List Int, DpAll K H (ns.map V.int) (ns.map PyData.int)
  | [] => .nil
  | n :: r => .cons (.int n) (dpI r)
end
theorem cutV_take (xs : List V) {j : Int} (h : 0 ≤ j) : cutV xs none (some j) = xs.take j.toNat := by
  have e : j = ((j.toNat : Nat) : Int) := by omega
  unfold cutV
  rw [HT.sIx_none, e, HT.sIx_nat]
  simp only [List.drop_zero, Nat.sub_zero, Int.toNat_natCast]
  exact List.take_eq_take_iff.mpr (by omega)
theorem cutS_take (z : Str) {j : Int} (h : 0 ≤ j) : (cutS z none (some j)).cps.toList = z.cps.toList.take j.toNat := by
  have e : j = ((j.toNat : Nat) : Int) := by omega
  have el : z.length = z.cps.toList.length := by simp [PySem.Str.length]
  unfold cutS
  rw [HT.sIx_none, e, HT.sIx_nat]
  simp only [List.drop_zero, Nat.sub_zero, Int.toNat_natCast]
  exact List.take_eq_take_iff.mpr (by omega)
/-- a part of a list without doubles is what the list has of it -/
theorem sub_filter : ∀ {l m : List Nat}, l.Nodup → m.Sublist l → l.filter (fun c => decide (c ∈ m)) = m := by
  intro l m nd h
  induction h with
  | slnil => rfl
  | cons a h ih =>
    rename_i m l
    obtain ⟨n1, n2⟩ := List.nodup_cons.mp nd
    have na : a ∉ m := fun z => n1 (h.subset z)
    rw [List.filter_cons, if_neg (by simpa using na)]
    exact ih n2
  | cons_cons a h ih =>
    rename_i m l
    obtain ⟨n1, n2⟩ := List.nodup_cons.mp nd
    rw [List.filter_cons, if_pos (by simp)]
    congr 1
    refine Eq.trans (List.filter_congr fun c hc => ?_) (ih n2)
    have ne : c ≠ a := fun z => n1 (z ▸ hc)
    simp [ne]
theorem marks_of {m : List Nat} (h : m.Sublist ("abcdefgh" : Str).cps.toList) : oS m = oS ((("abcdefgh" : Str).cps.toList).filter (sg (oS m))) := by
  have e := sub_filter (by decide) h
  have e2 : (("abcdefgh" : Str).cps.toList).filter (sg (oS m)) = m := by
    refine Eq.trans (List.filter_congr fun c _ => ?_) e
    unfold sg
    rw [oS_cps]
  rw [e2]
theorem eqvS_nil : ∀ l : List Str, PyData.eqv (.list (l.map PyData.str)) (.list []) = l.isEmpty
  | [] => by simp [PyData.eqv, PyData.eqvAll]
  | n :: r => by simp [PyData.eqv, PyData.eqvAll]
theorem depthS : ∀ l : List Str, PyData.depthAll (l.map PyData.str) = 0
  | [] => by simp [PyData.depthAll]
  | n :: r => by simp [PyData.depthAll, PyData.depth, depthS r]
theorem layS : ∀ l : List Str, (∀ z ∈ l, PyData.strOk z = true) → PyData.canLayAll0 (l.map PyData.str) = true
  | [], _ => by simp [PyData.canLayAll0]
  | n :: r, h => by
    simp only [List.map_cons, PyData.canLayAll0, PyData.canLay0, Bool.and_eq_true]
    exact ⟨h n List.mem_cons_self, layS r fun z hz => h z (List.mem_cons_of_mem _ hz)⟩
theorem shapedS (l : List Str) (h : ∀ z ∈ l, PyData.strOk z = true) : SeqAt.shaped (.list (l.map PyData.str)) = true := by
  unfold SeqAt.shaped
  rw [Bool.and_eq_true]
  exact ⟨by simp only [PyData.canLay0]; exact layS l h, decide_eq_true (by simp only [PyData.depth]; rw [depthS]; decide)⟩
theorem dpS {K : PySem.W.Frag} {H : Hp} : ∀ l : List Str, DpAll K H (l.map V.str) (l.map PyData.str)
  | [] => .nil
  | n :: r => .cons (.str n) (dpS r)
theorem isE_app {α : Type} (l m : List α) : (l ++ m).isEmpty = (l.isEmpty && m.isEmpty) := by
  cases l <;> rfl
theorem filt_all {α : Type} (p : α → Bool) : ∀ l : List α, (l.filter fun c => !p c).isEmpty = l.all p
  | [] => rfl
  | c :: r => by
    rw [List.filter_cons, List.all_cons]
    cases h : p c with
    | true => rw [if_neg (by simp), filt_all p r, Bool.true_and]
    | false => rw [if_pos (by simp)]; rfl
theorem filt_any {α : Type} (p : α → Bool) : ∀ l : List α, (l.filter p).isEmpty = !l.any p
  | [] => rfl
  | c :: r => by
    rw [List.filter_cons, List.any_cons]
    cases h : p c with
    | true => rw [if_pos rfl]; rfl
    | false => rw [if_neg (by simp), filt_any p r, Bool.false_or]
theorem strOk_of {z : Str} (h : ∀ c ∈ z.cps.toList, c < 1114112) : PyData.strOk z = true := by
  unfold PyData.strOk
  rw [← Array.all_toList, List.all_eq_true]
  exact fun c hc => decide_eq_true (h c hc)
/-! ### data alike -/
def tyB : PyData → String
  | .none => "NoneType"
  | .bool _ => "bool"
  | .int _ => "int"
  | .str _ => "str"
  | .list _ => "list"
  | .tuple _ => "tuple"
  | .dict _ => "dict"
theorem Dn.ty {K : PySem.W.Frag} {S : Addr → Prop} {H : Hp} {v : V} {d : PyData} (h : Dn S H v d) : TyX K H v (.type (tyB d)) := by
  cases h with
  | non => exact .base .non
  | bl b => exact .base (.bl b)
  | int i => exact .base (.int i)
  | str x => exact .base (.str x)
  | lst _ e _ => exact .base (.lst e)
  | tup _ e _ => exact .base (.tup e)
theorem isi_r {K : PySem.W.Frag} {S : Addr → Prop} {H : Hp} {v : V} {d : PyData} {n : String} {b : Bool} {Q : VK} (h : Dn S H v d) (hk : kitB (tyB d) n = some b) (q : Q (.bl b) H) : rIsi K [v, .ty n] H Q :=
  ⟨v, .ty n, _, _, b, rfl, .ty n, h.ty, kit_ty hk, q⟩
theorem weight_len : ∀ ds : List PyData, ds.length ≤ PyData.weightAll ds
  | [] => Nat.zero_le _
  | d :: r => by
    have ih := weight_len r
    simp only [PyData.weightAll, List.length_cons]
    omega
theorem weight_at : ∀ {ds : List PyData} {i : Nat} {d : PyData}, ds[i]? = some d → PyData.weight d ≤ PyData.weightAll ds ∧ PyData.depth d ≤ PyData.depthAll ds
  | [], _, _, h => by simp at h
  | x :: r, 0, d, h => by
    simp at h
    subst h
    simp only [PyData.weightAll, PyData.depthAll]
    exact ⟨by omega, by omega⟩
  | x :: r, i + 1, d, h => by
    obtain ⟨h1, h2⟩ := weight_at (ds := r) (i := i) (d := d) (by simpa using h)
    simp only [PyData.weightAll, PyData.depthAll]
    exact ⟨by omega, by omega⟩
/-- _law_alike(found, due), of the same -/
def spAlike (n : Nat) : Sp := fun vs H Q _ => ∃ (v u : V) (d : PyData), vs = [v, u] ∧ Dn N0 H v d ∧ Dn N0 H u d ∧ PyData.depth d < n ∧ PyData.weight d ≤ 1000000 ∧ ∀ H', Kp N0 H H' → Q (.bl true) H'
mutual
theorem eqv_refl : ∀ d : PyData, PyData.canLay0 d = true → PyData.eqv d d = true
  | .none, _ => by simp [PyData.eqv]
  | .bool _, _ => by simp [PyData.eqv]
  | .int _, _ => by simp [PyData.eqv]
  | .str _, _ => by simp [PyData.eqv]
  | .list xs, h => by
    simp only [PyData.canLay0] at h
    simp only [PyData.eqv]
    exact eqvAll_refl xs h
  | .tuple xs, h => by
    simp only [PyData.canLay0] at h
    simp only [PyData.eqv]
    exact eqvAll_refl xs h
  | .dict _, h => by simp [PyData.canLay0] at h
theorem eqvAll_refl : ∀ ds : List PyData, PyData.canLayAll0 ds = true → PyData.eqvAll ds ds = true
  | [], _ => by simp [PyData.eqvAll]
  | d :: r, h => by
    simp only [PyData.canLayAll0, Bool.and_eq_true] at h
    simp only [PyData.eqvAll, Bool.and_eq_true]
    exact ⟨eqv_refl d h.1, eqvAll_refl r h.2⟩
end
theorem weightS : ∀ l : List Str, (∀ z ∈ l, z.cps.size ≤ 1000) → PyData.weightAll (l.map PyData.str) ≤ 1001 * l.length
  | [], _ => by simp [PyData.weightAll]
  | z :: r, h => by
    have ih := weightS r fun y hy => h y (List.mem_cons_of_mem _ hy)
    have hz := h z List.mem_cons_self
    simp only [List.map_cons, PyData.weightAll, PyData.weight, List.length_cons]
    omega
/-- _law_take(box, many) -/
def spTake : Sp := fun vs H Q _ => ∃ (b l : Addr) (many : Int), vs = [.ref b, .int many] ∧ Box H b l ∧ 0 < many ∧ many < 1000000 ∧ ∀ r H', 0 ≤ r → r < many → Box H' b l → Kp (sB b l) H H' → Q (.int r) H'
/-- _law_begun(script): a new box -/
def spBegun (K : PySem.W.Frag) : Sp := fun vs H Q _ => ∃ (a : Addr) (ns : List Int), vs = [.ref a] ∧ SqL K H a (ns.map V.int) ∧ ns.length ≤ 63 ∧ ∀ b l H', H b = none → H l = none → Box H' b l → Kp N0 H H' → Q (.ref b) H'
/-- _law_marks(box, letters, often): some of the letters -/
def spMarks : Sp := fun vs H Q _ => ∃ (b l : Addr) (z : Str) (often : Int), vs = [.ref b, .str z, .int often] ∧ z.cps.toList.length ≤ 100 ∧ Box H b l ∧ 0 < often ∧ often < 1000000 ∧ ∀ (m : List Nat) H', m.Sublist z.cps.toList → Box H' b l → Kp (sB b l) H H' → Q (.str (oS m)) H'
end Fc
set_option maxHeartbeats 4000000
/-! What the program reckons, what its defs promise. -/
namespace Fc
open PySem PySem.Spec PyProof.Rows L2
abbrev Row := Str × Str × Str
def rowD (r : Row) : PyData := .tuple [.str r.1, .str r.2.1, .str r.2.2]
def ruleD (rs : List Row) : PyData := .list (rs.map rowD)
def holdsM (r : Row) (m : Str) : Bool := r.2.1.cps.toList.all (sg m) && !r.2.2.cps.toList.any (sg m)
def heldM (rs : List Row) (m : Str) : List Str := (rs.filter fun r => holdsM r m).map (·.1)
def turnM (rs : List Row) (m : Str) : List Str := if (heldM rs m).isEmpty = true then ["rest"] else heldM rs m
theorem heldM_len (rs : List Row) (m : Str) : (heldM rs m).length ≤ rs.length := by
  unfold heldM
  rw [List.length_map]
  exact List.length_filter_le _ _
theorem turnM_len (rs : List Row) (m : Str) : (turnM rs m).length ≤ rs.length + 1 := by
  have h := heldM_len rs m
  unfold turnM
  split
  · show 1 ≤ _
    omega
  · omega
theorem turnM_ne (rs : List Row) (m : Str) : turnM rs m ≠ [] := by
  unfold turnM
  split
  · exact List.cons_ne_nil _ _
  · rename_i c
    intro z
    rw [z] at c
    exact c rfl
def mainM (rs : List Row) (m : Str) : Str := (turnM rs m).headD "rest"
def headsM (rs : List Row) (m : Str) : List Str := riseS (turnM rs m)
theorem turnM_0 (rs : List Row) (m : Str) : (turnM rs m)[0]? = some (mainM rs m) := by
  unfold mainM
  cases h : turnM rs m with
  | nil => exact (turnM_ne rs m h).elim
  | cons a r => rfl
def abc : Str := "abcdefghijklmnopqrstuvwxyz"
def a2h : Str := "abcdefgh"
def isWordM (t : Str) : Bool := decide ((1 : Int) ≤ (t.length : Nat)) && (decide ((t.length : Int) ≤ 6) && t.cps.toList.all (sg abc))
def isMarksM (t : Str) : Bool := decide (t = oS (a2h.cps.toList.filter (sg t)))
def isRowM (r : Row) : Bool := (isWordM r.1 && !decide (r.1 = "rest")) && ((isMarksM r.2.1 && isMarksM r.2.2) && !r.2.1.cps.toList.any (sg r.2.2))
/-- a rule that can be -/
structure GoodR (rs : List Row) : Prop where
  few : rs.length ≤ 12
  row : ∀ r ∈ rs, isRowM r = true
  heads : ∃ hs : List Str, hs.length ≤ 6 ∧ ∀ r ∈ rs, r.1 ∈ hs
theorem isMarksM_len {t : Str} (h : isMarksM t = true) : t.length ≤ 8 := by
  have e : t = oS (a2h.cps.toList.filter (sg t)) := of_decide_eq_true h
  have l : (a2h.cps.toList.filter (sg t)).length ≤ 8 := List.length_filter_le _ _
  have e2 : t.length = t.cps.toList.length := by simp [PySem.Str.length]
  have e3 : t.cps.toList = a2h.cps.toList.filter (sg t) := (congrArg (fun z : Str => z.cps.toList) e).trans (oS_cps _)
  rw [e2, e3]
  exact l
theorem isWordM_len {t : Str} (h : isWordM t = true) : t.length ≤ 6 := by
  unfold isWordM at h
  obtain ⟨_, h⟩ := Bool.and_eq_true_iff.mp h
  obtain ⟨h, _⟩ := Bool.and_eq_true_iff.mp h
  have q : (t.length : Int) ≤ 6 := of_decide_eq_true h
  omega
theorem isRowM_len {r : Row} (h : isRowM r = true) : r.1.length ≤ 6 ∧ r.2.1.length ≤ 8 ∧ r.2.2.length ≤ 8 := by
  unfold isRowM at h
  obtain ⟨h1, h2⟩ := Bool.and_eq_true_iff.mp h
  obtain ⟨h1, _⟩ := Bool.and_eq_true_iff.mp h1
  obtain ⟨h2, _⟩ := Bool.and_eq_true_iff.mp h2
  obtain ⟨h2, h3⟩ := Bool.and_eq_true_iff.mp h2
  exact ⟨isWordM_len h1, isMarksM_len h2, isMarksM_len h3⟩
theorem isMarksM_sub {t : Str} (h : isMarksM t = true) : ∀ c ∈ t.cps.toList, c ∈ a2h.cps.toList := fun c hc => by
  have e : t = oS (a2h.cps.toList.filter (sg t)) := of_decide_eq_true h
  have e3 : t.cps.toList = a2h.cps.toList.filter (sg t) := (congrArg (fun z : Str => z.cps.toList) e).trans (oS_cps _)
  rw [e3] at hc
  exact (List.mem_filter.mp hc).1
theorem isRowM_sg {r : Row} (h : isRowM r = true) : (∀ c ∈ r.2.1.cps.toList, c ∈ a2h.cps.toList) ∧ ∀ c ∈ r.2.2.cps.toList, c ∈ a2h.cps.toList := by
  unfold isRowM at h
  obtain ⟨h1, h2⟩ := Bool.and_eq_true_iff.mp h
  obtain ⟨h2, _⟩ := Bool.and_eq_true_iff.mp h2
  obtain ⟨h2, h3⟩ := Bool.and_eq_true_iff.mp h2
  exact ⟨isMarksM_sub h2, isMarksM_sub h3⟩
theorem abc_small : ∀ c ∈ abc.cps.toList, c < 128 := by decide
theorem isRowM_ok {r : Row} (h : isRowM r = true) : PyData.strOk r.1 = true := by
  unfold isRowM at h
  obtain ⟨h, _⟩ := Bool.and_eq_true_iff.mp h
  obtain ⟨h, _⟩ := Bool.and_eq_true_iff.mp h
  unfold isWordM at h
  obtain ⟨_, h⟩ := Bool.and_eq_true_iff.mp h
  obtain ⟨_, h⟩ := Bool.and_eq_true_iff.mp h
  unfold PyData.strOk
  rw [← Array.all_toList, List.all_eq_true]
  intro c hc
  have q := List.all_eq_true.mp h c hc
  exact decide_eq_true (Nat.lt_trans (abc_small c (of_decide_eq_true q)) (by decide))
theorem a2h_small : ∀ c ∈ a2h.cps.toList, c < 128 := by decide
theorem isMarksM_ok {t : Str} (h : isMarksM t = true) : PyData.strOk t = true := by
  unfold PyData.strOk
  rw [← Array.all_toList, List.all_eq_true]
  exact fun c hc => decide_eq_true (Nat.lt_trans (a2h_small c (isMarksM_sub h c hc)) (by decide))
theorem isRowM_ok3 {r : Row} (h : isRowM r = true) : PyData.strOk r.1 = true ∧ PyData.strOk r.2.1 = true ∧ PyData.strOk r.2.2 = true := by
  refine ⟨isRowM_ok h, ?_⟩
  unfold isRowM at h
  obtain ⟨h1, h2⟩ := Bool.and_eq_true_iff.mp h
  obtain ⟨h2, _⟩ := Bool.and_eq_true_iff.mp h2
  obtain ⟨h2, h3⟩ := Bool.and_eq_true_iff.mp h2
  exact ⟨isMarksM_ok h2, isMarksM_ok h3⟩
theorem layR : ∀ rs : List Row, (∀ r ∈ rs, isRowM r = true) → PyData.canLayAll0 (rs.map rowD) = true ∧ PyData.depthAll (rs.map rowD) ≤ 1
  | [], _ => by simp [PyData.canLayAll0, PyData.depthAll]
  | r :: t, h => by
    obtain ⟨i1, i2⟩ := layR t fun x hx => h x (List.mem_cons_of_mem _ hx)
    obtain ⟨a, b, c⟩ := isRowM_ok3 (h r List.mem_cons_self)
    simp only [List.map_cons, PyData.canLayAll0, PyData.depthAll, rowD, PyData.canLay0, PyData.depth, a, b, c, i1, Bool.and_self, true_and]
    omega
theorem shapedR {rs : List Row} (h : GoodR rs) : SeqAt.shaped (ruleD rs) = true := by
  obtain ⟨a, b⟩ := layR rs h.row
  unfold SeqAt.shaped ruleD
  rw [Bool.and_eq_true]
  exact ⟨by simp only [PyData.canLay0]; exact a, decide_eq_true (by simp only [PyData.depth]; omega)⟩
theorem mainM_mem (rs : List Row) (m : Str) : mainM rs m ∈ turnM rs m := List.mem_of_getElem? (turnM_0 rs m)
theorem turnM_small {rs : List Row} (h : GoodR rs) (m : Str) : ∀ z ∈ turnM rs m, z.length ≤ 6 := fun z hz => by
  unfold turnM at hz
  split at hz
  · rw [List.mem_singleton.mp hz]
    decide
  · obtain ⟨r, hr, e⟩ := List.mem_map.mp hz
    rw [← e]
    exact (isRowM_len (h.row r (List.mem_filter.mp hr).1)).1
theorem insS_len (x : Str) : ∀ l : List Str, (insS x l).length ≤ l.length + 1
  | [] => Nat.le_refl _
  | y :: r => by
    have ih := insS_len x r
    unfold insS
    split
    · omega
    · split
      · simp
      · simp only [List.length_cons]
        omega
theorem riseS_len : ∀ l : List Str, (riseS l).length ≤ l.length
  | [] => Nat.le_refl _
  | x :: r => by
    have ih := riseS_len r
    have h := insS_len x (riseS r)
    show (insS x (riseS r)).length ≤ r.length + 1
    omega
theorem rowD_ex {S : Addr → Prop} {H : Hp} {v : V} {r : Row} (h : Dn S H v (rowD r)) : ∃ a, v = .ref a ∧ ¬ S a ∧ H a = some (.tup [.str r.1, .str r.2.1, .str r.2.2]) := by
  obtain ⟨a, xs, rfl, hs, e, h⟩ := h.tup_ex
  have q : xs = [.str r.1, .str r.2.1, .str r.2.2] := DnA.strs_eq (xs := [r.1, r.2.1, r.2.2]) h
  rw [q] at e
  exact ⟨a, rfl, hs, e⟩
/-- holds(row, marks) -/
def spHolds (T : List Addr) : Sp := fun vs H Q _ => ∃ (v : V) (r : Row) (m : Str), vs = [v, .str m] ∧ Dn N0 H v (rowD r) ∧ Tbs T H ∧ ∀ H', Kp N0 H H' → Q (.bl (holdsM r m)) H'
/-- heads_in_turn(rule, marks): a new list -/
def spTurn (T : List Addr) : Sp := fun vs H Q _ => ∃ (v : V) (rs : List Row) (m : Str), vs = [v, .str m] ∧ Dn N0 H v (ruleD rs) ∧ rs.length ≤ 100 ∧ Tbs T H ∧ ∀ p H', H p = none → Kp N0 H H' → H' p = some (.lst ((turnM rs m).map V.str)) → Q (.ref p) H'
/-- rising_heads(rule, marks) -/
def spRising (T : List Addr) : Sp := fun vs H Q _ => ∃ (v : V) (rs : List Row) (m : Str), vs = [v, .str m] ∧ Dn N0 H v (ruleD rs) ∧ rs.length ≤ 50 ∧ Tbs T H ∧ ∀ p H', H p = none → Kp N0 H H' → H' p = some (.lst ((headsM rs m).map V.str)) → Q (.ref p) H'
/-- main_head(rule, marks) -/
def spMain (T : List Addr) : Sp := fun vs H Q _ => ∃ (v : V) (rs : List Row) (m : Str), vs = [v, .str m] ∧ Dn N0 H v (ruleD rs) ∧ rs.length ≤ 50 ∧ Tbs T H ∧ ∀ H', Kp N0 H H' → Q (.str (mainM rs m)) H'
/-- is_word(text) -/
def spIsWord (T : List Addr) : Sp := fun vs H Q _ => ∃ t : Str, vs = [.str t] ∧ t.length ≤ 1000 ∧ Tbs T H ∧ ∀ H', Kp N0 H H' → Q (.bl (isWordM t)) H'
/-- is_marks(text) -/
def spIsMarks : Sp := fun vs H Q _ => ∃ t : Str, vs = [.str t] ∧ t.length ≤ 1000 ∧ ∀ H', Kp N0 H H' → Q (.bl (isMarksM t)) H'
/-- is_row(row) -/
def spIsRow (T : List Addr) : Sp := fun vs H Q _ => ∃ (v : V) (r : Row), vs = [v] ∧ Dn N0 H v (rowD r) ∧ r.1.length ≤ 1000 ∧ r.2.1.length ≤ 1000 ∧ r.2.2.length ≤ 1000 ∧ Tbs T H ∧ ∀ H', Kp N0 H H' → Q (.bl (isRowM r)) H'
/-- check_rule(rule), of a rule that can be -/
def spCheckRule (T : List Addr) : Sp := fun vs H Q _ => ∃ (v : V) (rs : List Row), vs = [v] ∧ Dn N0 H v (ruleD rs) ∧ GoodR rs ∧ Tbs T H ∧ ∀ H', Kp N0 H H' → Q .non H'
/-- check_marks(marks), of marks that are -/
def spCheckMarks : Sp := fun vs H Q _ => ∃ t : Str, vs = [.str t] ∧ isMarksM t = true ∧ ∀ H', Kp N0 H H' → Q .non H'
/-- heads_of(rule, marks) -/
def spHeadsOf (T : List Addr) : Sp := fun vs H Q _ => ∃ (v : V) (rs : List Row) (m : Str), vs = [v, .str m] ∧ Dn N0 H v (ruleD rs) ∧ GoodR rs ∧ isMarksM m = true ∧ Tbs T H ∧ ∀ p H', H p = none → Kp N0 H H' → H' p = some (.lst ((headsM rs m).map V.str)) → Q (.ref p) H'
/-- main_of(rule, marks) -/
def spMainOf (T : List Addr) : Sp := fun vs H Q _ => ∃ (v : V) (rs : List Row) (m : Str), vs = [v, .str m] ∧ Dn N0 H v (ruleD rs) ∧ GoodR rs ∧ isMarksM m = true ∧ Tbs T H ∧ ∀ H', Kp N0 H H' → Q (.str (mainM rs m)) H'
theorem sub_take {α : Type} {l out : List α} {i : Nat} {c : α} (h : out.Sublist (l.take i)) (hc : l[i]? = some c) : (out ++ [c]).Sublist (l.take (i + 1)) ∧ out.Sublist (l.take (i + 1)) := by
  have lt := (List.getElem?_eq_some_iff.mp hc).1
  have e : l.take (i + 1) = l.take i ++ [c] := by
    rw [← (List.getElem?_eq_some_iff.mp hc).2, List.take_append_getElem]
  rw [e]
  exact ⟨h.append (List.Sublist.refl _), h.trans (List.sublist_append_left _ _)⟩
/-- _law_rule(box, most): a new rule that can be -/
def spRuleL : Sp := fun vs H Q _ => ∃ (b l : Addr) (most : Int), vs = [.ref b, .int most] ∧ 0 ≤ most ∧ most ≤ 12 ∧ Box H b l ∧ ∀ (rs : List Row) p H', GoodR rs → (rs.length : Int) ≤ most → H p = none → Box H' b l → Kp (sB b l) H H' → Dn (sB b l) H' (.ref p) (ruleD rs) → Q (.ref p) H'
def hs1 : List Str := ["law", "la", "l", "bill", "b", "seal"]
def hs2 : List Str := ["s", "se", "rests", "r", "tax", "taxes"]
theorem hs_ok : ∀ h ∈ hs1 ++ hs2, isWordM h = true ∧ h ≠ "rest" := by decide +kernel
theorem row_ok {h : Str} {m1 m2 : List Nat} (hh : h ∈ hs1 ++ hs2) (s1 : m1.Sublist a2h.cps.toList) (s2 : m2.Sublist (a2h.cps.toList.filter fun c => !decide (c ∈ m1))) : isRowM (h, oS m1, oS m2) = true := by
  obtain ⟨w1, w2⟩ := hs_ok h hh
  have i1 : isMarksM (oS m1) = true := decide_eq_true (marks_of s1)
  have i2 : isMarksM (oS m2) = true := decide_eq_true (marks_of (s2.trans List.filter_sublist))
  have i3 : ((oS m1).cps.toList.any (sg (oS m2))) = false := by
    rw [oS_cps, List.any_eq_false]
    intro c hc z
    unfold sg at z
    rw [oS_cps] at z
    have q := List.mem_filter.mp (s2.subset (of_decide_eq_true z))
    simp [hc] at q
  unfold isRowM
  rw [w1, i1, i2, i3]
  simp [w2]
/-- _law_held(rule, marks) -/
def spHeldL : Sp := fun vs H Q _ => ∃ (v : V) (rs : List Row) (m : Str), vs = [v, .str m] ∧ Dn N0 H v (ruleD rs) ∧ GoodR rs ∧ ∀ p H', H p = none → Kp N0 H H' → H' p = some (.lst ((turnM rs m).map V.str)) → Q (.ref p) H'
/-- the law -/
def spLaw (K : PySem.W.Frag) (T : List Addr) : Sp := fun vs H Q _ => ∃ (a : Addr) (ns : List Int), vs = [.ref a] ∧ SqL K H a (ns.map V.int) ∧ ns.length ≤ 63 ∧ Tbs T H ∧ ∀ H', Q (.bl true) H'
end Fc
set_option maxHeartbeats 4000000
/-! Pairs of texts in order; a text in a set of texts; a dict of new lists. -/
namespace Fc
open PySem PySem.Spec PyProof.Rows L2
/-! ### a text in a set -/
section
variable {X : Cx}
def rInSS (w : World) : R2 := fun x y H Q => ∃ (k : Str) (a : Addr) (l : List Str), x = .str k ∧ y = .ref a ∧ H a = some (SetSO w a l) ∧ Q (.bl (decide (k ∈ l))) H
theorem op_inSS : OpR X (compareOp .In) (rInSS X.w) := by
  intro pins s σ H x y v u Q I rx ry h
  obtain ⟨k, a, l, rfl, rfl, ha, q⟩ := h
  obtain ⟨tk, rfl⟩ := rx
  cases ry
  exact wpAny_inSet_of (strKind_is X.prog X.w k tk) rfl (setSO_get I ha).setOf ⟨.bl (decide (k ∈ l)), H, I.tok _, rfl, q⟩
end
/-! ### pairs of texts, by the first, then by the second -/
abbrev P2 := Str × Str
def lexS (p q : P2) : Bool := if p.1 = q.1 then ltS p.2 q.2 else ltS p.1 q.1
theorem lexS_tri (p q : P2) : lexS p q = true ∨ p = q ∨ lexS q p = true := by
  obtain ⟨a, b⟩ := p
  obtain ⟨c, d⟩ := q
  unfold lexS
  by_cases e : a = c
  · subst e
    simp only [if_true]
    rcases ltS_tri b d with z | z | z
    · exact .inl z
    · exact .inr (.inl (by rw [z]))
    · exact .inr (.inr z)
  · rw [if_neg e, if_neg (show ¬ c = a from fun z => e z.symm)]
    rcases ltS_tri a c with z | z | z
    · exact .inl z
    · exact (e z).elim
    · exact .inr (.inr z)
theorem lexS_trans {p q r : P2} (h : lexS p q = true) (k : lexS q r = true) : lexS p r = true := by
  obtain ⟨a, b⟩ := p
  obtain ⟨c, d⟩ := q
  obtain ⟨e, f⟩ := r
  unfold lexS at h k ⊢
  dsimp only at h k ⊢
  by_cases e1 : a = c
  · subst e1
    rw [if_pos rfl] at h
    by_cases e2 : a = e
    · rw [if_pos e2] at k ⊢
      exact ltS_trans h k
    · rw [if_neg e2] at k ⊢
      exact k
  · rw [if_neg e1] at h
    by_cases e2 : c = e
    · subst e2
      rw [if_neg e1]
      exact h
    · rw [if_neg e2] at k
      have t := ltS_trans h k
      rw [if_neg fun z => by rw [z, ltS_irr] at t; cases t]
      exact t
theorem lexS_irr (p : P2) : lexS p p = false := by
  unfold lexS
  rw [if_pos rfl, ltS_irr]
theorem lexS_asym {p q : P2} (h : lexS p q = true) : lexS q p = false := by
  cases z : lexS q p with
  | false => rfl
  | true =>
    have t := lexS_trans h z
    rw [lexS_irr] at t
    cases t
theorem swo_lexS {α : Type} (k : α → P2) : SrtO.Swo fun v u => lexS (k v) (k u) := by
  refine ⟨fun x y h => lexS_asym h, fun x y z h1 h2 => ?_⟩
  show lexS (k z) (k x) = false
  cases c : lexS (k z) (k x) with
  | false => rfl
  | true =>
    have h1' : lexS (k y) (k x) = false := h1
    have h2' : lexS (k z) (k y) = false := h2
    rcases lexS_tri (k x) (k y) with q | q | q
    · have t := lexS_trans c q
      rw [t] at h2'
      cases h2'
    · rw [q] at c
      rw [c] at h2'
      cases h2'
    · rw [q] at h1'
      cases h1'
/-- v: a tuple of the two texts -/
def TwoS (h : Heap) (v : Value) (p : P2) : Prop := ∃ a o t u n, v = .ref a ∧ h.get? a = some o ∧ o.cls = .type "tuple" ∧ o.data = .seq #[.str p.1 t, .str p.2 u] n
theorem TwoS.over {h h' : Heap} {v : Value} {p : P2} (z : TwoS h v p) (k : ∀ b o, h.get? b = some o → o.cls = .type "tuple" → h'.get? b = some o) : TwoS h' v p := by
  obtain ⟨a, o, t, u, n, e, ho, hc, hd⟩ := z
  exact ⟨a, o, t, u, n, e, k _ _ ho hc, hc, hd⟩
section
variable {prog : Program} {w : World} {A : Around} {s : Shared}
theorem two_heads {h : Heap} (k : Value → P2) (vs : List Value) (hp : ∀ v ∈ vs, TwoS h v (k v)) : ∃ fs : List Value, PySem.W.KatTups h vs fs ∧ fs.length = vs.length ∧ ∀ f ∈ fs, ∃ x t, f = Value.str x t := by
  induction vs with
  | nil => exact ⟨[], PySem.W.KatTups.nil, rfl, fun _ hm => nomatch hm⟩
  | cons v vs ih =>
    obtain ⟨fs, h1, h2, h3⟩ := ih fun v' hm => hp v' (List.mem_cons_of_mem _ hm)
    obtain ⟨a, o, t, u, n, e, ho, hc, hd⟩ := hp v List.mem_cons_self
    rw [e]
    refine ⟨.str (k v).1 t :: fs, PySem.W.KatTups.cons ho hc hd rfl h1, congrArg (· + 1) h2, fun f hm => ?_⟩
    rcases List.mem_cons.mp hm with z | z
    · exact ⟨_, t, z⟩
    · exact h3 f z
theorem two_cmp {vs : List Value} {k : Value → P2} (hp : ∀ v ∈ vs, TwoS s.heap v (k v)) : SrtO.Cmp prog w A s (tuples' true) (fun p => p.1 ∈ vs) (SrtO.lt2 fun v u => lexS (k v) (k u)) := by
  intro p q hm hm'
  have h1 := hp _ hm
  have h2 := hp _ hm'
  show wpAny (model prog w) A (keyLt' (tuples' true) p.1 q.1) (fun r s' => s' = s ∧ r = lexS (k p.1) (k q.1)) (fun _ _ => False) s
  generalize k p.1 = x at h1 ⊢
  generalize k q.1 = y at h2 ⊢
  obtain ⟨x1, x2⟩ := x
  obtain ⟨y1, y2⟩ := y
  obtain ⟨a, o, t, u, n, e, ho, hc, hd⟩ := h1
  obtain ⟨b, r, i, j, m, e', ho', hc', hd'⟩ := h2
  rw [e, e']
  refine PySem.W.kat_lt ho hd ho' hd' (PySem.W.kat_cons (SeqAt.EqAt.str_str x1 t y1 i prog w _ _ (PySem.W.kat_go (fun e1 => ?_) (fun e1 => ?_))))
  · have ex : x1 = y1 := by simpa using e1
    refine PySem.W.kat_yes (PySem.W.kat_cons (SeqAt.EqAt.str_str x2 u y2 j prog w _ _ (PySem.W.kat_go (fun e2 => ?_) (fun e2 => ?_))))
    · have ey : x2 = y2 := by simpa using e2
      refine PySem.W.kat_yes (PySem.W.kat_nil ⟨rfl, ?_⟩)
      rw [ex, ey]
      exact (lexS_irr _).symm
    · refine PySem.W.kat_no (PySem.W.kat_one _ _ (PyProof.Rows.lt_str ?_))
      refine ⟨rfl, ?_⟩
      unfold lexS ltS
      rw [if_pos ex]
  · have ex : ¬ x1 = y1 := by simpa using e1
    refine PySem.W.kat_no (oneLt_str ⟨rfl, ?_⟩)
    unfold lexS ltS
    rw [if_neg ex]
theorem two_sortable {a : Addr} {vs : List Value} {k : Value → P2} (h0 : 0 < vs.length) (hp : ∀ v ∈ vs, TwoS s.heap v (k v)) (ha : ∀ o, s.heap.get? a = some o → o.cls ≠ .type "tuple") : SrtO.SortableO prog w A s a vs fun v u => lexS (k v) (k u) := by
  intro h' keep
  have hp' : ∀ v ∈ vs, TwoS h' v (k v) := fun v hm => (hp v hm).over fun b o e c => keep b o (fun z => ha o (by rw [← z]; exact e) c) e
  obtain ⟨fs, h1, h2, h3⟩ := two_heads k vs hp'
  refine ⟨tuples' true, fun Q E hq => PySem.W.kat_kind (T := .type "str") h1 (by omega) (fun f hm => ?_) (by rfl) ?_, two_cmp hp'⟩
  · obtain ⟨x, t, rfl⟩ := h3 f hm
    exact PySem.W.Looks.now
  · have e : (Value.type "str" != Value.type "tuple") = true := by first | decide +kernel | rfl | decide
    rw [e]
    exact hq
end
section
variable {X : Cx}
/-- sorted(list of pairs of texts), k tells which -/
def rSortPP (K : PySem.W.Frag) : List V → Hp → VK → Prop := fun vs H Q => ∃ (a : Addr) (xs : List V) (k : V → P2), vs = [.ref a] ∧ SqL K H a xs ∧ (∀ x ∈ xs, ∃ t, x = V.ref t ∧ H t = some (.tup [.str (k x).1, .str (k x).2])) ∧
  ∀ ys p, SrtO.Srtd (fun v u => lexS (k v) (k u)) ys → ys.Perm xs → H p = none → Q (.ref p) (upd H p (.lst ys))
theorem cr_sortPP : CallR X (.builtin "sorted") (rSortPP X.K) := by
  intro pins s σ H vs us Q I r h
  obtain ⟨a, xs, k, rfl, hs, hx, q⟩ := h
  obtain ⟨its, rv, hl, hz⟩ := I.list hs
  rw [Vals.ref1 r]
  obtain ⟨e1, e2⟩ := refs_back rv fun x m => Exists.imp (fun _ z => z.1) (hx x m)
  have old : ∀ v ∈ its, TwoS s.heap v (k (backV v)) := fun v hv => by
    obtain ⟨t, rfl⟩ := e2 v hv
    have hm : V.ref t ∈ xs := by
      rw [e1]
      exact List.mem_map.mpr ⟨_, hv, rfl⟩
    obtain ⟨t', e, ht⟩ := hx _ hm
    cases e
    obtain ⟨_, its2, r2, o, ho, hc, n, hd⟩ := I.hok _ _ ht
    obtain ⟨u1, u2, rfl, ri, rj⟩ := vals2 r2
    obtain ⟨t1, rfl⟩ := ri
    obtain ⟨t2, rfl⟩ := rj
    exact ⟨t, o, t1, t2, n, rfl, ho, hc, hd⟩
  refine SrtO.sorted_ord (swo_lexS fun u => k (backV u)) hl.isList (by rw [← rv.length]; exact hz) (fun h2 h₁ b hb kk => ?_) fun out hs hb => ?_
  · refine two_sortable (s := { s with heap := h₁ }) (k := fun u => k (backV u)) (by omega) (fun v hm => (old v hm).over fun c o e _ => (kk c o e).2) fun o e c => ?_
    have e' := e.symm.trans hb
    cases e'
    exact absurd (Value.type.inj c) (by decide)
  · have h3 : ∀ u ∈ out, ∃ a, u = Value.ref a := fun u hu => e2 u (hb.perm.mem_iff.mp hu)
    obtain ⟨n, hn⟩ := sortedAll_at s.heap its out.toArray
    have pm : (out.map backV).Perm xs := by
      rw [e1]
      exact hb.perm.map backV
    refine ⟨.ref _, upd H (s.heap.objs.size + 1) (.lst (out.map backV)), I.laid (t' := s.toks) (fun _ _ => sortedAll_old) (Nat.le_succ _) ⟨?_, out, n, vals_back h3, hn⟩, rfl, q _ _ (SrtO.srtd_map hs) pm (I.hok.fresh (Nat.le_succ _))⟩
    rw [pm.length_eq]
    exact hz
end
/-- the first items of what is sorted, each once: they rise -/
theorem rs_of_lex {α : Type} (k : α → P2) : ∀ {ys : List α}, SrtO.Srtd (fun v u => lexS (k v) (k u)) ys → (ys.map fun y => (k y).1).Nodup → Rs (ys.map fun y => (k y).1)
  | [], _, _ => List.Pairwise.nil
  | y :: r, h, nd => by
    obtain ⟨h1, h2⟩ := List.pairwise_cons.mp h
    obtain ⟨n1, n2⟩ := List.nodup_cons.mp nd
    refine List.pairwise_cons.mpr ⟨fun z hz => ?_, rs_of_lex k h2 n2⟩
    obtain ⟨u, hu, e⟩ := List.mem_map.mp hz
    have q : lexS (k u) (k y) = false := h1 u hu
    have ne : ¬ (k u).1 = (k y).1 := fun c => n1 (List.mem_map.mpr ⟨u, hu, c⟩)
    unfold lexS at q
    rw [if_neg ne] at q
    rw [← e]
    rcases ltS_tri (k y).1 (k u).1 with c | c | c
    · exact c
    · exact (ne c.symm).elim
    · rw [c] at q
      cases q
theorem Rs.filter {l : List Str} (p : Str → Bool) (h : Rs l) : Rs (l.filter p) := List.Pairwise.filter p h
/-! ### a name set to a dict comprehension -/
theorem sw_dc {kx vx : Expr} {gs : List Comprehension} {sc : Scope} {pos py : Pos} {y : Str} {l : Nat} {env : Env} (k : env.scope.kind = .function) (n : env.scope.names.lookup y = some .local) (j : (py.line == pos.line) = true) (a : (sc.names.any fun (x, z) => x == y && (z == .local || z == .cell)) = false) :
    swapsWith (.DictComp kx vx gs sc pos) (some (.Name y py)) l env = pure true := by
  have h1 : env.kindOf y = some .local := n
  have h2 : env.blockKind = .function := by
    unfold Env.blockKind
    rw [k]
    rfl
  unfold swapsWith
  simp only [h1, h2, a, j, Expr.pos]
  rfl
section
variable {X : Cx}
theorem ps_setDc {i : Nat} {y : Str} {py : Pos} {kx vx tg iter : Expr} {ifs : List Expr} {scope : Scope} {own : List (Str × Nat)} {pos spos : Pos} {wi : TI} {g : TG} {tt : TT} {tk tv : TE}
    (hc : X.calm = true) (hN : X.N.Nodup) (hy : X.N[i]? = some y) (hyl : X.env.scope.names.lookup y = some .local) (hw : swapsWith (.DictComp kx vx [⟨tg, iter, ifs, 0⟩] scope pos) (some (.Name y py)) spos.line X.env = pure true)
    (hi : PI X tg iter wi) (ok : BlkOk X.N X.env.scope scope own) (hg : ∀ (s : Shared) (H : Hp) (C : Addr) (cl : List (Str × Addr)) (fp : List Addr), PG (X.blk s H scope (compEnvC scope cl C X.env) fp) tg g)
    (ht : ∀ (s : Shared) (H : Hp) (C : Addr) (cl : List (Str × Addr)) (fp : List Addr), PTs (X.blk s H scope (compEnvC scope cl C X.env) fp) ifs tt) (hk : ∀ (s : Shared) (H : Hp) (C : Addr) (cl : List (Str × Addr)) (fp : List Addr), PE (X.blk s H scope (compEnvC scope cl C X.env) fp) kx tk)
    (hv : ∀ (s : Shared) (H : Hp) (C : Addr) (cl : List (Str × Addr)) (fp : List Addr), PE (X.blk s H scope (compEnvC scope cl C X.env) fp) vx tv) (hs : ∀ x, foldedSetIterable iter X.env x = pure x := by intro _; rfl) :
    PS X (.Assign [.Name y py] (.DictComp kx vx [⟨tg, iter, ifs, 0⟩] scope pos) spos) (tAsg (tDc wi g tt tk tv (own.map (·.2))) (gName i)) := by
  refine ⟨fun pins s σ H D I h => ?_⟩
  have h2 : tDc wi g tt tk tv (own.map (·.2)) σ H fun x H1 => gName i x σ H1 D.nx := h
  rw [exec_Assign_Name_used _ _ _ _ hw]
  refine wpAny_bind (wpAny_standAt (wpAny_bind ?_))
  show wpAny _ X.A (do let _ ← comprehension (.DictComp kx vx [⟨tg, iter, ifs, 0⟩] scope pos) scope X.env (firstIterPos [⟨tg, iter, ifs, 0⟩] pos) newDict false (eval iter X.env) (some (assign (.Name y py) X.env))) _ _ s
  refine wpAny_bind (thn (dc_core (Qf := fun _ s1 => SP X pins D .next s1) hc hN I hi ok hg ht hk hv hs h2 fun L C s1 m H1 J q hn f => ?_) fun _ s1 z => wpAny_pure (wpAny_pure z))
  show wpAny _ _ (assign (.Name y py) X.env (.ref L)) _ _ _
  obtain ⟨f0, f1, f2, f3, f4, f5⟩ := f
  refine wpAny_assign_Name (store_ok2 (v := V.ref L) J hN hy (.inl hyl) rfl (fun s2 J2 ⟨a, sb, ha⟩ => ?_) (.inr hyl))
  have ne : C ≠ a := ha.elim (fun z => by rw [z]; exact f1) fun z e => f4 y a z e.symm
  refine ⟨m, hn.sameBut sb ne, fun h3 sb3 => ⟨_, H1, ?_, q⟩⟩
  exact J2.turned (t' := s2.toks) (fun b o hb e => (sb3.2 b hb).trans e) f0 f1 f3 f4 f5
end
end Fc
set_option maxHeartbeats 4000000
/-! Papers; drawers. -/
namespace Fc
open PySem PySem.Spec PyProof.Rows L2
def paperD (p : P2) : PyData := .tuple [.str p.1, .str p.2]
def papersD (ps : List P2) : PyData := .list (ps.map paperD)
/-- papers that can be -/
structure GoodP (ps : List P2) : Prop where
  few : ps.length ≤ 12
  ok : ∀ p ∈ ps, isWordM p.1 = true ∧ isMarksM p.2 = true
  nd : (ps.map (·.1)).Nodup
theorem paperD_ex {S : Addr → Prop} {H : Hp} {v : V} {p : P2} (h : Dn S H v (paperD p)) : ∃ a, v = .ref a ∧ ¬ S a ∧ H a = some (.tup [.str p.1, .str p.2]) := by
  obtain ⟨a, xs, rfl, hs, e, h⟩ := h.tup_ex
  have q : xs = [.str p.1, .str p.2] := DnA.strs_eq (xs := [p.1, p.2]) h
  rw [q] at e
  exact ⟨a, rfl, hs, e⟩
def ruleHeadsM (rs : List Row) : List Str := riseS (rs.map (·.1) ++ (["rest"] : List Str))
def inDrawer (rs : List Row) (ps : List P2) (h : Str) : List Str := riseS ((ps.filter fun p => decide (mainM rs p.2 = h)).map (·.1))
def drawD (hs : List Str) (f : Str → List Str) : PyData := .list (hs.map fun h => .tuple [.str h, .list ((f h).map PyData.str)])
def rightD (rs : List Row) (ps : List P2) : PyData := drawD (ruleHeadsM rs) (inDrawer rs ps)
theorem main_in (rs : List Row) (m : Str) : mainM rs m ∈ ruleHeadsM rs := by
  refine (riseS_mem _ _).mpr ?_
  have h := mainM_mem rs m
  unfold turnM at h
  split at h
  · exact List.mem_append_right _ h
  · obtain ⟨r, hr, e⟩ := List.mem_map.mp h
    exact List.mem_append_left _ (List.mem_map.mpr ⟨r, (List.mem_filter.mp hr).1, e⟩)
theorem ruleHeads_len (rs : List Row) : (ruleHeadsM rs).length ≤ rs.length + 1 := by
  have h := riseS_len (rs.map (·.1) ++ (["rest"] : List Str))
  rw [List.length_append, List.length_map] at h
  exact h
theorem inDrawer_len (rs : List Row) (ps : List P2) (h : Str) : (inDrawer rs ps h).length ≤ ps.length := by
  refine Nat.le_trans (riseS_len _) ?_
  rw [List.length_map]
  exact List.length_filter_le _ _
theorem ruleHeads_small {rs : List Row} (g : GoodR rs) : ∀ h ∈ ruleHeadsM rs, h.length ≤ 6 := fun h hh => by
  rcases List.mem_append.mp ((riseS_mem _ _).mp hh) with z | z
  · obtain ⟨r, hr, e⟩ := List.mem_map.mp z
    rw [← e]
    exact (isRowM_len (g.row r hr)).1
  · rw [List.mem_singleton.mp z]
    decide
theorem inDrawer_small {rs : List Row} {ps : List P2} (g : GoodP ps) (h : Str) : ∀ z ∈ inDrawer rs ps h, z.length ≤ 6 := fun z hz => by
  obtain ⟨p, hp, e⟩ := List.mem_map.mp ((riseS_mem _ _).mp hz)
  rw [← e]
  exact isWordM_len (g.ok p (List.mem_filter.mp hp).1).1
/-! what the promises say -/
def spCheckPapers (T : List Addr) : Sp := fun vs H Q _ => ∃ (v : V) (ps : List P2), vs = [v] ∧ Dn N0 H v (papersD ps) ∧ GoodP ps ∧ Tbs T H ∧ ∀ H', Kp N0 H H' → Q .non H'
def spRuleHeads : Sp := fun vs H Q _ => ∃ (v : V) (rs : List Row), vs = [v] ∧ Dn N0 H v (ruleD rs) ∧ rs.length ≤ 50 ∧ ∀ p H', H p = none → Kp N0 H H' → H' p = some (.lst ((ruleHeadsM rs).map V.str)) → Q (.ref p) H'
/-- at p a new list of new pairs: a head, a new list -/
def Told (H0 H' : Hp) (p : Addr) (hs : List Str) (f : Str → List Str) : Prop := ∃ ts as : List Addr, ts.length = hs.length ∧ as.length = hs.length ∧ H0 p = none ∧ (∀ a ∈ as, H0 a = none) ∧ p ∉ as ∧ H' p = some (.lst (ts.map V.ref)) ∧
  ∀ (j : Nat) (t a : Addr) (h : Str), ts[j]? = some t → as[j]? = some a → hs[j]? = some h → H' t = some (.tup [.str h, .ref a]) ∧ H' a = some (.lst ((f h).map V.str))
theorem Told.dn {H0 H' : Hp} {p : Addr} {hs : List Str} {f : Str → List Str} (k : Told H0 H' p hs f) : Dn N0 H' (.ref p) (drawD hs f) := by
  obtain ⟨ts, as, l1, l2, x1, x2, x3, hp, k⟩ := k
  refine .lst nn hp ?_
  clear hp x1 x2 x3
  induction hs generalizing ts as with
  | nil =>
    cases ts with
    | nil => exact .nil
    | cons t r => cases l1
  | cons h hs ih =>
    cases ts with
    | nil => cases l1
    | cons t ts =>
      cases as with
      | nil => cases l2
      | cons a as =>
        obtain ⟨h1, h2⟩ := k 0 t a h rfl rfl rfl
        refine .cons (.tup nn h1 (.cons (.str h) (.cons (.lst nn h2 (DnA.strs _)) .nil))) ?_
        exact ih ts as (Nat.succ.inj l1) (Nat.succ.inj l2) fun j t a h e1 e2 e3 => k (j + 1) t a h (by simpa using e1) (by simpa using e2) (by simpa using e3)
def spRight (T : List Addr) : Sp := fun vs H Q _ => ∃ (v u : V) (rs : List Row) (ps : List P2), vs = [v, u] ∧ Dn N0 H v (ruleD rs) ∧ Dn N0 H u (papersD ps) ∧ GoodR rs ∧ GoodP ps ∧ Tbs T H ∧ ∀ p H', Kp N0 H H' → Told H H' p (ruleHeadsM rs) (inDrawer rs ps) → Q (.ref p) H'
/-! ### a dict comprehension's loop -/
theorem dc_it {J : It} {n : Nat} {G : Hp → Prop} {Y : Nat → Hp → V → Hp → Prop} (w : Walk J n G Y) {g : TG} {tt : TT} {tk tv : TE} {vs : List Nat} {σ : L2.St} {H1 : Hp} {D : Addr} {Qd : Hp → Prop} (Pv : Nat → Hp → Prop) (h0 : Pv 0 (upd H1 D (.dK []))) (hG : ∀ i H, i ≤ n → Pv i H → G H)
    (hs : ∀ i x H H', i < n → Pv i H → Y i H x H' → g x (wipe σ vs) H' fun σ2 H2 => wipe σ2 vs = wipe σ vs ∧ tt σ2 H2 fun b H3 =>
      if b = true then tk σ2 H3 fun y H4 => tv σ2 H4 fun z H5 => ∃ kvs k, y = kV k ∧ H5 D = some (.dK kvs) ∧ kvs.length < sizeLine ∧ Pv (i + 1) (upd H5 D (.dK (putK kvs k z))) else Pv (i + 1) H3) (hd : ∀ H, Pv n H → Qd H) :
    ∃ W : Nat → Nat → Hp → Prop, (∃ m, W 0 m (upd H1 D (.dK []))) ∧ ∀ i m H, W i m H →
      (J.stop i H ∧ Qd H) ∨ (J.go i H ∧ ∃ Nx : Hp → Prop, (∀ H', Nx H' → ∃ m', m' < m ∧ W (i + 1) m' H') ∧ ∀ x H', J.yld i H x H' → g x (wipe σ vs) H' fun σ2 H2 => wipe σ2 vs = wipe σ vs ∧ tt σ2 H2 fun b H3 =>
        if b = true then tk σ2 H3 fun y H4 => tv σ2 H4 fun z H5 => ∃ kvs k, y = kV k ∧ H5 D = some (.dK kvs) ∧ kvs.length < sizeLine ∧ Nx (upd H5 D (.dK (putK kvs k z))) else Nx H3) := by
  refine ⟨fun i m H => m = n - i ∧ i ≤ n ∧ Pv i H, ⟨n, rfl, Nat.zero_le _, h0⟩, ?_⟩
  intro i m H z
  obtain ⟨e, hi, p⟩ := z
  subst e
  have q := hG i H hi p
  rcases Nat.lt_or_ge i n with lt | ge
  · exact .inr ⟨w.goes i H lt q, Pv (i + 1), fun H' p' => ⟨n - (i + 1), by omega, rfl, lt, p'⟩, fun x H' y => hs i x H H' lt p (w.yields i H x H' lt q y)⟩
  · have e : i = n := by omega
    subst e
    exact .inl ⟨w.stops H q, hd H p⟩
/-! ### a dict of heads -/
def dkv (hs : List Str) (as : List Addr) : List (Key × V) := (hs.zip as).map fun p => (.inr p.1, .ref p.2)
theorem dkv_none : ∀ (hs : List Str) (as : List Addr) (h : Str), h ∉ hs → valV (dkv hs as) (.inr h) = none
  | [], _, _, _ => by cases ‹List Addr› <;> rfl
  | _ :: _, [], _, _ => rfl
  | x :: hs, a :: as, h, n => by
    have ne : ¬ ((.inr x : Key), V.ref a).1 = .inr h := fun e => n (by cases e; exact List.mem_cons_self)
    exact (valV_neg (r := dkv hs as) ne).trans (dkv_none hs as h fun z => n (List.mem_cons_of_mem _ z))
theorem dkv_at : ∀ (hs : List Str) (as : List Addr) (j : Nat) (h : Str) (a : Addr), hs.Nodup → hs[j]? = some h → as[j]? = some a → valV (dkv hs as) (.inr h) = some (.ref a)
  | [], _, _, _, _, _, e, _ => by simp at e
  | _ :: _, [], _, _, _, _, _, e => by simp at e
  | x :: hs, b :: as, 0, h, a, _, e1, e2 => by
    simp at e1 e2
    subst e1
    subst e2
    exact valV_pos (p := ((.inr x : Key), V.ref b)) (r := dkv hs as) rfl
  | x :: hs, b :: as, j + 1, h, a, nd, e1, e2 => by
    obtain ⟨n1, n2⟩ := List.nodup_cons.mp nd
    have e1' : hs[j]? = some h := by simpa using e1
    have ne : ¬ ((.inr x : Key), V.ref b).1 = .inr h := fun e => n1 (by cases e; exact List.mem_of_getElem? e1')
    exact (valV_neg (r := dkv hs as) ne).trans (dkv_at hs as j h a n2 e1' (by simpa using e2))
theorem dkv_snoc {hs : List Str} {as : List Addr} (l : hs.length = as.length) (h : Str) (a : Addr) : dkv (hs ++ [h]) (as ++ [a]) = dkv hs as ++ [(.inr h, .ref a)] := by
  unfold dkv
  rw [List.zip_append l, List.map_append]
  rfl
theorem dkv_len (hs : List Str) (as : List Addr) : (dkv hs as).length ≤ hs.length := by
  unfold dkv
  rw [List.length_map, List.length_zip]
  exact Nat.min_le_left _ _
theorem Rs.nd {l : List Str} (h : Rs l) : l.Nodup := h.nodup
/-- the i-th, put down among those of its drawer -/
theorem filt_take {α : Type} {l : List α} {i : Nat} {x : α} (f : α → Bool) (g : α → Str) (h : l[i]? = some x) : ((l.take (i + 1)).filter f).map g = ((l.take i).filter f).map g ++ (if f x = true then [g x] else []) := by
  have e : l.take (i + 1) = l.take i ++ [x] := by rw [← (List.getElem?_eq_some_iff.mp h).2, List.take_append_getElem]
  rw [e, List.filter_append, List.map_append]
  congr 1
  rw [List.filter_cons]
  split <;> rfl
theorem dkv_get : ∀ (hs : List Str) (as : List Addr) (j : Nat) (h : Str) (a : Addr), hs[j]? = some h → as[j]? = some a → (dkv hs as)[j]? = some (.inr h, .ref a)
  | [], _, _, _, _, e, _ => by simp at e
  | _ :: _, [], _, _, _, _, e => by simp at e
  | x :: hs, b :: as, 0, h, a, e1, e2 => by
    simp at e1 e2
    subst e1
    subst e2
    rfl
  | x :: hs, b :: as, j + 1, h, a, e1, e2 => dkv_get hs as j h a (by simpa using e1) (by simpa using e2)
theorem dkv_leng {hs : List Str} {as : List Addr} (l : as.length = hs.length) : (dkv hs as).length = hs.length := by
  unfold dkv
  rw [List.length_map, List.length_zip, l, Nat.min_self]
/-- which pair a value is -/
def keyP (H : Hp) : V → P2
  | .ref t => match H t with
    | some (.tup [.str x, .str y]) => (x, y)
    | _ => ("", "")
  | _ => ("", "")
theorem keyP_at {H : Hp} {t : Addr} {x y : Str} (h : H t = some (.tup [.str x, .str y])) : keyP H (.ref t) = (x, y) := by
  unfold keyP
  simp only [h]
theorem keyP_all {S : Addr → Prop} {H : Hp} : ∀ {xs : List V} {ps : List P2}, DnA S H xs (ps.map paperD) → xs.map (keyP H) = ps ∧ ∀ x ∈ xs, ∃ t, x = V.ref t ∧ H t = some (.tup [.str (keyP H x).1, .str (keyP H x).2])
  | _, [], h => by
    cases h
    exact ⟨rfl, fun x z => nomatch z⟩
  | _, p :: ps, h => by
    cases h with
    | cons h t =>
      obtain ⟨i1, i2⟩ := keyP_all t
      obtain ⟨a, rfl, _, ha⟩ := paperD_ex h
      have e := keyP_at ha
      refine ⟨by rw [List.map_cons, i1, e], fun x hx => ?_⟩
      rcases List.mem_cons.mp hx with z | z
      · exact ⟨a, z, by rw [z, e]; exact ha⟩
      · exact i2 x z
/-- what stands in a drawer behind all pairs, in order -/
theorem drawer_eq {rs : List Row} {ps qs : List P2} (h : Str) (hr : Rs (qs.map (·.1))) (pm : qs.Perm ps) : (qs.filter fun p => decide (mainM rs p.2 = h)).map (·.1) = inDrawer rs ps h := by
  refine riseS_of (List.Pairwise.sublist (List.Sublist.map _ List.filter_sublist) hr) fun x => ?_
  exact ((pm.filter _).map _).mem_iff
end Fc
set_option maxHeartbeats 4000000
/-! What the law's own defs promise of papers. -/
namespace Fc
open PySem PySem.Spec PyProof.Rows L2
def nm0 : List Str := ["deed", "de", "d", "will", "wills", "map", "a", "b", "c", "plan", "note", "zz"]
theorem nm0_ok : (∀ n ∈ nm0, isWordM n = true) ∧ nm0.Nodup := by decide +kernel
theorem map_less {α β : Type} (f : α → β) : ∀ (l : List α) (k : Nat), (l.map f).eraseIdx k = (l.eraseIdx k).map f
  | [], _ => rfl
  | _ :: _, 0 => rfl
  | x :: l, k + 1 => congrArg (f x :: ·) (map_less f l k)
theorem perm_less {α : Type} : ∀ {l : List α} {k : Nat} {x : α}, l[k]? = some x → (x :: l.eraseIdx k).Perm l
  | [], _, _, h => by simp at h
  | y :: l, 0, x, h => by
    simp at h
    subst h
    exact List.Perm.refl _
  | y :: l, k + 1, x, h => (List.Perm.swap y x _).trans (List.Perm.cons y (perm_less (by simpa using h)))
theorem ix_in {i : Int} {n : Nat} (h : 0 ≤ i) (k : i < n) : seqIndex? i n = some i.toNat := by
  unfold seqIndex?
  have a : ¬ i < 0 := by omega
  simp [a, h, k]
/-- _law_papers(box, most): new papers that can be -/
def spPapersL : Sp := fun vs H Q _ => ∃ (b l : Addr) (most : Int), vs = [.ref b, .int most] ∧ 0 ≤ most ∧ most ≤ 12 ∧ Box H b l ∧ ∀ (ps : List P2) p H', GoodP ps → (∀ p ∈ ps, p.1 ∈ nm0) → (ps.length : Int) ≤ most → H p = none → Box H' b l → Kp (sB b l) H H' → Dn (sB b l) H' (.ref p) (papersD ps) → Q (.ref p) H'
/-- _law_cabinet(rule, papers) -/
def spCabinet : Sp := fun vs H Q _ => ∃ (v u : V) (rs : List Row) (ps : List P2), vs = [v, u] ∧ Dn N0 H v (ruleD rs) ∧ Dn N0 H u (papersD ps) ∧ GoodR rs ∧ GoodP ps ∧ ∀ p H', H p = none → Kp N0 H H' → Dn N0 H' (.ref p) (rightD rs ps) → Q (.ref p) H'
theorem weightD {f : Str → List Str} (hf : ∀ h, (f h).length ≤ 12 ∧ ∀ z ∈ f h, z.cps.size ≤ 1000) : ∀ hs : List Str, (∀ h ∈ hs, h.cps.size ≤ 1000) → PyData.weightAll (hs.map fun h => .tuple [.str h, .list ((f h).map PyData.str)]) ≤ 20000 * hs.length
  | [], _ => by simp [PyData.weightAll]
  | h :: hs, k => by
    have ih := weightD hf hs fun z hz => k z (List.mem_cons_of_mem _ hz)
    have w := weightS (f h) (hf h).2
    have l := (hf h).1
    have z := k h List.mem_cons_self
    simp only [List.map_cons, PyData.weightAll, PyData.weight, List.length_cons]
    omega
theorem depthD (f : Str → List Str) : ∀ hs : List Str, PyData.depthAll (hs.map fun h => .tuple [.str h, .list ((f h).map PyData.str)]) ≤ 2
  | [] => by simp [PyData.depthAll]
  | h :: hs => by
    have ih := depthD f hs
    have d := depthS (f h)
    simp only [List.map_cons, PyData.depthAll, PyData.depth, d]
    omega
theorem right_small {rs : List Row} {ps : List P2} (g : GoodR rs) (q : GoodP ps) : PyData.depth (rightD rs ps) < 4 ∧ PyData.weight (rightD rs ps) ≤ 1000000 := by
  have d := depthD (inDrawer rs ps) (ruleHeadsM rs)
  have w := weightD (f := inDrawer rs ps) (fun h => ⟨Nat.le_trans (inDrawer_len rs ps h) q.few, fun z hz => by
    have c := inDrawer_small q h z hz
    have e : z.length = z.cps.size := rfl
    omega⟩) (ruleHeadsM rs) fun h hh => by
    have c := ruleHeads_small g h hh
    have e : h.length = h.cps.size := rfl
    omega
  have l := ruleHeads_len rs
  have few := g.few
  refine ⟨?_, ?_⟩
  · unfold rightD drawD
    simp only [PyData.depth]
    omega
  · show PyData.weightAll _ ≤ _
    omega
theorem isWordM_ok {t : Str} (h : isWordM t = true) : PyData.strOk t = true := by
  unfold isWordM at h
  obtain ⟨_, h⟩ := Bool.and_eq_true_iff.mp (Bool.and_eq_true_iff.mp h).2
  unfold PyData.strOk
  rw [← Array.all_toList, List.all_eq_true]
  exact fun c hc => decide_eq_true (Nat.lt_trans (abc_small c (of_decide_eq_true (List.all_eq_true.mp h c hc))) (by decide))
theorem layP : ∀ ps : List P2, (∀ p ∈ ps, isWordM p.1 = true ∧ isMarksM p.2 = true) → PyData.canLayAll0 (ps.map paperD) = true ∧ PyData.depthAll (ps.map paperD) ≤ 1
  | [], _ => by simp [PyData.canLayAll0, PyData.depthAll]
  | p :: t, h => by
    obtain ⟨i1, i2⟩ := layP t fun x hx => h x (List.mem_cons_of_mem _ hx)
    obtain ⟨w1, w2⟩ := h p List.mem_cons_self
    have a := isWordM_ok w1
    have b := isMarksM_ok w2
    simp only [List.map_cons, PyData.canLayAll0, PyData.depthAll, paperD, PyData.canLay0, PyData.depth, a, b, i1, Bool.and_self, true_and]
    omega
theorem shapedRP {rs : List Row} {ps : List P2} (g : GoodR rs) (q : GoodP ps) : SeqAt.shaped (.list [ruleD rs, papersD ps]) = true := by
  obtain ⟨a, b⟩ := layR rs g.row
  obtain ⟨c, d⟩ := layP ps q.ok
  unfold SeqAt.shaped ruleD papersD
  rw [Bool.and_eq_true]
  refine ⟨by simp only [PyData.canLay0, PyData.canLayAll0, a, c, Bool.and_self], decide_eq_true ?_⟩
  simp only [PyData.depth, PyData.depthAll]
  omega
/-- what else the drawing of papers changes -/
def sPL (b l F L : Addr) : Addr → Prop := fun a => sB b l a ∨ a = F ∨ a = L
end Fc
set_option maxHeartbeats 4000000
/-! All choices of r of a list's items, as they are told one behind the other. -/
namespace Fc
/-- the rising lists of r of the m numbers from lo on -/
def CI : Nat → Nat → Nat → List (List Nat)
  | _, 0, _ => [[]]
  | 0, _ + 1, _ => []
  | m + 1, r + 1, lo => (CI m r (lo + 1)).map (lo :: ·) ++ CI m (r + 1) (lo + 1)
def CI1 (r lo : Nat) : List Nat := (List.range r).map (lo + ·)
/-- what stands behind l -/
def nxt (n : Nat) (l : List Nat) : Option (List Nat) :=
  ((List.range l.length).reverse.find? fun i => l.getD i 0 != i + n - l.length).map fun i => l.take i ++ (List.range (l.length - i)).map (l.getD i 0 + 1 + ·)
theorem nxt_nil (n : Nat) : nxt n [] = none := rfl
theorem nxt_cons (n x : Nat) (t : List Nat) : nxt n (x :: t) = (match nxt n t with | some u => some (x :: u) | none => if x = n - (t.length + 1) then none else some (CI1 (t.length + 1) (x + 1))) := by
  unfold nxt
  have e : (List.range (x :: t).length).reverse = ((List.range t.length).reverse.map (· + 1)) ++ [0] := by
    rw [List.length_cons, List.range_succ_eq_map, List.reverse_cons, ← List.map_reverse]
  rw [e, List.find?_append, List.find?_map]
  have p : ((fun i => (x :: t).getD i 0 != i + n - (x :: t).length) ∘ (· + 1)) = fun i => t.getD i 0 != i + n - t.length := by
    funext i
    show ((x :: t).getD (i + 1) 0 != i + 1 + n - (t.length + 1)) = _
    rw [List.getD_cons_succ, show i + 1 + n - (t.length + 1) = i + n - t.length by omega]
  rw [p]
  cases c : (List.range t.length).reverse.find? fun i => t.getD i 0 != i + n - t.length with
  | some i =>
    show some ((x :: t).take (i + 1) ++ (List.range ((x :: t).length - (i + 1))).map ((x :: t).getD (i + 1) 0 + 1 + ·)) = some (x :: (t.take i ++ (List.range (t.length - i)).map (t.getD i 0 + 1 + ·)))
    rw [List.take_succ_cons, List.getD_cons_succ, List.length_cons, show t.length + 1 - (i + 1) = t.length - i by omega]
    rfl
  | none =>
    rw [Option.map_none, Option.none_or, List.find?_cons]
    by_cases h : x = n - (t.length + 1)
    · have q : ((x :: t).getD 0 0 != 0 + n - (x :: t).length) = false := by simp [h]
      rw [q]
      dsimp only
      rw [List.find?_nil, Option.map_none, Option.map_none]
      dsimp only
      rw [if_pos h]
    · have q : ((x :: t).getD 0 0 != 0 + n - (x :: t).length) = true := by simp [h]
      rw [q]
      dsimp only
      rw [Option.map_some, Option.map_none]
      dsimp only
      rw [if_neg h]
      rfl
theorem CI_first : ∀ (m r lo : Nat), r ≤ m → ∃ L, CI m r lo = CI1 r lo :: L
  | m, 0, lo, _ => ⟨[], by cases m <;> rfl⟩
  | 0, r + 1, _, h => absurd h (by omega)
  | m + 1, r + 1, lo, h => by
    obtain ⟨L, e⟩ := CI_first m r (lo + 1) (by omega)
    refine ⟨L.map (lo :: ·) ++ CI m (r + 1) (lo + 1), ?_⟩
    show (CI m r (lo + 1)).map (lo :: ·) ++ CI m (r + 1) (lo + 1) = _
    rw [e, List.map_cons, List.cons_append]
    congr 1
    unfold CI1
    rw [List.range_succ_eq_map, List.map_cons, List.map_map]
    congr 1
    exact List.map_congr_left fun i _ => by show lo + 1 + i = lo + (i + 1); omega
theorem CI_none : ∀ (m r lo : Nat), m < r → CI m r lo = []
  | _, 0, _, h => absurd h (by omega)
  | 0, _ + 1, _, _ => rfl
  | m + 1, r + 1, lo, h => by
    show (CI m r (lo + 1)).map (lo :: ·) ++ CI m (r + 1) (lo + 1) = _
    rw [CI_none m r (lo + 1) (by omega), CI_none m (r + 1) (lo + 1) (by omega)]
    rfl
theorem CI_len : ∀ (m r lo : Nat), ∀ l ∈ CI m r lo, l.length = r
  | m, 0, lo, l, h => by
    have e : CI m 0 lo = [[]] := by cases m <;> rfl
    rw [e, List.mem_singleton] at h
    rw [h]
    rfl
  | 0, r + 1, _, l, h => by cases h
  | m + 1, r + 1, lo, l, h => by
    have h : l ∈ (CI m r (lo + 1)).map (lo :: ·) ++ CI m (r + 1) (lo + 1) := h
    rcases List.mem_append.mp h with h | h
    · obtain ⟨u, hu, rfl⟩ := List.mem_map.mp h
      rw [List.length_cons, CI_len m r (lo + 1) u hu]
    · exact CI_len m (r + 1) (lo + 1) l h
theorem CI_lt : ∀ (m r lo : Nat), ∀ l ∈ CI m r lo, ∀ i ∈ l, i < lo + m
  | m, 0, lo, l, h => by
    have e : CI m 0 lo = [[]] := by cases m <;> rfl
    rw [e, List.mem_singleton] at h
    rw [h]
    exact fun i z => nomatch z
  | 0, r + 1, _, l, h => by cases h
  | m + 1, r + 1, lo, l, h => by
    have h : l ∈ (CI m r (lo + 1)).map (lo :: ·) ++ CI m (r + 1) (lo + 1) := h
    intro i hi
    rcases List.mem_append.mp h with h | h
    · obtain ⟨u, hu, rfl⟩ := List.mem_map.mp h
      rcases List.mem_cons.mp hi with z | z
      · omega
      · have := CI_lt m r (lo + 1) u hu i z
        omega
    · have := CI_lt m (r + 1) (lo + 1) l h i hi
      omega
/-- one behind the other, e behind the last -/
def ChTo (n : Nat) : List (List Nat) → Option (List Nat) → Prop
  | [], _ => True
  | [l], e => nxt n l = e
  | l :: u :: r, e => nxt n l = some u ∧ ChTo n (u :: r) e
theorem ChTo.app {n : Nat} {B : List (List Nat)} {e : Option (List Nat)} : ∀ {A : List (List Nat)}, ChTo n A (match B with | [] => e | b :: _ => some b) → ChTo n B e → ChTo n (A ++ B) e
  | [], _, h => h
  | [l], k, h => by
    cases B with
    | nil => exact k
    | cons b B => exact ⟨k, h⟩
  | l :: u :: r, k, h => ⟨k.1, ChTo.app (A := u :: r) k.2 h⟩
theorem ChTo.map {n x r : Nat} : ∀ {L : List (List Nat)}, ChTo n L none → (∀ l ∈ L, l.length = r) → ChTo n (L.map (x :: ·)) (if x = n - (r + 1) then none else some (CI1 (r + 1) (x + 1)))
  | [], _, _ => trivial
  | [l], h, k => by
    have h : nxt n l = none := h
    show nxt n (x :: l) = _
    rw [nxt_cons, h, k l List.mem_cons_self]
  | l :: u :: L, h, k => by
    refine ⟨?_, ChTo.map (L := u :: L) h.2 fun z hz => k z (List.mem_cons_of_mem _ hz)⟩
    rw [nxt_cons, h.1]
theorem CI_ch : ∀ (m r lo : Nat), ChTo (lo + m) (CI m r lo) none
  | m, 0, lo => by
    have e : CI m 0 lo = [[]] := by cases m <;> rfl
    rw [e]
    rfl
  | 0, r + 1, lo => trivial
  | m + 1, r + 1, lo => by
    show ChTo (lo + (m + 1)) ((CI m r (lo + 1)).map (lo :: ·) ++ CI m (r + 1) (lo + 1)) none
    have en : lo + (m + 1) = lo + 1 + m := by omega
    rw [en]
    refine ChTo.app ?_ (CI_ch m (r + 1) (lo + 1))
    have k := ChTo.map (x := lo) (CI_ch m r (lo + 1)) (CI_len m r (lo + 1))
    rcases Nat.lt_trichotomy m r with c | c | c
    · rw [CI_none m r (lo + 1) c]
      trivial
    · rw [CI_none m (r + 1) (lo + 1) (by omega)]
      rw [if_pos (by omega)] at k
      exact k
    · obtain ⟨L, e⟩ := CI_first m (r + 1) (lo + 1) (by omega)
      rw [e]
      rw [if_neg (by omega)] at k
      exact k
theorem ChTo.at {n : Nat} : ∀ {L : List (List Nat)} {k : Nat} {l : List Nat}, ChTo n L none → L[k]? = some l → nxt n l = L[k + 1]?
  | [], k, l, _, e => by simp at e
  | [x], 0, l, h, e => by
    simp at e
    subst e
    exact h
  | [x], k + 1, l, h, e => by simp at e
  | x :: u :: r, 0, l, h, e => by
    simp at e
    subst e
    exact h.1
  | x :: u :: r, k + 1, l, h, e => by
    have z := ChTo.at (L := u :: r) (k := k) h.2 (by simpa using e)
    rw [z]
    simp
/-! ### the items -/
def pickL {α : Type} (d : α) (xs : List α) (l : List Nat) : List α := l.map fun i => xs.getD i d
/-- all choices of r of the items, as they stand -/
def combs {α : Type} : Nat → List α → List (List α)
  | 0, _ => [[]]
  | _ + 1, [] => []
  | r + 1, x :: xs => (combs r xs).map (x :: ·) ++ combs (r + 1) xs
theorem combs_pick {α : Type} (d : α) : ∀ (xs pre : List α) (r : Nat), (CI xs.length r pre.length).map (pickL d (pre ++ xs)) = combs r xs
  | xs, pre, 0 => by
    have e : CI xs.length 0 pre.length = [[]] := by cases xs.length <;> rfl
    rw [e]
    cases xs <;> rfl
  | [], pre, r + 1 => rfl
  | x :: xs, pre, r + 1 => by
    show ((CI xs.length r (pre.length + 1)).map (pre.length :: ·) ++ CI xs.length (r + 1) (pre.length + 1)).map _ = (combs r xs).map (x :: ·) ++ combs (r + 1) xs
    have e : pre ++ x :: xs = (pre ++ [x]) ++ xs := by simp
    have l : (pre ++ [x]).length = pre.length + 1 := by simp
    rw [List.map_append, List.map_map, e, ← l]
    have i1 := combs_pick d xs (pre ++ [x]) r
    have i2 := combs_pick d xs (pre ++ [x]) (r + 1)
    rw [i2, ← i1, List.map_map]
    congr 1
    refine List.map_congr_left fun u _ => ?_
    show pickL d (pre ++ [x] ++ xs) (pre.length :: u) = x :: pickL d (pre ++ [x] ++ xs) u
    unfold pickL
    rw [List.map_cons]
    congr 1
    rw [List.append_assoc, List.getD_eq_getElem?_getD, List.getElem?_append_right (Nat.le_refl _), Nat.sub_self]
    rfl
theorem combs_eq {α : Type} (d : α) (xs : List α) (r : Nat) : (CI xs.length r 0).map (pickL d xs) = combs r xs := combs_pick d xs [] r
end Fc
set_option maxHeartbeats 8000000
/-! set(text). -/
namespace Fc
open PySem PySem.Spec PyProof.Rows L2
section
variable {prog : Program} {P : Program} {w : World} {A : Around} {E : Value → Shared → Prop} {s : Shared}
theorem set_of_text {z : Str} {tz : Tok} {f : Nat → Str} {Q : Value → Shared → Prop} (hh : A.handled = none) (hi : ∀ (i : Nat) (v : Value), SignAt z i v → ∃ t, v = .str (f i) t) (hb : z.cps.size + 1 < scanBound)
    (h : ∀ (h' : Heap) (tk : Nat), SetS w h' s.heap.objs.size (metS f z.cps.size) → (∀ b o, b < s.heap.objs.size → s.heap.get? b = some o → h'.get? b = some o) → Q (.ref s.heap.objs.size) { s with heap := h', toks := tk }) :
    wpAny (model prog w) A (call (.type "set") [.str z tz]) Q E s := by
  obtain ⟨c, tl, hmro⟩ := PySem.F.called_set.mro; have hmade := PySem.F.called_set.made; have hsub := PySem.F.called_set.sub
  refine wpAny_call (codeAny_of_tree (show wpAny _ _ (callAny (.type "set") _) _ _ _ from wpAny_pure ⟨Code.quiet_builtin _ (by decide +kernel), codeAny_builtin PySem.F.entry_type_call ?_⟩))
  rw [Around.under_plain (weight_type_call_type "set" [.str z tz] []) rfl]
  have h1 := PySem.F.called_set.notType; have h2 := PySem.F.called_set.canCreate; have hct := PySem.F.typeCall_set_1 (.str z tz)
  repeat (any_goals (first | assumption | wp_step))
  refine codeAny_mono (new_set1 (.str z tz) (E := E) (Q1 := fun ob s1 => ob = .ref s.heap.objs.size ∧ s1 = { s with heap := s.heap.push { cls := .type "set", dict := none, data := .set #[] 0 (.fresh 0 0 (!w.params.followText "set-order")) } }) ⟨rfl, rfl⟩) fun r s1 hr => ?_
  cases r with
  | error e => exact hr
  | ok fl =>
    cases fl with
    | ret ob =>
      obtain ⟨rfl, rfl⟩ := hr
      generalize hso : ({ cls := .type "set", dict := none, data := .set #[] 0 (.fresh 0 0 (!w.params.followText "set-order")) } : Obj) = so
      have hcl : so.cls = .type "set" := by rw [← hso]
      have atS : (s.heap.push so).get? s.heap.objs.size = some so := Heap.get?_push_size _ (by rw [← hso]; rfl)
      have hT : Shared.TypeIs { s with heap := s.heap.push so } (.ref s.heap.objs.size) "set" := ⟨_, atS, hcl⟩
      have hli := PySem.F.called_set.init.lookup; have hbi := PySem.F.called_set.init.bind (.ref s.heap.objs.size)
      repeat (any_goals (first | assumption | wp_step))
      refine codeAny_mono (codeAny_call_builtin (R := wants (fun r s2 => r = .none ∧ ∃ h' tk, s2 = { s with heap := h', toks := tk } ∧ SetS w h' s.heap.objs.size (metS f z.cps.size) ∧ (∀ b o, b < s.heap.objs.size → s.heap.get? b = some o → h'.get? b = some o)) E) PySem.F.called_set.init.plain PySem.F.entry_set_init (check_set_init_1 hT ?_)) fun r2 s2 hr2 => ?_
      · subst hso
        have hsls := PySem.F.sub_str_set; have hslf := PySem.F.sub_str_frozenset; have hne : (Value.type "str" == Value.type "dict") = false := by decide
        unfold Builtin.«set.__init__» noKeywords Builtin.Frozenset.updateFrom; generalize hPI : pyIter = PI; wp_walk; subst hPI
        refine wpAny_pyIter_str fun io St W st0 => ?_; refine wpAny_bind (wpAny_runValue ?_)
        have hh3 : A.in1.in1.in1.handled = none := by simp [hh]
        have outS : s.heap.objs.size ∉ [(s.heap.push { cls := .type "set", dict := none, data := .set #[] 0 (.fresh 0 0 (!w.params.followText "set-order")) }).objs.size] := by
          exact fun z => absurd ((List.mem_singleton.mp z).trans (Heap.size_push ..)) (Nat.ne_of_lt (Nat.lt_succ_self _))
        refine loop_strs ((W _ hh3).toS) s.heap.objs.size outS f (fun i v hv => hi i v hv) hb (z.cps.size - 0) 0 _ (by omega) (Nat.zero_le _) st0 ?hS0 ?hR
        case hS0 => exact newS rfl (Heap.get?_push_of_some _ atS)
        case hR =>
          intro s' mv hS'
          obtain ⟨h', g', d', tk', os'⟩ := s'
          have eg : g' = s.gens := mv.gens; have ed : d' = s.drawn := mv.drawn; have eo : os' = s.os := mv.os
          subst eg; subst ed; subst eo
          refine wpAny_pure (wpAny_pure ⟨rfl, h', tk', rfl, hS', fun b o hb e => mv.heap b o ?_ (Heap.get?_push_of_some _ (Heap.get?_push_of_some _ e))⟩)
          refine fun z => ?_
          rcases List.mem_cons.mp z with q | q
          · exact absurd q (Nat.ne_of_lt hb)
          · exact absurd ((List.mem_singleton.mp q).trans (Heap.size_push ..)) (Nat.ne_of_lt (Nat.lt_succ_of_lt hb))
      · cases r2 with
        | error e => exact hr2
        | ok fl2 =>
          cases fl2 with
          | ret r =>
            obtain ⟨rfl, h', tk, rfl, hS', hk'⟩ := hr2
            repeat (any_goals (first | assumption | wp_step))
            exact h _ _ hS' hk'
          | _ => exact hr2.elim
    | _ => exact hr.elim
end
section
variable {X : Cx}
def signS (c : Nat) : Str := ⟨#[c]⟩
/-- set(text) -/
def rSetT (w : World) : List V → Hp → VK → Prop := fun vs H Q => ∃ z : Str, vs = [.str z] ∧ z.cps.toList.length < 1000 ∧ ∀ (p : Addr) (l : List Str), H p = none → l.Nodup → (∀ x, x ∈ l ↔ x ∈ z.cps.toList.map signS) → l.length ≤ z.cps.toList.length → Q (.ref p) (upd H p (SetSO w p l))
theorem cr_setT (hc : X.calm = true) : CallR X (.type "set") (rSetT X.w) := by
  intro pins s σ H vs us Q I r h
  obtain ⟨z, rfl, hl, q⟩ := h
  obtain ⟨u, rfl, ru⟩ := vals1 r
  obtain ⟨tz, rfl⟩ := ru
  have sz : z.cps.size = z.cps.toList.length := by simp
  refine set_of_text (f := fun i => signS (z.cps.toList.getD i 0)) (I.ok.hd hc) (fun i v hv => ?_) (by rw [sz]; unfold scanBound; omega) fun h' tk R k => ?_
  · obtain ⟨c, u, hc2, rfl⟩ := hv
    have e : z.cps.toList[i]? = some c := by simpa using hc2
    exact ⟨u, by unfold signS; rw [List.getD_eq_getElem?_getD, e]; rfl⟩
  refine ⟨.ref s.heap.objs.size, upd H s.heap.objs.size (SetSO X.w s.heap.objs.size _), I.laid (t' := tk) (fun b u e => k b u (Heap.lt_size e) e) (Nat.le_refl _) (setSO_new R), rfl, q _ _ (I.hok.fresh (Nat.le_refl _)) ?_ (fun x => ?_) (by rw [← sz]; exact metS_len _ _)⟩
  · obtain ⟨_, _, _, _, _, _, _, _, _, nd, _⟩ := R.ex
    exact nd
  · rw [metS_mem]
    constructor
    · rintro ⟨j, hj, e⟩
      rw [sz] at hj
      rw [← e]
      exact List.mem_map.mpr ⟨z.cps.toList[j], List.getElem_mem hj, by rw [List.getD_eq_getElem?_getD, List.getElem?_eq_getElem hj]; rfl⟩
    · intro hx
      obtain ⟨c, hc2, rfl⟩ := List.mem_map.mp hx
      obtain ⟨j, hj, e⟩ := List.getElem_of_mem hc2
      exact ⟨j, by rw [sz]; exact hj, by rw [List.getD_eq_getElem?_getD, List.getElem?_eq_getElem hj, e]; rfl⟩
end
end Fc
set_option maxHeartbeats 4000000
/-! The fewest slips, as the program reckons them and as the law does. -/
namespace Fc
open PySem PySem.Spec PyProof.Rows L2
def allS (rs : List Row) : List Nat := rs.flatMap fun r => r.2.1.cps.toList ++ r.2.2.cps.toList
/-- the marks that rows name, rising -/
def namedM (rs : List Row) : List Nat := a2h.cps.toList.filter fun c => decide (c ∈ allS rs)
theorem namedM_nd (rs : List Row) : (namedM rs).Nodup := List.Nodup.sublist List.filter_sublist (by decide)
theorem namedM_len (rs : List Row) : (namedM rs).length ≤ 8 := List.length_filter_le _ _
theorem namedM_mem {rs : List Row} (g : ∀ r ∈ rs, isRowM r = true) (c : Nat) : c ∈ namedM rs ↔ c ∈ allS rs := by
  unfold namedM
  rw [List.mem_filter, decide_eq_true_eq]
  refine ⟨fun h => h.2, fun h => ⟨?_, h⟩⟩
  obtain ⟨r, hr, hc⟩ := List.mem_flatMap.mp h
  obtain ⟨h1, h2⟩ := isRowM_sg (g r hr)
  rcases List.mem_append.mp hc with z | z
  · exact h1 c z
  · exact h2 c z
/-- the marks behind slips -/
def afterM (m : Str) (sl : List Nat) : Str := oS (a2h.cps.toList.filter fun c => sg m c != decide (c ∈ sl))
/-- all choices, fewer ones first -/
def choices (xs : List Nat) : List (List Nat) := (List.range (xs.length + 1)).flatMap fun k => combs k xs
def firstC (rs : List Row) (m : Str) (L : List (List Nat)) (h : Str) : Option Nat := (L.find? fun sl => decide (mainM rs (afterM m sl) = h)).map List.length
def slipsM (rs : List Row) (m : Str) (h : Str) : Option Nat := firstC rs m (choices (namedM rs)) h
theorem firstC_snoc (rs : List Row) (m : Str) (L : List (List Nat)) (sl : List Nat) (h : Str) : firstC rs m (L ++ [sl]) h = (match firstC rs m L h with | some c => some c | none => if mainM rs (afterM m sl) = h then some sl.length else none) := by
  unfold firstC
  rw [List.find?_append]
  cases c : L.find? fun sl => decide (mainM rs (afterM m sl) = h) with
  | some x => rfl
  | none =>
    rw [Option.map_none, Option.none_or, List.find?_cons]
    by_cases q : mainM rs (afterM m sl) = h
    · have e : decide (mainM rs (afterM m sl) = h) = true := by simpa using q
      rw [e, if_pos q]
      rfl
    · have e : decide (mainM rs (afterM m sl) = h) = false := by simpa using q
      rw [e, if_neg q]
      rfl
theorem combs_le {α : Type} : ∀ (r : Nat) (xs : List α), (combs r xs).length ≤ 2 ^ xs.length
  | 0, xs => by
    have e : combs 0 xs = [[]] := by cases xs <;> rfl
    rw [e]
    exact Nat.one_le_two_pow
  | r + 1, [] => Nat.zero_le _
  | r + 1, x :: xs => by
    have h1 := combs_le r xs
    have h2 := combs_le (r + 1) xs
    show ((combs r xs).map (x :: ·) ++ combs (r + 1) xs).length ≤ 2 ^ (xs.length + 1)
    rw [List.length_append, List.length_map, Nat.pow_succ]
    omega
theorem combs_mem {α : Type} : ∀ (r : Nat) (xs l : List α), l ∈ combs r xs ↔ l.Sublist xs ∧ l.length = r
  | 0, xs, l => by
    have e : combs 0 xs = [[]] := by cases xs <;> rfl
    rw [e, List.mem_singleton]
    constructor
    · rintro rfl
      exact ⟨List.nil_sublist _, rfl⟩
    · intro h
      exact List.length_eq_zero_iff.mp h.2
  | r + 1, [], l => by
    show l ∈ [] ↔ _
    constructor
    · intro h
      cases h
    · intro h
      have e := List.sublist_nil.mp h.1
      rw [e] at h
      cases h.2
  | r + 1, x :: xs, l => by
    show l ∈ (combs r xs).map (x :: ·) ++ combs (r + 1) xs ↔ _
    rw [List.mem_append, List.mem_map, combs_mem (r + 1) xs l]
    constructor
    · rintro (⟨u, hu, rfl⟩ | h)
      · obtain ⟨h1, h2⟩ := (combs_mem r xs u).mp hu
        exact ⟨h1.cons_cons x, by rw [List.length_cons, h2]⟩
      · exact ⟨h.1.cons x, h.2⟩
    · rintro ⟨h1, h2⟩
      cases h1 with
      | cons _ h => exact .inr ⟨h, h2⟩
      | cons_cons _ h => exact .inl ⟨_, (combs_mem r xs _).mpr ⟨h, Nat.succ.inj h2⟩, rfl⟩
theorem choices_mem (xs l : List Nat) : l ∈ choices xs ↔ l.Sublist xs := by
  unfold choices
  rw [List.mem_flatMap]
  constructor
  · rintro ⟨k, _, h⟩
    exact ((combs_mem k xs l).mp h).1
  · intro h
    exact ⟨l.length, List.mem_range.mpr (Nat.lt_succ_of_le h.length_le), (combs_mem _ xs l).mpr ⟨h, rfl⟩⟩
theorem choices_up (xs : List Nat) : (choices xs).Pairwise fun a b => a.length ≤ b.length := by
  unfold choices
  have key : ∀ L : List Nat, L.Pairwise (· < ·) → (L.flatMap fun k => combs k xs).Pairwise fun a b => a.length ≤ b.length := by
    intro L
    induction L with
    | nil => exact fun _ => List.Pairwise.nil
    | cons k L ih =>
      intro h
      obtain ⟨h1, h2⟩ := List.pairwise_cons.mp h
      rw [List.flatMap_cons]
      refine List.pairwise_append.mpr ⟨?_, ih h2, fun a ha b hb => ?_⟩
      · refine List.Pairwise.imp_of_mem ?_ (List.pairwise_of_forall (R := fun _ _ => True) fun _ _ => trivial)
        intro a b ha hb _
        rw [((combs_mem k xs a).mp ha).2, ((combs_mem k xs b).mp hb).2]
        exact Nat.le_refl _
      · obtain ⟨j, hj, hb⟩ := List.mem_flatMap.mp hb
        rw [((combs_mem k xs a).mp ha).2, ((combs_mem j xs b).mp hb).2]
        exact Nat.le_of_lt (h1 j hj)
  exact key _ List.pairwise_lt_range
theorem find_min {α : Type} (f : α → Nat) (p : α → Bool) : ∀ {L : List α} {x : α}, L.Pairwise (fun a b => f a ≤ f b) → L.find? p = some x → ∀ y ∈ L, p y = true → f x ≤ f y
  | [], x, _, h, y, hy, _ => by cases hy
  | a :: L, x, pw, h, y, hy, py => by
    obtain ⟨p1, p2⟩ := List.pairwise_cons.mp pw
    rw [List.find?_cons] at h
    cases c : p a with
    | true =>
      rw [c] at h
      cases h
      rcases List.mem_cons.mp hy with z | z
      · rw [z]
        exact Nat.le_refl _
      · exact p1 y z
    | false =>
      rw [c] at h
      rcases List.mem_cons.mp hy with z | z
      · rw [z, c] at py
        cases py
      · exact find_min f p p2 h y z py
/-! ### the law's reckoning -/
def subsTo : List (List Nat) → List Nat → List (List Nat)
  | S, [] => S
  | S, c :: xs => subsTo (S ++ S.map (· ++ [c])) xs
theorem subsTo_snoc : ∀ (xs : List Nat) (S : List (List Nat)) (c : Nat), subsTo S (xs ++ [c]) = subsTo S xs ++ (subsTo S xs).map (· ++ [c])
  | [], _, _ => rfl
  | _ :: xs, S, c => subsTo_snoc xs _ c
theorem subsTo_len : ∀ (xs : List Nat) (S : List (List Nat)), (subsTo S xs).length = S.length * 2 ^ xs.length
  | [], S => by simp [subsTo]
  | c :: xs, S => by
    show (subsTo (S ++ S.map (· ++ [c])) xs).length = _
    rw [subsTo_len xs, List.length_append, List.length_map, List.length_cons, Nat.pow_succ, ← Nat.two_mul, Nat.mul_comm 2 S.length, Nat.mul_assoc, Nat.mul_comm 2]
theorem subs_mem (xs : List Nat) : ∀ l, l ∈ subsTo [[]] xs ↔ l.Sublist xs := by
  have key : ∀ (n : Nat) (xs : List Nat), xs.length = n → ∀ l, l ∈ subsTo [[]] xs ↔ l.Sublist xs := by
    intro n
    induction n with
    | zero =>
      intro xs h l
      rw [List.length_eq_zero_iff.mp h]
      show l ∈ [[]] ↔ _
      rw [List.mem_singleton, List.sublist_nil]
    | succ n ih =>
      intro xs h l
      obtain ⟨ys, c, rfl⟩ : ∃ ys c, xs = ys ++ [c] := by
        refine ⟨xs.dropLast, xs.getLast (fun e => by rw [e] at h; cases h), ?_⟩
        exact (List.dropLast_concat_getLast _).symm
      rw [List.length_append] at h
      have hy : ys.length = n := Nat.succ.inj h
      rw [subsTo_snoc, List.mem_append, List.mem_map, ih ys hy l]
      constructor
      · rintro (z | ⟨u, hu, rfl⟩)
        · exact z.trans (List.sublist_append_left _ _)
        · exact ((ih ys hy u).mp hu).append (List.Sublist.refl _)
      · intro z
        obtain ⟨a, b, rfl, ha, hb⟩ := List.sublist_append_iff.mp z
        cases hb with
        | cons _ hb =>
          rw [List.sublist_nil.mp hb, List.append_nil]
          exact .inl ha
        | cons_cons _ hb =>
          rw [List.sublist_nil.mp hb]
          exact .inr ⟨a, (ih ys hy a).mpr ha, rfl⟩
  exact key _ xs rfl
/-- how far one is -/
def farM (m : Str) (named one : List Nat) : Nat := (named.filter fun c => decide (c ∈ one) != sg m c).length
def leftM (m : Str) (named : List Nat) : List Nat := m.cps.toList.filter fun c => !decide (c ∈ named)
def lawMin (rs : List Row) (m : Str) (named : List Nat) (h : Str) : Nat → List (List Nat) → Nat
  | a, [] => a
  | a, one :: L => lawMin rs m named h (if mainM rs (oS (leftM m named ++ one)) = h then (if farM m named one < a then farM m named one else a) else a) L
theorem lawMin_snoc (rs : List Row) (m : Str) (named : List Nat) (h : Str) : ∀ (L : List (List Nat)) (a : Nat) (one : List Nat), lawMin rs m named h a (L ++ [one]) =
    (if mainM rs (oS (leftM m named ++ one)) = h then (if farM m named one < lawMin rs m named h a L then farM m named one else lawMin rs m named h a L) else lawMin rs m named h a L)
  | [], _, _ => rfl
  | _ :: L, _, one => lawMin_snoc rs m named h L _ one
theorem lawMin_spec (rs : List Row) (m : Str) (named : List Nat) (h : Str) : ∀ (L : List (List Nat)) (a : Nat), lawMin rs m named h a L ≤ a ∧ (∀ one ∈ L, mainM rs (oS (leftM m named ++ one)) = h → lawMin rs m named h a L ≤ farM m named one) ∧
    (lawMin rs m named h a L = a ∨ ∃ one ∈ L, mainM rs (oS (leftM m named ++ one)) = h ∧ lawMin rs m named h a L = farM m named one)
  | [], a => ⟨Nat.le_refl _, (fun _ z => nomatch z), .inl rfl⟩
  | one :: L, a => by
    obtain ⟨h1, h2, h3⟩ := lawMin_spec rs m named h L (if mainM rs (oS (leftM m named ++ one)) = h then (if farM m named one < a then farM m named one else a) else a)
    have e : lawMin rs m named h a (one :: L) = lawMin rs m named h (if mainM rs (oS (leftM m named ++ one)) = h then (if farM m named one < a then farM m named one else a) else a) L := rfl
    rw [e]
    generalize lawMin rs m named h (if mainM rs (oS (leftM m named ++ one)) = h then (if farM m named one < a then farM m named one else a) else a) L = z at h1 h2 h3
    refine ⟨?_, fun y hy q => ?_, ?_⟩
    · split at h1
      · split at h1 <;> omega
      · exact h1
    · rcases List.mem_cons.mp hy with w | w
      · subst w
        rw [if_pos q] at h1
        split at h1 <;> omega
      · exact h2 y w q
    · rcases h3 with c | ⟨y, hy, c⟩
      · split at c
        · rename_i q
          split at c
          · exact .inr ⟨one, List.mem_cons_self, q, c⟩
          · exact .inl c
        · exact .inl c
      · exact .inr ⟨y, List.mem_cons_of_mem _ hy, c⟩
theorem mainM_congr {rs : List Row} {m n : Str} (h : ∀ c ∈ allS rs, sg m c = sg n c) : mainM rs m = mainM rs n := by
  have hh : heldM rs m = heldM rs n := by
    unfold heldM
    congr 1
    refine List.filter_congr fun r hr => ?_
    have h1 : ∀ c ∈ r.2.1.cps.toList, sg m c = sg n c := fun c hc => h c (List.mem_flatMap.mpr ⟨r, hr, List.mem_append_left _ hc⟩)
    have h2 : ∀ c ∈ r.2.2.cps.toList, sg m c = sg n c := fun c hc => h c (List.mem_flatMap.mpr ⟨r, hr, List.mem_append_right _ hc⟩)
    have all_c : ∀ l : List Nat, (∀ c ∈ l, sg m c = sg n c) → l.all (sg m) = l.all (sg n) ∧ l.any (sg m) = l.any (sg n) := by
      intro l
      induction l with
      | nil => exact fun _ => ⟨rfl, rfl⟩
      | cons x l ih =>
        intro k
        obtain ⟨i1, i2⟩ := ih fun c hc => k c (List.mem_cons_of_mem _ hc)
        rw [List.all_cons, List.all_cons, List.any_cons, List.any_cons, i1, i2, k x List.mem_cons_self]
        exact ⟨rfl, rfl⟩
    unfold holdsM
    rw [(all_c _ h1).1, (all_c _ h2).2]
  unfold mainM turnM
  rw [hh]
theorem sg_oS (l : List Nat) (c : Nat) : sg (oS l) c = decide (c ∈ l) := by
  unfold sg
  rw [oS_cps]
/-- the same reckoned otherwise -/
theorem main_alike {rs : List Row} (g : GoodR rs) (m : Str) (sl one : List Nat) (h : ∀ c ∈ namedM rs, decide (c ∈ one) = (sg m c != decide (c ∈ sl))) : mainM rs (afterM m sl) = mainM rs (oS (leftM m (namedM rs) ++ one)) := by
  refine mainM_congr fun c hc => ?_
  have hn := (namedM_mem g.row c).mpr hc
  have ha : c ∈ a2h.cps.toList := (List.mem_filter.mp hn).1
  unfold afterM
  rw [sg_oS, sg_oS]
  have e1 : decide (c ∈ a2h.cps.toList.filter fun c => sg m c != decide (c ∈ sl)) = (sg m c != decide (c ∈ sl)) := by
    cases q : (sg m c != decide (c ∈ sl)) with
    | true => exact decide_eq_true (List.mem_filter.mpr ⟨ha, q⟩)
    | false => exact decide_eq_false fun z => by rw [(List.mem_filter.mp z).2] at q; cases q
  have e2 : decide (c ∈ leftM m (namedM rs) ++ one) = decide (c ∈ one) := by
    refine decide_eq_decide.mpr ⟨fun z => ?_, fun z => List.mem_append_right _ z⟩
    rcases List.mem_append.mp z with z | z
    · have q := (List.mem_filter.mp z).2
      simp [hn] at q
    · exact z
  rw [e1, e2, h c hn]
theorem lawMin_eq {rs : List Row} (g : GoodR rs) (m h : Str) : lawMin rs m (namedM rs) h 99 (subsTo [[]] (namedM rs)) = (match slipsM rs m h with | some c => c | none => 99) := by
  obtain ⟨h1, h2, h3⟩ := lawMin_spec rs m (namedM rs) h (subsTo [[]] (namedM rs)) 99
  have nd := namedM_nd rs
  have ln := namedM_len rs
  -- from a choice to one
  have to1 : ∀ sl, sl.Sublist (namedM rs) → mainM rs (afterM m sl) = h → lawMin rs m (namedM rs) h 99 (subsTo [[]] (namedM rs)) ≤ sl.length := fun sl hs hm => by
    have ho : ∀ c ∈ namedM rs, decide (c ∈ (namedM rs).filter fun c => sg m c != decide (c ∈ sl)) = (sg m c != decide (c ∈ sl)) := fun c hc => by
      cases q : (sg m c != decide (c ∈ sl)) with
      | true => exact decide_eq_true (List.mem_filter.mpr ⟨hc, q⟩)
      | false => exact decide_eq_false fun z => by rw [(List.mem_filter.mp z).2] at q; cases q
    have k := h2 _ ((subs_mem _ _).mpr List.filter_sublist) ((main_alike g m sl _ ho).symm.trans hm)
    have e : farM m (namedM rs) ((namedM rs).filter fun c => sg m c != decide (c ∈ sl)) = sl.length := by
      unfold farM
      have f := sub_filter nd hs
      have e2 : ((namedM rs).filter fun c => decide (c ∈ (namedM rs).filter fun c => sg m c != decide (c ∈ sl)) != sg m c) = sl := by
        refine Eq.trans (List.filter_congr (q := fun c => decide (c ∈ sl)) fun c hc => ?_) f
        rw [ho c hc]
        cases sg m c <;> cases decide (c ∈ sl) <;> rfl
      rw [e2]
    rw [e] at k
    exact k
  -- from one to a choice
  have to2 : ∀ one, mainM rs (oS (leftM m (namedM rs) ++ one)) = h → ∃ sl, sl ∈ choices (namedM rs) ∧ mainM rs (afterM m sl) = h ∧ sl.length = farM m (namedM rs) one := fun one hm => by
    refine ⟨(namedM rs).filter fun c => decide (c ∈ one) != sg m c, (choices_mem _ _).mpr List.filter_sublist, ?_, rfl⟩
    rw [main_alike g m _ one fun c hc => ?_]
    · exact hm
    · have e : decide (c ∈ (namedM rs).filter fun c => decide (c ∈ one) != sg m c) = (decide (c ∈ one) != sg m c) := by
        cases q : (decide (c ∈ one) != sg m c) with
        | true => exact decide_eq_true (List.mem_filter.mpr ⟨hc, q⟩)
        | false => exact decide_eq_false fun z => by rw [(List.mem_filter.mp z).2] at q; cases q
      rw [e]
      cases sg m c <;> cases decide (c ∈ one) <;> rfl
  unfold slipsM firstC
  cases c : (choices (namedM rs)).find? fun sl => decide (mainM rs (afterM m sl) = h) with
  | some sl =>
    have pm : mainM rs (afterM m sl) = h := by simpa using List.find?_some c
    have mm := List.mem_of_find?_eq_some c
    have b := to1 sl ((choices_mem _ _).mp mm) pm
    have bl : sl.length ≤ 8 := Nat.le_trans ((choices_mem _ _).mp mm).length_le ln
    show _ = sl.length
    rcases h3 with q | ⟨one, _, q1, q2⟩
    · omega
    · obtain ⟨s2, m2, p2, l2⟩ := to2 one q1
      have z := find_min List.length _ (choices_up (namedM rs)) c s2 m2 (by simpa using p2)
      omega
  | none =>
    show _ = 99
    rcases h3 with q | ⟨one, _, q1, q2⟩
    · exact q
    · obtain ⟨s2, m2, p2, l2⟩ := to2 one q1
      have z := List.find?_eq_none.mp c s2 m2
      simp [p2] at z
theorem slipsM_le {rs : List Row} {m h : Str} {c : Nat} (e : slipsM rs m h = some c) : c ≤ 8 := by
  unfold slipsM firstC at e
  cases q : (choices (namedM rs)).find? fun sl => decide (mainM rs (afterM m sl) = h) with
  | none =>
    rw [q] at e
    cases e
  | some sl =>
    rw [q] at e
    cases e
    exact Nat.le_trans ((choices_mem _ _).mp (List.mem_of_find?_eq_some q)).length_le (namedM_len rs)
end Fc
set_option maxHeartbeats 4000000
/-! itertools.combinations of a list. -/
namespace Fc
open PySem PySem.Spec PyProof.Rows L2
abbrev tCom : String := "itertools.combinations"
theorem com_mro : mroOf (.type "itertools.combinations") = pure [.type "itertools.combinations", .type "object"] := by
  rw [mroOf_type]
  kernel_rfl
theorem com_new : typeLookup (.type "itertools.combinations") "__new__" = pure (some (.builtin "itertools.combinations.__new__")) := by
  rw [typeLookup_type, builtinLookup_eq_fast]
  kernel_rfl
theorem com_sub : isSubtype (.type "itertools.combinations") (.type "itertools.combinations") = pure true := by
  rw [isSubtype_type]
  kernel_rfl
theorem com_init : Slot "itertools.combinations" "__init__" "object.__init__" :=
  .of (owner := "object") (n := "__init__")
    (by rw [typeLookup_type, builtinLookup_eq_fast]; kernel_rfl)
    (by decide +kernel) (by decide +kernel) (by decide +kernel) (by first | exact .inl (by decide +kernel) | exact .inr (by decide +kernel))
    (by rw [isSubtype_type]; kernel_rfl)
theorem com_iter : Slot "itertools.combinations" "__iter__" "itertools.combinations.__iter__" :=
  .of (owner := "itertools.combinations") (n := "__iter__")
    (by rw [typeLookup_type, builtinLookup_eq_fast]; kernel_rfl)
    (by decide +kernel) (by decide +kernel) (by decide +kernel) (by first | exact .inl (by decide +kernel) | exact .inr (by decide +kernel))
    (by rw [isSubtype_type]; kernel_rfl)
theorem com_next : Slot "itertools.combinations" "__next__" "itertools.combinations.__next__" :=
  .of (owner := "itertools.combinations") (n := "__next__")
    (by rw [typeLookup_type, builtinLookup_eq_fast]; kernel_rfl)
    (by decide +kernel) (by decide +kernel) (by decide +kernel) (by first | exact .inl (by decide +kernel) | exact .inr (by decide +kernel))
    (by rw [isSubtype_type]; kernel_rfl)
theorem com_called : TypeCalled "itertools.combinations" "itertools.combinations.__new__" "object.__init__" :=
  ⟨by decide +kernel, by decide +kernel, ⟨_, _, com_mro⟩, madeBy_type com_mro com_new (by decide +kernel), by decide +kernel, com_sub, com_init⟩
theorem com_tc (a b : Value) : checkTypeCall "itertools.combinations" ⟨[a, b], []⟩ = pure () := by first | kernel_rfl | rfl
theorem com_nc (a b : Value) : checkBuiltinCall "itertools.combinations.__new__" ⟨[.type "itertools.combinations", a, b], []⟩ = pure () := by first | kernel_rfl | rfl
theorem com_en : entryFor table "itertools.combinations.__new__" = some Builtin.«itertools.combinations.__new__» := entryFor_of_tree (by kernel_rfl)
theorem com_ex : entryFor table "itertools.combinations.__next__" = some Builtin.«itertools.combinations.__next__» := entryFor_of_tree (by kernel_rfl)
theorem com_ei : entryFor table "itertools.combinations.__iter__" = some Builtin.«dict_keyiterator.__iter__» :=
  entryFor_alias (id' := "dict_keyiterator.__iter__") (by kernel_rfl) (by first | rfl | decide +kernel | (unfold String.splitOn; simp +decide [String.splitOnAux])) (by decide +kernel) (by kernel_rfl)
theorem com_ax (a : Value) : argsOk "itertools.combinations.__next__" ⟨[a], []⟩ := by
  unfold argsOk
  kernel_rfl
theorem com_ai (a : Value) : argsOk "itertools.combinations.__iter__" ⟨[a], []⟩ := by
  unfold argsOk
  kernel_rfl
theorem com_ao (o a b : Value) : argsOk "object.__init__" ⟨[o, a, b], []⟩ := by
  unfold argsOk
  kernel_rfl
end Fc
set_option maxHeartbeats 4000000
/-! What one turn of it does. -/
namespace Fc
open PySem PySem.Spec PyProof.Rows L2
def comF (pool : Addr) (st : Int) (res : Value) (l : List Nat) : List Value := Value.ref pool :: rawInt st :: res :: l.map fun (i : Nat) => rawInt i
def comO (pool : Addr) (st : Int) (res : Value) (l : List Nat) : Obj := { cls := .type "itertools.combinations", dict := none, data := .fields (comF pool st res l).toArray, slots := #[] }
def tupO (vs : List Value) : Obj := { cls := .type "tuple", data := .seq vs.toArray }
section
variable {prog : Program} {w : World} {A : Around} {E : Value → Shared → Prop} {s : Shared} {it pool : Addr} {st : Int} {res : Value} {l : List Nat} {items : List Value} {n : Nat}
theorem com_ty (ho : s.heap.get? it = some (comO pool st res l)) : s.TypeIs (.ref it) "itertools.combinations" := ⟨_, ho, rfl⟩
theorem com_nums {Q : List Nat → Shared → Prop} (ho : s.heap.get? it = some (comO pool st res l)) (h : Q l s) : wpAny (model prog w) A (Builtin.Itertools.itNumbersFrom (.ref it) 3) Q E s := by
  unfold Builtin.Itertools.itNumbersFrom
  refine wpAny_bind (wpAny_load ho (wpAny_pure ?_))
  have e : ((comF pool st res l).toArray.toList.drop 3).map (fun | Value.int n _ => n.toNat | _ => 0) = l := by
    show ((l.map fun (i : Nat) => rawInt i)).map _ = l
    rw [List.map_map]
    refine Eq.trans (List.map_congr_left (g := id) fun i _ => ?_) (List.map_id l)
    show Int.toNat (i : Int) = i
    exact Int.toNat_natCast i
  exact (congrArg (fun z => Q z s) e).mpr h
theorem com_st {Q : Int → Shared → Prop} (ho : s.heap.get? it = some (comO pool st res l)) (h : Q st s) : wpAny (model prog w) A (Builtin.Itertools.itIntField (.ref it) 1) Q E s := by
  unfold Builtin.Itertools.itIntField
  exact wpAny_bind (wpAny_field ho rfl (x := rawInt st) rfl (wpAny_pure h))
theorem com_pool {Q : Array Value → Shared → Prop} (hp : s.heap.get? pool = some (tupO items)) (h : Q items.toArray s) : wpAny (model prog w) A (Builtin.Itertools.itPoolItems (.ref pool)) Q E s := by
  unfold Builtin.Itertools.itPoolItems
  exact wpAny_bind (wpAny_seqItems hp rfl (wpAny_pure h))
theorem com_set1 {x : Int} {Q : Unit → Shared → Prop} (ho : s.heap.get? it = some (comO pool st res l)) (h : ∀ h', h'.get? it = some (comO pool x res l) → Heap.SameBut it s.heap h' → Q () { s with heap := h' }) :
    wpAny (model prog w) A (setField (.ref it) 1 (rawInt x)) Q E s := by
  refine wpAny_setField_rec ho (by show 1 < (comF pool st res l).toArray.size; simp [comF]) fun h' a b => h h' (a.trans ?_) b
  unfold comO
  rw [List.setIfInBounds_toArray]
  rfl
theorem com_set2 {x : Value} {Q : Unit → Shared → Prop} (ho : s.heap.get? it = some (comO pool st res l)) (h : ∀ h', h'.get? it = some (comO pool st x l) → Heap.SameBut it s.heap h' → Q () { s with heap := h' }) :
    wpAny (model prog w) A (setField (.ref it) 2 x) Q E s := by
  refine wpAny_setField_rec ho (by show 2 < (comF pool st res l).toArray.size; simp [comF]) fun h' a b => h h' (a.trans ?_) b
  unfold comO
  rw [List.setIfInBounds_toArray]
  rfl
theorem com_setN {u : List Nat} {Q : Unit → Shared → Prop} (hu : u.length ≤ 1000) (ho : s.heap.get? it = some (comO pool st res l)) (h : ∀ h', h'.get? it = some (comO pool st res u) → Heap.SameBut it s.heap h' → Q () { s with heap := h' }) :
    wpAny (model prog w) A (Builtin.Itertools.itSetNumbersFrom (.ref it) 3 u) Q E s := by
  unfold Builtin.Itertools.itSetNumbersFrom
  have e : ((comF pool st res l).toArray.extract 0 3 ++ (u.map fun (n : Nat) => rawInt n).toArray) = (comF pool st res u).toArray := by
    unfold comF
    simp
  refine wpAny_updateFields ho rfl (h _ ?_ (Heap.SameBut.update ..)) ?_
  · refine (Heap.get?_update_self _ ho rfl).trans ?_
    show some ({ cls := Value.type "itertools.combinations", dict := none, data := Data.fields ((comF pool st res l).toArray.extract 0 3 ++ (u.map fun (n : Nat) => rawInt n).toArray), slots := #[] } : Obj) = _
    rw [e]
    rfl
  · show ((comF pool st res l).toArray.extract 0 3 ++ (u.map fun (n : Nat) => rawInt n).toArray).size ≤ sizeLine + 3
    rw [e, List.size_toArray]
    unfold comF
    rw [List.length_cons, List.length_cons, List.length_cons, List.length_map, sizeLine_eq]
    omega
theorem nxt_m (n : Nat) (l : List Nat) : nxt n l = (match (List.range l.length).reverse.find? (fun i => l.getD i 0 != i + n - l.length) with
    | none => none | some i => some (l.take i ++ (List.range (l.length - i)).map (l.getD i 0 + 1 + ·))) := by
  unfold nxt
  cases (List.range l.length).reverse.find? (fun i => l.getD i 0 != i + n - l.length) <;> rfl
/-- the next one is handed out -/
theorem com_out {u : List Nat} {Q : PySem.Fin → Shared → Prop} (hu : u.length ≤ 1000) (ho : s.heap.get? it = some (comO pool st res u)) (hp : s.heap.get? pool = some (tupO items))
    (h : ∀ h', h'.get? it = some (comO pool st (.ref s.heap.objs.size) u) → h'.get? s.heap.objs.size = some (tupO (pickL .none items u)) → (∀ b o, b ≠ it → s.heap.get? b = some o → h'.get? b = some o) → Q (.done (.ret (.ref s.heap.objs.size))) { s with heap := h' }) :
    wpAny (model prog w) A (do
      let result ← (do
        let xs ← Builtin.Itertools.itPoolItems (.ref pool)
        newTuple (u.map fun i => xs.getD i .none))
      let before ← field (.ref it) 2
      setField (.ref it) 2 result
      letGo [before] [result]
      ret result) Q E s := by
  have lt : it < s.heap.objs.size := Heap.lt_size ho
  refine wpAny_bind (wpAny_bind (com_pool hp (wpAny_newTuple ?_ (by rw [List.length_map, sizeLine_eq]; omega))))
  have e : (u.map fun i => items.toArray.getD i .none) = pickL .none items u := by
    unfold pickL
    exact List.map_congr_left fun i _ => by simp
  rw [e]
  have o2 : (s.heap.push (tupO (pickL .none items u))).get? it = some (comO pool st res u) := Heap.get?_push_of_some _ ho
  have t2 : (s.heap.push (tupO (pickL .none items u))).get? s.heap.objs.size = some (tupO (pickL .none items u)) := Heap.get?_push_size _ rfl
  refine wpAny_bind (wpAny_field (s := { s with heap := s.heap.push (tupO (pickL .none items u)) }) o2 rfl (x := res) rfl ?_)
  refine wpAny_bind (com_set2 (s := { s with heap := s.heap.push (tupO (pickL .none items u)) }) o2 fun h' a sb => wpAny_bind (wpAny_letGo (wpAny_pure ?_)))
  exact h h' a ((sb.2 _ (Nat.ne_of_gt lt)).trans t2) fun b o nb hb => (sb.2 b nb).trans (Heap.get?_push_of_some _ hb)
theorem com_pn0 {Q : Option Value → Shared → Prop} (hl : l.length ≤ 1000) (ho : s.heap.get? it = some (comO pool 0 res l)) (hp : s.heap.get? pool = some (tupO items)) (ne : pool ≠ it)
    (h : ∀ h', h'.get? it = some (comO pool 1 (.ref s.heap.objs.size) l) → h'.get? s.heap.objs.size = some (tupO (pickL .none items l)) → (∀ b o, b ≠ it → s.heap.get? b = some o → h'.get? b = some o) → Q (some (.ref s.heap.objs.size)) { s with heap := h' }) :
    wpAny (model prog w) A (pyNext (.ref it)) Q E s := by
  unfold pyNext
  refine wpAny_bind (wpAny_attempt (wpAny_callSpecial?_slot (name := Str.ofString "__next__") (com_ty ho) com_next (wpAny_call_entry com_next (com_ty ho) com_ex ?_ (com_ax _))))
  show wpAny _ _ (field (.ref it) 0 >>= _) _ _ s
  refine wpAny_bind (wpAny_field ho rfl (x := .ref pool) rfl ?_)
  refine wpAny_bind (com_nums ho ?_)
  refine wpAny_bind (com_st ho ?_)
  refine wpAny_bind (com_set1 (x := 1) ho fun h1 a1 sb1 => ?_)
  have sz : h1.objs.size = s.heap.objs.size := sb1.1
  refine com_out (s := { s with heap := h1 }) hl a1 ((sb1.2 _ ne).trans hp) fun h' a b c => ⟨_, rfl, wpAny_pure ?_⟩
  have b : h'.get? h1.objs.size = some (tupO (pickL .none items l)) := b
  have a : h'.get? it = some (comO pool 1 (.ref h1.objs.size) l) := a
  show Q (some (.ref h1.objs.size)) _
  rw [sz] at a b ⊢
  exact h h' a b fun x o nx hx => c x o nx ((sb1.2 x nx).trans hx)
theorem com_pn1 {u : List Nat} {Q : Option Value → Shared → Prop} (hn : nxt items.length l = some u) (hl : u.length ≤ 1000) (ho : s.heap.get? it = some (comO pool 1 res l)) (hp : s.heap.get? pool = some (tupO items)) (ne : pool ≠ it)
    (h : ∀ h', h'.get? it = some (comO pool 1 (.ref s.heap.objs.size) u) → h'.get? s.heap.objs.size = some (tupO (pickL .none items u)) → (∀ b o, b ≠ it → s.heap.get? b = some o → h'.get? b = some o) → Q (some (.ref s.heap.objs.size)) { s with heap := h' }) :
    wpAny (model prog w) A (pyNext (.ref it)) Q E s := by
  unfold pyNext
  refine wpAny_bind (wpAny_attempt (wpAny_callSpecial?_slot (name := Str.ofString "__next__") (com_ty ho) com_next (wpAny_call_entry com_next (com_ty ho) com_ex ?_ (com_ax _))))
  show wpAny _ _ (field (.ref it) 0 >>= _) _ _ s
  refine wpAny_bind (wpAny_field ho rfl (x := .ref pool) rfl ?_)
  refine wpAny_bind (com_nums ho ?_)
  refine wpAny_bind (com_st ho ?_)
  refine wpAny_bind (com_pool hp ?_)
  have hn2 : nxt items.toArray.size l = some u := by rw [List.size_toArray]; exact hn
  split
  · rename_i next heq
    have e : nxt items.toArray.size l = some next := (nxt_m _ _).trans heq
    rw [hn2] at e
    cases e
    refine wpAny_bind (com_setN hl ho fun h1 a1 sb1 => ?_)
    have sz : h1.objs.size = s.heap.objs.size := sb1.1
    refine com_out (s := { s with heap := h1 }) hl a1 ((sb1.2 _ ne).trans hp) fun h' a b c => ⟨_, rfl, wpAny_pure ?_⟩
    have b : h'.get? h1.objs.size = some (tupO (pickL .none items u)) := b
    have a : h'.get? it = some (comO pool 1 (.ref h1.objs.size) u) := a
    show Q (some (.ref h1.objs.size)) _
    rw [sz] at a b ⊢
    exact h h' a b fun x o nx hx => c x o nx ((sb1.2 x nx).trans hx)
  · rename_i heq
    have e : nxt items.toArray.size l = none := (nxt_m _ _).trans heq
    rw [hn2] at e
    cases e
theorem com_pn2 {Q : Option Value → Shared → Prop} (hh : A.handled = none) (hn : nxt items.length l = none) (ho : s.heap.get? it = some (comO pool 1 res l)) (hp : s.heap.get? pool = some (tupO items))
    (h : ∀ h', Heap.ExtBut it s.heap h' → Q none { s with heap := h' }) : wpAny (model prog w) A (pyNext (.ref it)) Q E s := by
  unfold pyNext
  refine wpAny_bind (wpAny_attempt (wpAny_callSpecial?_slot (name := Str.ofString "__next__") (com_ty ho) com_next (wpAny_call_entry com_next (com_ty ho) com_ex ?_ (com_ax _))))
  show wpAny _ _ (field (.ref it) 0 >>= _) _ _ s
  refine wpAny_bind (wpAny_field ho rfl (x := .ref pool) rfl ?_)
  refine wpAny_bind (com_nums ho ?_)
  refine wpAny_bind (com_st ho ?_)
  refine wpAny_bind (com_pool hp ?_)
  have hn2 : nxt items.toArray.size l = none := by rw [List.size_toArray]; exact hn
  split
  · rename_i next heq
    have e : nxt items.toArray.size l = some next := (nxt_m _ _).trans heq
    rw [hn2] at e
    cases e
  · refine wpAny_bind (com_set1 (x := 2) ho fun h1 a1 sb1 => ?_)
    show wpAny _ _ (newExc (.type "StopIteration") [] >>= _) _ _ _
    refine wpAny_bind ?_
    simp only [newExc, newTuple]
    refine wpAny_bind (wpAny_newObj_type ?_ (by size_fits))
    refine wpAny_bind (m := firstArgMember _ _) (wpAny_of_eq (a := Value.none) (by first | rfl | (simp only [firstArgMember]; rfl)) ?_)
    refine wpAny_newObj_type ?_ (by size_fits)
    simp only [raiseNew]
    refine wpAny_bind (wpAny_handled ?_)
    rw [show A.in1.handled = none from hh]
    refine wpAny_bind (wpAny_pure (wpAny_throw ?_))
    refine wpAny_bind (wpAny_isInstance (T := "StopIteration") (b := true) ⟨_, Heap.get?_push_size _ rfl, rfl⟩ isSubtype_stop (wpAny_pure (h _ ?_)))
    exact (sb1.extBut.push _).push _
theorem com_self {Q : Value → Shared → Prop} (ho : s.heap.get? it = some (comO pool st res l)) (h : Q (.ref it) s) : wpAny (model prog w) A (pyIter (.ref it)) Q E s := by
  refine wpAny_pyIter_slot (com_ty ho) com_iter (wpAny_call_entry com_iter (com_ty ho) com_ei ?_ (com_ai _))
  show wpAny _ _ (ret (.ref it)) _ _ s
  exact wpAny_pure ⟨_, rfl, "itertools.combinations", _, com_ty ho, com_next.lookup, h⟩
/-- combinations(list, r) -/
theorem com_make {a : Addr} {r : Int} {t : Tok} {Q : Value → Shared → Prop} (hl : s.heap.IsList a items.toArray) (hz : items.length ≤ sizeLine) (r0 : 0 ≤ r) (r1 : r ≤ items.length) (r2 : r ≤ 1000)
    (h : ∀ h', h'.get? (s.heap.objs.size + 2) = some (comO (s.heap.objs.size + 1) 0 .none (List.range r.toNat)) → h'.get? (s.heap.objs.size + 1) = some (tupO items) → (∀ b o, s.heap.get? b = some o → h'.get? b = some o) → Q (.ref (s.heap.objs.size + 2)) { s with heap := h' }) :
    wpAny (model prog w) A (call (.type "itertools.combinations") [.ref a, .int r t]) Q E s := by
  refine callType_new com_called (by decide) (com_tc _ _) (com_nc _ _) (fun obj => com_ao obj _ _) com_en (S := fun A R s1 => s1.heap.IsList a items.toArray ∧ ∀ h', h'.get? (s1.heap.objs.size + 2) = some (comO (s1.heap.objs.size + 1) 0 .none (List.range r.toNat)) → h'.get? (s1.heap.objs.size + 1) = some (tupO items) → (∀ b o, s1.heap.get? b = some o → h'.get? b = some o) → R (.ok (.ret (.ref (s1.heap.objs.size + 2)))) { s1 with heap := h' })
    (Meets.of_wp fun prog w A R s1 hs => ?_) ⟨hl, fun h' x y z => ⟨⟨_, x, rfl⟩, h h' x y z⟩⟩
  obtain ⟨hl, k⟩ := hs
  have lt : a < s1.heap.objs.size := by
    obtain ⟨o, ho, _⟩ := hl
    exact Heap.lt_size ho
  unfold Builtin.«itertools.combinations.__new__»
  refine wpAny_bind ?_
  show wpAny _ _ (Builtin.Itertools.itClassAndRest "combinations" _ >>= _) _ _ s1
  refine wpAny_bind ?_
  unfold Builtin.Itertools.itClassAndRest
  show wpAny _ _ (isType (.type "itertools.combinations") >>= _) _ _ s1
  refine wpAny_bind (wpAny_of_eq (a := true) (by first | rfl | kernel_rfl | (unfold isType; rw [isSubtype_type]; kernel_rfl)) ?_)
  refine PySem.W.KFB.if_not rfl ?_
  show wpAny _ _ (isSubtype (.type "itertools.combinations") (.type "itertools.combinations") >>= _) _ _ s1
  refine wpAny_bind (wpAny_of_eq (a := true) com_sub ?_)
  refine PySem.W.KFB.if_not rfl ?_
  refine wpAny_pure ?_
  show wpAny _ _ (Builtin.Itertools.itBindNamed "combinations" ["iterable", "r"] 2 2 [.ref a, .int r t] [] >>= _) _ _ s1
  refine wpAny_bind (wpAny_of_eq (a := [some (.ref a), some (.int r t)]) (by first | rfl | kernel_rfl) ?_)
  show wpAny _ _ (Builtin.Itertools.itSsizeArg (.int r t) >>= _) _ _ s1
  refine wpAny_bind ?_
  unfold Builtin.Itertools.itSsizeArg
  refine wpAny_bind (wpAny_of_eq (a := r) (by first | rfl | kernel_rfl) ?_)
  refine PySem.W.KFB.if_not (by simp only [Bool.or_eq_false_iff, decide_eq_false_iff_not]; omega) (wpAny_pure ?_)
  refine wpAny_bind (collect_list hl ?_ hz)
  show wpAny _ _ (if r < 0 then _ else _) _ _ _
  rw [if_neg (show ¬ r < 0 by omega)]
  refine PySem.W.KFB.if_not (by unfold Builtin.Itertools.itTooMany; simp; omega) ?_
  generalize hh2 : (s1.heap.push (seqObj "list" #[] 0)).update s1.heap.objs.size (Obj.mapSeq (· ++ items.toArray)) = h2
  have z2 : h2.objs.size = s1.heap.objs.size + 1 := by
    rw [← hh2, Heap.size_update, Heap.size_push]
  have k2 : ∀ b o, s1.heap.get? b = some o → h2.get? b = some o := fun b o e => by
    rw [← hh2, Heap.get?_update_ne _ _ _ _ (Nat.ne_of_lt (Heap.lt_size e))]
    exact Heap.get?_push_of_some _ e
  refine wpAny_bind (wpAny_newTuple ?_ hz)
  refine wpAny_pure ?_
  show wpAny _ _ (Builtin.Itertools.itNewRecord (.type "itertools.combinations") _ >>= _) _ _ _
  refine wpAny_bind ?_
  unfold Builtin.Itertools.itNewRecord
  refine PySem.W.KFB.if_so (by first | rfl | kernel_rfl | decide +kernel) ?_
  have nd : (if r.toNat > items.length then 2 else 0) = 0 := if_neg (by omega)
  refine wpAny_newObj_type (wpAny_pure ?_) (by show Array.size _ ≤ sizeLine + 2; rw [List.size_toArray, sizeLine_eq]; simp; omega)
  have z3 : (h2.push (tupO items)).objs.size = s1.heap.objs.size + 2 := by rw [Heap.size_push, z2]
  have t3 : (h2.push (tupO items)).get? (s1.heap.objs.size + 1) = some (tupO items) := by
    rw [← z2]
    exact Heap.get?_push_size _ rfl
  have ef : ([Value.ref h2.objs.size, rawInt (if r.toNat > items.length then 2 else 0), Value.none] ++ (List.range r.toNat).map fun (i : Nat) => rawInt i) = comF (s1.heap.objs.size + 1) 0 .none (List.range r.toNat) := by
    rw [if_neg (by omega), z2]
    rfl
  have g := k ((h2.push (tupO items)).push (comO (s1.heap.objs.size + 1) 0 .none (List.range r.toNat))) (by rw [← z3]; exact Heap.get?_push_size _ rfl) (Heap.get?_push_of_some _ t3) fun b o e => Heap.get?_push_of_some _ (Heap.get?_push_of_some _ (k2 b o e))
  rw [← z3] at g
  refine ⟨_, rfl, ?_⟩
  show R (.ok (.ret (.ref (h2.push (tupO items)).objs.size))) { s1 with heap := (h2.push (tupO items)).push { cls := .type "itertools.combinations", dict := none, data := .fields ([Value.ref h2.objs.size, rawInt (if r.toNat > items.length then 2 else 0), Value.none] ++ (List.range r.toNat).map fun (i : Nat) => rawInt i).toArray } }
  rw [ef]
  exact g
end
end Fc
set_option maxHeartbeats 4000000
/-! for target in combinations(list, r). -/
namespace Fc
open PySem PySem.Spec PyProof.Rows L2
theorem combs_len {α : Type} (d : α) (xs : List α) (r : Nat) : (combs r xs).length = (CI xs.length r 0).length := by rw [← combs_eq d xs r, List.length_map]
theorem combs_at {α : Type} (d : α) (xs : List α) {r k : Nat} {l : List Nat} (h : (CI xs.length r 0)[k]? = some l) : (combs r xs)[k]? = some (pickL d xs l) := by rw [← combs_eq d xs r, List.getElem?_map, h]; rfl
theorem vals_pick : ∀ {l : List Nat} {xs : List V} {us : List Value}, Vals xs us → (∀ i ∈ l, i < xs.length) → Vals (pickL .non xs l) (pickL .none us l)
  | [], _, _, _, _ => .nil
  | i :: l, xs, us, r, h => by
    have hi := h i List.mem_cons_self
    have e : xs[i]? = some xs[i] := List.getElem?_eq_getElem hi
    obtain ⟨u, hu, ru⟩ := r.get e
    refine .cons ?_ (vals_pick r fun j z => h j (List.mem_cons_of_mem _ z))
    show RelV (xs.getD i .non) (us.getD i .none)
    rw [List.getD_eq_getElem?_getD, e, List.getD_eq_getElem?_getD, hu]
    exact ru
/-- all choices of r of the items, each a new tuple -/
def Itcb (xs : List V) (r : Nat) : It :=
  ⟨fun i H => i < (combs r xs).length, fun i H v H' => ∃ T c, v = .ref T ∧ H T = none ∧ H' = upd H T (.tup c) ∧ (combs r xs)[i]? = some c, fun i H => (combs r xs).length ≤ i⟩
theorem turn_comb {P : Program} {w : World} {K : PySem.W.Frag} {tg : Expr} {xs : List V} {items : List Value} {r : Nat} {it pool : Addr} (rv : Vals xs items) (hr : r ≤ xs.length) (hx : xs.length ≤ 1000) (ne : pool ≠ it) :
    Turn P w K tg (Itcb xs r) [it, pool] it (fun i h => h.get? pool = some (tupO items) ∧ ((i = 0 ∧ h.get? it = some (comO pool 0 .none (List.range r))) ∨ ∃ j res l, i = j + 1 ∧ (CI xs.length r 0)[j]? = some l ∧ h.get? it = some (comO pool 1 res l))) where
  mem := by simp
  obj := fun i h st b hb => by
    obtain ⟨hp, ho⟩ := st
    have e : b = it ∨ b = pool := by simpa using hb
    rcases e with z | z
    · rw [z]
      rcases ho with ⟨_, ho⟩ | ⟨_, _, _, _, _, ho⟩
      · exact ⟨_, ho, fun v q => nomatch q⟩
      · exact ⟨_, ho, fun v q => nomatch q⟩
    · rw [z]
      exact ⟨_, hp, fun v q => nomatch q⟩
  keep := fun i h h' st k => by
    obtain ⟨hp, ho⟩ := st
    refine ⟨k pool (by simp) _ hp, ?_⟩
    rcases ho with ⟨e, ho⟩ | ⟨j, res, l, e, q, ho⟩
    · exact .inl ⟨e, k it (by simp) _ ho⟩
    · exact .inr ⟨j, res, l, e, q, k it (by simp) _ ho⟩
  item := by
    intro X hP hw hK hc i pins s σ H E I hf st hg
    subst hP hw hK
    obtain ⟨hp, ho⟩ := st
    have hg : i < (combs r xs).length := hg
    rw [combs_len V.non] at hg
    have li : items.length = xs.length := rv.length.symm
    have hl : (CI xs.length r 0)[i]? = some ((CI xs.length r 0)[i]'hg) := List.getElem?_eq_getElem hg
    generalize (CI xs.length r 0)[i]'hg = l at hl
    have lm := List.mem_of_getElem? hl
    have ll : l.length = r := CI_len _ _ _ l lm
    have lt : ∀ j ∈ l, j < xs.length := fun j hj => by
      have z := CI_lt _ _ _ l lm j hj
      omega
    have fin : ∀ h' : Heap, h'.get? it = some (comO pool 1 (.ref s.heap.objs.size) l) → h'.get? s.heap.objs.size = some (tupO (pickL .none items l)) → (∀ b o, b ≠ it → s.heap.get? b = some o → h'.get? b = some o) →
        ∃ u, some (Value.ref s.heap.objs.size) = some u ∧ wpAny (model X.prog X.w) X.A (letOwnedTupleGo tg (.ref it) u) (fun _ s2 => ∃ x H', Inv X pins σ H' s2 ∧ RelV x u ∧ (Itcb xs r).yld i H x H' ∧ (s2.heap.get? pool = some (tupO items) ∧ ((i + 1 = 0 ∧ s2.heap.get? it = some (comO pool 0 .none (List.range r))) ∨ ∃ j res l, i + 1 = j + 1 ∧ (CI xs.length r 0)[j]? = some l ∧ s2.heap.get? it = some (comO pool 1 res l))) ∧ ∀ b ∈ [it, pool], H' b = none) E { s with heap := h' } := by
      intro h' a b k
      refine ⟨_, rfl, go_of (s := { s with heap := h' }) a rfl rfl (by decide) ?_⟩
      have itl : it < s.heap.objs.size := by
        rcases ho with ⟨_, ho⟩ | ⟨_, _, _, _, _, ho⟩
        · exact Heap.lt_size ho
        · exact Heap.lt_size ho
      have new : ObjOk X.prog X.w (upd H s.heap.objs.size (.tup (pickL .non xs l))) h' s.heap.objs.size (.tup (pickL .non xs l)) :=
        ⟨by show (pickL V.non xs l).length ≤ sizeLine; unfold pickL; rw [List.length_map, sizeLine_eq]; omega, pickL .none items l, vals_pick rv lt, ⟨_, b, rfl, _, rfl⟩⟩
      have I1 : Inv X pins σ (upd H s.heap.objs.size (.tup (pickL .non xs l))) { s with heap := h', toks := s.toks } :=
        I.turnedNew (ch := [it, pool]) (fun b ob hb q => k b ob (fun z => hb (by simp [z])) q) hf (Nat.le_refl _) new
      refine ⟨.ref s.heap.objs.size, _, I1, rfl, ⟨_, _, rfl, I.hok.fresh (Nat.le_refl _), rfl, combs_at V.non xs hl⟩, ⟨k pool _ ne hp, .inr ⟨i, _, l, rfl, hl, a⟩⟩, fun b hb => ?_⟩
      have hlt : b < s.heap.objs.size := by
        have e : b = it ∨ b = pool := by simpa using hb
        rcases e with z | z
        · rw [z]
          exact itl
        · rw [z]
          exact Heap.lt_size hp
      rw [upd_ne (Nat.ne_of_lt hlt)]
      exact (hf b hb).1
    rcases ho with ⟨e, ho⟩ | ⟨j, res, l0, e, q, ho⟩
    · subst e
      have z : l = List.range r := by
        obtain ⟨L, e⟩ := CI_first xs.length r 0 hr
        rw [e] at hl
        have z := (Option.some.inj hl).symm
        rw [z]
        unfold CI1
        rw [show (fun i : Nat => 0 + i) = id from funext fun i => Nat.zero_add i, List.map_id]
      refine com_pn0 (l := List.range r) (by rw [List.length_range]; omega) ho hp ne fun h' a b k => ?_
      rw [← z] at a b
      exact fin h' a b k
    · subst e
      have c := CI_ch xs.length r 0
      rw [Nat.zero_add] at c
      have nx := (c.at q).trans hl
      rw [← li] at nx
      exact com_pn1 nx (by omega) ho hp ne fin
  done := by
    intro X hP hw hK hc i pins s σ H E I hf st hg
    subst hP hw hK
    obtain ⟨hp, ho⟩ := st
    have hg : (combs r xs).length ≤ i := hg
    rw [combs_len V.non] at hg
    have li : items.length = xs.length := rv.length.symm
    obtain ⟨f0, f1, f2, f3, f4, f5⟩ := hf it (by simp)
    rcases ho with ⟨e, ho⟩ | ⟨j, res, l0, e, q, ho⟩
    · obtain ⟨L, e2⟩ := CI_first xs.length r 0 hr
      rw [e2, e] at hg
      cases hg
    · subst e
      have c := CI_ch xs.length r 0
      rw [Nat.zero_add] at c
      have nx := (c.at q).trans (List.getElem?_eq_none hg)
      rw [← li] at nx
      exact com_pn2 (I.ok.hd hc) nx ho hp fun h' eb => ⟨rfl, I.turned (t' := s.toks) (fun b o hb q => eb b o hb q) f0 f1 f3 f4 f5⟩
  self := fun A i s Q E st h => by
    obtain ⟨_, ⟨_, ho⟩ | ⟨_, _, _, _, _, ho⟩⟩ := st
    · exact com_self ho h
    · exact com_self ho h
def iComb (K : PySem.W.Frag) (ta : TA) : TI := fun σ H R => ta σ H fun vs H1 => ∃ (a : Addr) (xs : List V) (r : Nat), vs = [.ref a, .int r] ∧ SqL K H1 a xs ∧ r ≤ xs.length ∧ xs.length ≤ 1000 ∧ R (Itcb xs r) H1
theorem pi_comb {X : Cx} {x : Str} {e1 e2 tg : Expr} {ta : TA} {p pos : Pos} (hg : Gl X x) (hm : X.mg x = some (.type "itertools.combinations")) (ha : PA X [e1, e2] ta) (hdb : (x == ("__debug__" : Str)) = false := by decide)
    (hs : starEach [e1, e2] X.env = (false, eval e1 X.env) :: starEach [e2] X.env := by rfl) (hpl : (backTo pos (starEach [e2] X.env)).any (·.1) = false := by rfl) : PI X tg (.Call (.Name x p) [e1, e2] [] pos) (iComb X.K ta) := by
  refine ⟨fun pins s σ H R I h => ?_⟩
  refine wpAny_Call_Name_kw (ld_glob I hg hm (PyProof.Rows.callWith_type1 (thn (ha.run pos pins s σ H _ I h) fun us s1 ⟨vs, H1, I1, r1, a, xs, r, ex, hq, hr, hx, q⟩ => ?_) hs hpl) hdb)
  subst ex
  obtain ⟨u, v, rfl, ru, rv⟩ := vals2 r1
  obtain rfl : u = Value.ref a := ru
  obtain ⟨tk, rfl⟩ := rv
  obtain ⟨its, rx, p', hz⟩ := I1.list hq
  have li : its.length = xs.length := rx.length.symm
  refine com_make (items := its) p'.isList (by rw [li]; exact hz) (by omega) (by omega) (by omega) fun h' ho hp hk => ?_
  rw [Int.toNat_natCast] at ho
  refine com_self ho ?_
  have I2 : Inv X pins σ H1 { s1 with heap := h' } := I1.kept (t' := s1.toks) hk
  refine ⟨s1.heap.objs.size + 2, [s1.heap.objs.size + 2, s1.heap.objs.size + 1], _, _, H1, rfl, I2, turn_comb rx hr hx (Nat.ne_of_lt (Nat.lt_succ_self _)), ⟨hp, .inl ⟨rfl, ho⟩⟩, fun b hb => ?_, q⟩
  have e' : b = s1.heap.objs.size + 2 ∨ b = s1.heap.objs.size + 1 := by simpa using hb
  have hle : s1.heap.objs.size ≤ b := by
    rcases e' with z | z
    · rw [z]
      exact Nat.le_add_right _ _
    · rw [z]
      exact Nat.le_add_right _ _
  exact I1.fpOk hle (I1.hok.fresh hle)
end Fc
set_option maxHeartbeats 4000000
/-! Rules with K told; texts joined; promises for slips. -/
namespace Fc
open PySem PySem.Spec PyProof.Rows L2
section
variable {X : Cx} {K : PySem.W.Frag}
theorem pg_tupK {es : List Expr} {k n : Nat} {t : TGs} {pos : Pos} (hK : X.K = K) (hc : X.calm = true) (h : PGs X es t) (hn : (assignEach es X.env).length = n := by rfl) (hst : (assignEach es X.env).findIdx? (·.1) = none := by rfl) : PG X (.Tuple es k pos) (gTup K n t) := by
  subst hK
  exact pg_tup hc h hn hst
theorem op_inK (h : X.K = K := by rfl) : OpR X (compareOp .In) (rIn K false) := by
  subst h
  exact op_in_seq
theorem op_notInK (h : X.K = K := by rfl) : OpR X (compareOp .NotIn) (rIn K true) := by
  subst h
  exact op_notIn_seq
theorem walk_comb {xs : List V} {r : Nat} : Walk (Itcb xs r) (combs r xs).length (fun _ => True) (fun i H v H' => ∃ T c, v = .ref T ∧ H T = none ∧ H' = upd H T (.tup c) ∧ (combs r xs)[i]? = some c) :=
  ⟨fun _ _ hi _ => hi, fun _ _ => Nat.le_refl _, fun _ _ _ _ _ _ y => y⟩
end
theorem inV_str (x : Str) : ∀ l : List Str, inV (.str x) (l.map V.str) = decide (x ∈ l)
  | [] => rfl
  | y :: l => by
    have ih := inV_str x l
    unfold inV at ih ⊢
    rw [List.map_cons, List.any_cons, ih]
    have e : eqV (.str y) (.str x) = decide (y = x) := by
      show (y == x) = _
      rw [Bool.eq_iff_iff]
      simp
    rw [e]
    by_cases c : y = x
    · subst c
      simp
    · have d : x ∈ y :: l ↔ x ∈ l := by
        rw [List.mem_cons]
        exact ⟨fun z => z.resolve_left fun q => c q.symm, .inr⟩
      rw [decide_eq_false c, Bool.false_or]
      exact decide_eq_decide.mpr d.symm
theorem flat_strs : ∀ l : List Str, (l.map V.str).all flatV = true
  | [] => rfl
  | _ :: l => flat_strs l
theorem signS_inj {a b : Nat} (h : signS a = signS b) : a = b := by
  unfold signS at h
  injection h with h
  have q := congrArg Array.toList h
  simpa using q
theorem signS_mem (c : Nat) (l : List Nat) : signS c ∈ l.map signS ↔ c ∈ l := by
  rw [List.mem_map]
  exact ⟨fun ⟨d, hd, e⟩ => by rw [← signS_inj e]; exact hd, fun h => ⟨c, h, rfl⟩⟩
theorem inV_sign (c : Nat) (l : List Nat) : inV (.str (signS c)) ((l.map signS).map V.str) = decide (c ∈ l) := by
  rw [inV_str]
  exact decide_eq_decide.mpr (signS_mem c l)
theorem combs_map {α β : Type} (f : α → β) : ∀ (r : Nat) (xs : List α), combs r (xs.map f) = (combs r xs).map (List.map f)
  | 0, xs => by cases xs <;> rfl
  | r + 1, [] => rfl
  | r + 1, x :: xs => by
    show (combs r (xs.map f)).map (f x :: ·) ++ combs (r + 1) (xs.map f) = ((combs r xs).map (x :: ·) ++ combs (r + 1) xs).map _
    rw [combs_map f r xs, combs_map f (r + 1) xs, List.map_append, List.map_map, List.map_map]
    rfl
/-- texts joined with nothing between -/
theorem join_cps (l : List Str) : (Txt.join "" l).cps.toList = l.flatMap fun z => z.cps.toList := by
  have e : l = (l.map fun z => z.cps.toList).map SX.S := by
    rw [List.map_map]
    exact (List.map_id l).symm.trans (List.map_congr_left fun z _ => (oS_eq (z := z) rfl))
  have e0 : ("" : Str) = SX.S [] := rfl
  have key : ∀ ls : List (List Nat), TL.joinL [] ls = ls.flatten := by
    intro ls
    induction ls with
    | nil => rfl
    | cons p r ih =>
      cases r with
      | nil => exact (List.append_nil p).symm
      | cons q t =>
        show p ++ ([] ++ TL.joinL [] (q :: t)) = _
        rw [ih]
        rfl
  have z := SX.join_S [] (l.map fun z => z.cps.toList)
  rw [← e, ← e0] at z
  rw [z, key]
  show (oS _).cps.toList = _
  rw [oS_cps, List.flatMap_def]
theorem add_cps (a b : Str) : (a ++ b).cps.toList = a.cps.toList ++ b.cps.toList := by
  show (a.cps ++ b.cps).toList = _
  exact Array.toList_append
theorem len_cps (a : Str) : a.length = a.cps.toList.length := by simp [PySem.Str.length]
theorem rowsS_sum {rs : List Row} (g : ∀ r ∈ rs, isRowM r = true) : ((rs.map fun r => r.2.1 ++ r.2.2).map (·.length)).sum ≤ 16 * rs.length := by
  induction rs with
  | nil => exact Nat.le_refl _
  | cons r rs ih =>
    have i := ih fun x hx => g x (List.mem_cons_of_mem _ hx)
    obtain ⟨_, l2, l3⟩ := isRowM_len (g r List.mem_cons_self)
    rw [List.map_cons, List.map_cons, List.sum_cons, List.length_cons]
    have e : (r.2.1 ++ r.2.2).length = r.2.1.length + r.2.2.length := by rw [len_cps, add_cps, List.length_append, len_cps, len_cps]
    omega
theorem rowsS_cps (rs : List Row) : (Txt.join "" (rs.map fun r => r.2.1 ++ r.2.2)).cps.toList = allS rs := by
  rw [join_cps]
  unfold allS
  rw [List.flatMap_map]
  exact congrArg (fun f => List.flatMap f rs) (funext fun r => add_cps r.2.1 r.2.2)
/-! what is promised -/
def namedV (rs : List Row) : List V := ((namedM rs).map signS).map V.str
def spNamedP : Sp := fun vs H Q _ => ∃ (v : V) (rs : List Row), vs = [v] ∧ Dn N0 H v (ruleD rs) ∧ rs.length ≤ 50 ∧ (∀ r ∈ rs, isRowM r = true) ∧ ∀ p H', H p = none → Kp N0 H H' → H' p = some (.lst (namedV rs)) → Q (.ref p) H'
def spNamed : Sp := fun vs H Q _ => ∃ (v : V) (rs : List Row), vs = [v] ∧ Dn N0 H v (ruleD rs) ∧ GoodR rs ∧ ∀ p H', H p = none → Kp N0 H H' → H' p = some (.lst (namedV rs)) → Q (.ref p) H'
def spCheckHead : Sp := fun vs H Q _ => ∃ (v : V) (rs : List Row) (h : Str), vs = [v, .str h] ∧ Dn N0 H v (ruleD rs) ∧ rs.length ≤ 50 ∧ h ∈ ruleHeadsM rs ∧ ∀ H', Kp N0 H H' → Q .non H'
def spAfter : Sp := fun vs H Q _ => ∃ (m : Str) (t : Addr) (sl : List Nat), vs = [.str m, .ref t] ∧ H t = some (.tup ((sl.map signS).map V.str)) ∧ ∀ H', Kp N0 H H' → Q (.str (afterM m sl)) H'
def intO (o : Option Nat) : Option V := o.map fun c => V.int (c : Nat)
def spFewest (T : List Addr) : Sp := fun vs H Q _ => ∃ (v : V) (rs : List Row) (m : Str), vs = [v, .str m] ∧ Dn N0 H v (ruleD rs) ∧ GoodR rs ∧ Tbs T H ∧
  ∀ p kvs H', H p = none → Kp N0 H H' → H' p = some (.dK kvs) → kvs.length ≤ 2304 → (∀ h, valV kvs (.inr h) = intO (slipsM rs m h)) → (∀ q ∈ kvs, ∃ h, q.1 = .inr h) → Q (.ref p) H'
def slipV (o : Option Nat) : V := (intO o).getD .non
def spSlips (T : List Addr) : Sp := fun vs H Q _ => ∃ (v : V) (rs : List Row) (m h : Str), vs = [v, .str m, .str h] ∧ Dn N0 H v (ruleD rs) ∧ GoodR rs ∧ isMarksM m = true ∧ h ∈ ruleHeadsM rs ∧ Tbs T H ∧ ∀ H', Kp N0 H H' → Q (slipV (slipsM rs m h)) H'
end Fc
set_option maxHeartbeats 4000000
/-! The law's own reckoning of slips: what is promised. -/
namespace Fc
open PySem PySem.Spec PyProof.Rows L2
theorem allS_len {rs : List Row} (g : ∀ r ∈ rs, isRowM r = true) : (allS rs).length ≤ 16 * rs.length := by
  induction rs with
  | nil => exact Nat.le_refl _
  | cons r rs ih =>
    have i := ih fun x hx => g x (List.mem_cons_of_mem _ hx)
    obtain ⟨_, l2, l3⟩ := isRowM_len (g r List.mem_cons_self)
    unfold allS at i ⊢
    rw [List.flatMap_cons, List.length_append, List.length_append, List.length_cons, ← len_cps, ← len_cps]
    omega
theorem a2h_rs : Rs (a2h.cps.toList.map signS) := by
  unfold Rs
  decide +kernel
theorem named_rs (rs : List Row) : Rs ((namedM rs).map signS) := List.Pairwise.sublist (List.Sublist.map _ List.filter_sublist) a2h_rs
theorem named_rise {rs : List Row} (g : ∀ r ∈ rs, isRowM r = true) {l : List Str} (h : ∀ x, x ∈ l ↔ x ∈ (allS rs).map signS) : riseS l = (namedM rs).map signS := by
  refine (riseS_of (named_rs rs) fun x => ?_).symm
  rw [h x, List.mem_map, List.mem_map]
  exact ⟨fun ⟨c, hc, e⟩ => ⟨c, (namedM_mem g c).mp hc, e⟩, fun ⟨c, hc, e⟩ => ⟨c, (namedM_mem g c).mpr hc, e⟩⟩
theorem named_few {rs : List Row} (g : ∀ r ∈ rs, isRowM r = true) {l : List Str} (nd : l.Nodup) (h : ∀ x, x ∈ l ↔ x ∈ (allS rs).map signS) : l.length ≤ 8 := by
  have k := nodup_le nd (m := (namedM rs).map signS) fun x hx => by
    obtain ⟨c, hc, e⟩ := List.mem_map.mp ((h x).mp hx)
    exact List.mem_map.mpr ⟨c, (namedM_mem g c).mpr hc, e⟩
  rw [List.length_map] at k
  exact Nat.le_trans k (namedM_len rs)
/-- heads with a number each -/
def hdK (hs : List Str) (g : Str → Nat) : List (Key × V) := hs.map fun h => (.inr h, .int (g h : Nat))
theorem hdK_at {hs : List Str} (g : Str → Nat) {h : Str} (hm : h ∈ hs) : valV (hdK hs g) (.inr h) = some (.int (g h : Nat)) := by
  induction hs with
  | nil => cases hm
  | cons x hs ih =>
    by_cases e : x = h
    · subst e
      exact valV_pos (p := ((.inr x : Key), V.int (g x : Nat))) (r := hdK hs g) rfl
    · have ne : ¬ ((.inr x : Key), V.int (g x : Nat)).1 = .inr h := fun z => e (Sum.inr.inj z)
      refine (valV_neg (r := hdK hs g) ne).trans (ih ?_)
      rcases List.mem_cons.mp hm with z | z
      · exact (e z.symm).elim
      · exact z
theorem hdK_put {hs : List Str} (g : Str → Nat) {h : Str} (n : Nat) (hm : h ∈ hs) : putK (hdK hs g) (.inr h) (.int (n : Nat)) = hdK hs fun x => if h = x then n else g x := by
  have hv := hdK_at g hm
  unfold putK
  rw [if_pos (by rw [valV_any, hv]; rfl)]
  unfold hdK
  rw [List.map_map]
  refine List.map_congr_left fun x _ => ?_
  show (if (Sum.inr x : Key) = .inr h then ((.inr x : Key), V.int (n : Nat)) else (.inr x, .int (g x : Nat))) = (.inr x, .int ((if h = x then n else g x : Nat) : Nat))
  by_cases e : x = h
  · rw [if_pos (by rw [e]), if_pos e.symm]
  · rw [if_neg (fun z => e (Sum.inr.inj z)), if_neg (fun z => e z.symm)]
theorem hdK_merge : ∀ (hs : List Str) (g : Str → Nat) (kvs : List (Key × V)), hs.Nodup → (∀ h ∈ hs, valV kvs (.inr h) = none) → mergeK kvs (hdK hs g) = kvs ++ hdK hs g
  | [], _, kvs, _, _ => (List.append_nil kvs).symm
  | h :: hs, g, kvs, nd, k => by
    obtain ⟨n1, n2⟩ := List.nodup_cons.mp nd
    have kh := k h List.mem_cons_self
    show mergeK (putK kvs (.inr h) (.int (g h : Nat))) (hdK hs g) = kvs ++ ((.inr h, .int (g h : Nat)) :: hdK hs g)
    rw [putK_new _ kh, hdK_merge hs g _ n2 fun x hx => ?_, List.append_assoc]
    · rfl
    · rw [valV_snoc _ _ _ _ kh, if_neg (fun z => n1 (by rw [← Sum.inr.inj z]; exact hx))]
      exact k x (List.mem_cons_of_mem _ hx)
theorem pairs_at {K : PySem.W.Frag} {S : Addr → Prop} {H : Hp} (n : Nat) : ∀ {hs : List Str} {out : List V}, DnA S H out (hs.map fun h => .tuple [.str h, .int (n : Nat)]) →
    ∃ ps : List Addr, out = ps.map V.ref ∧ Paired (fun (p : Addr) (kv : Key × V) => SqT K H p [kV kv.1, kv.2]) ps (hdK hs fun _ => n)
  | [], _, h => by
    cases h
    exact ⟨[], rfl, .nil⟩
  | h :: hs, _, d => by
    cases d with
    | cons d t =>
      obtain ⟨ps, rfl, pp⟩ := pairs_at n t
      obtain ⟨a, xs, rfl, _, ha, hx⟩ := d.tup_ex
      cases hx with
      | cons h1 t1 =>
        cases t1 with
        | cons h2 t2 =>
          cases t2
          rw [h1.str_eq, h2.int_eq] at ha
          exact ⟨a :: ps, rfl, .cons (SqT.of ha) pp⟩
def kvL (rs : List Row) (m : Str) : List (Key × V) := hdK (ruleHeadsM rs) fun h => lawMin rs m (namedM rs) h 99 (subsTo [[]] (namedM rs))
def spLawSlips : Sp := fun vs H Q _ => ∃ (v : V) (rs : List Row) (m : Str), vs = [v, .str m] ∧ Dn N0 H v (ruleD rs) ∧ GoodR rs ∧ m.cps.toList.length ≤ 100 ∧ ∀ p H', H p = none → Kp N0 H H' → H' p = some (.dK (kvL rs m)) → Q (.ref p) H'
theorem subs_take {nm : List Nat} {i : Nat} {c : Nat} (h : nm[i]? = some c) : subsTo [[]] (nm.take (i + 1)) = subsTo [[]] (nm.take i) ++ (subsTo [[]] (nm.take i)).map (· ++ [c]) := by
  have e : nm.take (i + 1) = nm.take i ++ [c] := by rw [← (List.getElem?_eq_some_iff.mp h).2, List.take_append_getElem]
  rw [e, subsTo_snoc]
theorem subs_few {nm : List Nat} (h : nm.length ≤ 8) (i : Nat) : (subsTo [[]] (nm.take i)).length ≤ 256 := by
  rw [subsTo_len]
  have k : (nm.take i).length ≤ 8 := Nat.le_trans (List.length_take_le' _ _) h
  have z : 2 ^ (nm.take i).length ≤ 256 := Nat.pow_le_pow_right (by decide) k
  show 1 * _ ≤ _
  omega
theorem oS_add (l : List Nat) (c : Nat) : oS l ++ signS c = oS (l ++ [c]) := str_ext (by rw [add_cps, oS_cps, oS_cps]; rfl)
theorem oS_app (l u : List Nat) : oS l ++ oS u = oS (l ++ u) := str_ext (by rw [add_cps, oS_cps, oS_cps, oS_cps])
theorem oS_len (l : List Nat) : (oS l).length = l.length := by rw [len_cps, oS_cps]
end Fc
set_option maxHeartbeats 4000000
/-! Pairs of a number and a text in order. -/
namespace Fc
open PySem PySem.Spec PyProof.Rows L2
abbrev I2 := Int × Str
def lexI (p q : I2) : Bool := if p.1 = q.1 then ltS p.2 q.2 else decide (p.1 < q.1)
theorem lexI_tri (p q : I2) : lexI p q = true ∨ p = q ∨ lexI q p = true := by
  obtain ⟨a, b⟩ := p
  obtain ⟨c, d⟩ := q
  unfold lexI
  by_cases e : a = c
  · subst e
    simp only [if_true]
    rcases ltS_tri b d with z | z | z
    · exact .inl z
    · exact .inr (.inl (by rw [z]))
    · exact .inr (.inr z)
  · rw [if_neg e, if_neg (show ¬ c = a from fun z => e z.symm)]
    rcases Int.lt_trichotomy a c with z | z | z
    · exact .inl (decide_eq_true z)
    · exact (e z).elim
    · exact .inr (.inr (decide_eq_true z))
theorem lexI_trans {p q r : I2} (h : lexI p q = true) (k : lexI q r = true) : lexI p r = true := by
  obtain ⟨a, b⟩ := p
  obtain ⟨c, d⟩ := q
  obtain ⟨e, f⟩ := r
  unfold lexI at h k ⊢
  dsimp only at h k ⊢
  by_cases e1 : a = c
  · subst e1
    rw [if_pos rfl] at h
    by_cases e2 : a = e
    · rw [if_pos e2] at k ⊢
      exact ltS_trans h k
    · rw [if_neg e2] at k ⊢
      exact k
  · rw [if_neg e1] at h
    by_cases e2 : c = e
    · subst e2
      rw [if_neg e1]
      exact h
    · rw [if_neg e2] at k
      have t := Int.lt_trans (of_decide_eq_true h) (of_decide_eq_true k)
      rw [if_neg fun z => by rw [z] at t; exact Int.lt_irrefl _ t]
      exact decide_eq_true t
theorem lexI_irr (p : I2) : lexI p p = false := by
  unfold lexI
  rw [if_pos rfl, ltS_irr]
theorem lexI_asym {p q : I2} (h : lexI p q = true) : lexI q p = false := by
  cases z : lexI q p with
  | false => rfl
  | true =>
    have t := lexI_trans h z
    rw [lexI_irr] at t
    cases t
theorem swo_lexI {α : Type} (k : α → I2) : SrtO.Swo fun v u => lexI (k v) (k u) := by
  refine ⟨fun x y h => lexI_asym h, fun x y z h1 h2 => ?_⟩
  show lexI (k z) (k x) = false
  cases c : lexI (k z) (k x) with
  | false => rfl
  | true =>
    have h1' : lexI (k y) (k x) = false := h1
    have h2' : lexI (k z) (k y) = false := h2
    rcases lexI_tri (k x) (k y) with q | q | q
    · have t := lexI_trans c q
      rw [t] at h2'
      cases h2'
    · rw [q] at c
      rw [c] at h2'
      cases h2'
    · rw [q] at h1'
      cases h1'
/-- v: a tuple of a number and a text -/
def TwoI (h : Heap) (v : Value) (p : I2) : Prop := ∃ a o t u n, v = .ref a ∧ h.get? a = some o ∧ o.cls = .type "tuple" ∧ o.data = .seq #[.int p.1 t, .str p.2 u] n
theorem TwoI.over {h h' : Heap} {v : Value} {p : I2} (z : TwoI h v p) (k : ∀ b o, h.get? b = some o → o.cls = .type "tuple" → h'.get? b = some o) : TwoI h' v p := by
  obtain ⟨a, o, t, u, n, e, ho, hc, hd⟩ := z
  exact ⟨a, o, t, u, n, e, k _ _ ho hc, hc, hd⟩
section
variable {prog : Program} {w : World} {A : Around} {s : Shared}
theorem itwo_heads {h : Heap} (k : Value → I2) (vs : List Value) (hp : ∀ v ∈ vs, TwoI h v (k v)) : ∃ fs : List Value, PySem.W.KatTups h vs fs ∧ fs.length = vs.length ∧ ∀ f ∈ fs, ∃ x t, f = Value.int x t := by
  induction vs with
  | nil => exact ⟨[], PySem.W.KatTups.nil, rfl, fun _ hm => nomatch hm⟩
  | cons v vs ih =>
    obtain ⟨fs, h1, h2, h3⟩ := ih fun v' hm => hp v' (List.mem_cons_of_mem _ hm)
    obtain ⟨a, o, t, u, n, e, ho, hc, hd⟩ := hp v List.mem_cons_self
    rw [e]
    refine ⟨.int (k v).1 t :: fs, PySem.W.KatTups.cons ho hc hd rfl h1, congrArg (· + 1) h2, fun f hm => ?_⟩
    rcases List.mem_cons.mp hm with z | z
    · exact ⟨_, t, z⟩
    · exact h3 f z
theorem itwo_cmp {vs : List Value} {k : Value → I2} (hp : ∀ v ∈ vs, TwoI s.heap v (k v)) : SrtO.Cmp prog w A s (tuples' true) (fun p => p.1 ∈ vs) (SrtO.lt2 fun v u => lexI (k v) (k u)) := by
  intro p q hm hm'
  have h1 := hp _ hm
  have h2 := hp _ hm'
  show wpAny (model prog w) A (keyLt' (tuples' true) p.1 q.1) (fun r s' => s' = s ∧ r = lexI (k p.1) (k q.1)) (fun _ _ => False) s
  generalize k p.1 = x at h1 ⊢
  generalize k q.1 = y at h2 ⊢
  obtain ⟨x1, x2⟩ := x
  obtain ⟨y1, y2⟩ := y
  obtain ⟨a, o, t, u, n, e, ho, hc, hd⟩ := h1
  obtain ⟨b, r, i, j, m, e', ho', hc', hd'⟩ := h2
  rw [e, e']
  refine PySem.W.kat_lt ho hd ho' hd' (PySem.W.kat_cons (SeqAt.EqAt.int_int x1 t y1 i prog w _ _ (PySem.W.kat_go (fun e1 => ?_) (fun e1 => ?_))))
  · have ex : x1 = y1 := by simpa using e1
    refine PySem.W.kat_yes (PySem.W.kat_cons (SeqAt.EqAt.str_str x2 u y2 j prog w _ _ (PySem.W.kat_go (fun e2 => ?_) (fun e2 => ?_))))
    · have ey : x2 = y2 := by simpa using e2
      refine PySem.W.kat_yes (PySem.W.kat_nil ⟨rfl, ?_⟩)
      rw [ex, ey]
      exact (lexI_irr _).symm
    · refine PySem.W.kat_no (PySem.W.kat_one _ _ (PyProof.Rows.lt_str ?_))
      refine ⟨rfl, ?_⟩
      unfold lexI ltS
      rw [if_pos ex]
  · have ex : ¬ x1 = y1 := by simpa using e1
    refine PySem.W.kat_no (oneLt_int ⟨rfl, ?_⟩)
    unfold lexI
    rw [if_neg ex]
theorem itwo_sortable {a : Addr} {vs : List Value} {k : Value → I2} (h0 : 0 < vs.length) (hp : ∀ v ∈ vs, TwoI s.heap v (k v)) (ha : ∀ o, s.heap.get? a = some o → o.cls ≠ .type "tuple") : SrtO.SortableO prog w A s a vs fun v u => lexI (k v) (k u) := by
  intro h' keep
  have hp' : ∀ v ∈ vs, TwoI h' v (k v) := fun v hm => (hp v hm).over fun b o e c => keep b o (fun z => ha o (by rw [← z]; exact e) c) e
  obtain ⟨fs, h1, h2, h3⟩ := itwo_heads k vs hp'
  refine ⟨tuples' true, fun Q E hq => PySem.W.kat_kind (T := .type "int") h1 (by omega) (fun f hm => ?_) (by rfl) ?_, itwo_cmp hp'⟩
  · obtain ⟨x, t, rfl⟩ := h3 f hm
    exact PySem.W.Looks.now
  · have e : (Value.type "int" != Value.type "tuple") = true := by first | decide +kernel | rfl | decide
    rw [e]
    exact hq
end
section
variable {X : Cx}
/-- sorted(list of pairs of a number and a text), k tells which -/
def rSortIP (K : PySem.W.Frag) : List V → Hp → VK → Prop := fun vs H Q => ∃ (a : Addr) (xs : List V) (k : V → I2), vs = [.ref a] ∧ SqL K H a xs ∧ (∀ x ∈ xs, ∃ t, x = V.ref t ∧ H t = some (.tup [.int (k x).1, .str (k x).2])) ∧
  ∀ ys p, SrtO.Srtd (fun v u => lexI (k v) (k u)) ys → ys.Perm xs → H p = none → Q (.ref p) (upd H p (.lst ys))
theorem cr_sortIP : CallR X (.builtin "sorted") (rSortIP X.K) := by
  intro pins s σ H vs us Q I r h
  obtain ⟨a, xs, k, rfl, hs, hx, q⟩ := h
  obtain ⟨its, rv, hl, hz⟩ := I.list hs
  rw [Vals.ref1 r]
  obtain ⟨e1, e2⟩ := refs_back rv fun x m => Exists.imp (fun _ z => z.1) (hx x m)
  have old : ∀ v ∈ its, TwoI s.heap v (k (backV v)) := fun v hv => by
    obtain ⟨t, rfl⟩ := e2 v hv
    have hm : V.ref t ∈ xs := by
      rw [e1]
      exact List.mem_map.mpr ⟨_, hv, rfl⟩
    obtain ⟨t', e, ht⟩ := hx _ hm
    cases e
    obtain ⟨_, its2, r2, o, ho, hc, n, hd⟩ := I.hok _ _ ht
    obtain ⟨u1, u2, rfl, ri, rj⟩ := vals2 r2
    obtain ⟨t1, rfl⟩ := ri
    obtain ⟨t2, rfl⟩ := rj
    exact ⟨t, o, t1, t2, n, rfl, ho, hc, hd⟩
  refine SrtO.sorted_ord (swo_lexI fun u => k (backV u)) hl.isList (by rw [← rv.length]; exact hz) (fun h2 h₁ b hb kk => ?_) fun out hs hb => ?_
  · refine itwo_sortable (s := { s with heap := h₁ }) (k := fun u => k (backV u)) (by omega) (fun v hm => (old v hm).over fun c o e _ => (kk c o e).2) fun o e c => ?_
    have e' := e.symm.trans hb
    cases e'
    exact absurd (Value.type.inj c) (by decide)
  · have h3 : ∀ u ∈ out, ∃ a, u = Value.ref a := fun u hu => e2 u (hb.perm.mem_iff.mp hu)
    obtain ⟨n, hn⟩ := sortedAll_at s.heap its out.toArray
    have pm : (out.map backV).Perm xs := by
      rw [e1]
      exact hb.perm.map backV
    refine ⟨.ref _, upd H (s.heap.objs.size + 1) (.lst (out.map backV)), I.laid (t' := s.toks) (fun _ _ => sortedAll_old) (Nat.le_succ _) ⟨?_, out, n, vals_back h3, hn⟩, rfl, q _ _ (SrtO.srtd_map hs) pm (I.hok.fresh (Nat.le_succ _))⟩
    rw [pm.length_eq]
    exact hz
end
end Fc
set_option maxHeartbeats 4000000
/-! Pairs of a number and a text, read from a heap. -/
namespace Fc
open PySem PySem.Spec PyProof.Rows L2
def pairD (p : I2) : PyData := .tuple [.int p.1, .str p.2]
theorem pairD_ex {S : Addr → Prop} {H : Hp} {v : V} {p : I2} (z : Dn S H v (pairD p)) : ∃ t, v = .ref t ∧ ¬ S t ∧ H t = some (.tup [.int p.1, .str p.2]) := by
  obtain ⟨t, xs, rfl, hs, e, z⟩ := z.tup_ex
  cases z with
  | cons z1 z2 =>
    cases z2 with
    | cons z3 z4 =>
      cases z4
      cases z1
      cases z3
      exact ⟨t, rfl, hs, e⟩
def keyI (H : Hp) : V → I2
  | .ref t => match H t with
    | some (.tup [.int x, .str y]) => (x, y)
    | _ => (0, "")
  | _ => (0, "")
theorem keyI_at {H : Hp} {t : Addr} {x : Int} {y : Str} (h : H t = some (.tup [.int x, .str y])) : keyI H (.ref t) = (x, y) := by
  unfold keyI
  simp only [h]
theorem keyI_all {S : Addr → Prop} {H : Hp} : ∀ {xs : List V} {ps : List I2}, DnA S H xs (ps.map pairD) → xs.map (keyI H) = ps ∧ ∀ x ∈ xs, ∃ t, x = V.ref t ∧ H t = some (.tup [.int (keyI H x).1, .str (keyI H x).2])
  | _, [], h => by
    cases h
    exact ⟨rfl, fun x z => nomatch z⟩
  | _, p :: ps, h => by
    cases h with
    | cons h t =>
      obtain ⟨i1, i2⟩ := keyI_all t
      obtain ⟨a, rfl, _, ha⟩ := pairD_ex h
      have e := keyI_at ha
      refine ⟨by rw [List.map_cons, i1, e], fun x hx => ?_⟩
      rcases List.mem_cons.mp hx with z | z
      · subst z
        exact ⟨a, rfl, by rw [e]; exact ha⟩
      · exact i2 x z
end Fc
set_option maxHeartbeats 4000000
/-! any, all of a generator expression whose element may do anything that Z stands for (defs with generators of their own too). -/
namespace Fc
open PySem PySem.Spec PyProof.Rows L2
section
variable {prog : Program} {w : World}
/-- what is told of a turn -/
def LR (Ze : Shared → Prop) : GenEnd := fun n s0 r s1 => r = .ok .next ∧ n = 0 ∧ Ze s1
def LY (Z : Nat → Shared → Prop) (f : Nat → Bool) (n0 : Nat) : Protocol := fun m s0 v s kap => v = .bool (f (n0 - 1 - m)) ∧ Z (n0 - m) s ∧ ∀ s2, Z (n0 - m) s2 → kap (.send .none) s2
/-- one turn: the next item, the name, the element; the end -/
structure Loud (prog : Program) (w : World) (A' : Around) (cenv : Env) (x : Str) (px : Pos) (elt : Expr) (I : Addr) (f : Nat → Bool) (n0 : Nat) (Z : Nat → Shared → Prop) (Ze : Shared → Prop) : Prop where
  turn : ∀ (i : Nat) (s : Shared), i < n0 → Z i s → wpAny (model prog w) A' (pyNext (.ref I)) (fun r s1 => ∃ v, r = some v ∧ wpAny (model prog w) A' (letOwnedTupleGo (.Name x px) (.ref I) v) (fun _ s2 => wpAny (model prog w) A' (assign (.Name x px) cenv v) (fun _ s3 =>
    wpAny (model prog w) A' (eval elt cenv) (fun y s4 => y = .bool (f i) ∧ Z (i + 1) s4) (fun _ _ => False) s3) (fun _ _ => False) s2) (fun _ _ => False) s1) (fun _ _ => False) s
  done : ∀ (s : Shared), Z n0 s → wpAny (model prog w) A' (pyNext (.ref I)) (fun r s1 => r = none ∧ Ze s1) (fun _ _ => False) s
variable {A : Around} {elt iter : Expr} {x : Str} {px : Pos} {scope : Scope} {pos : Pos} {I : Addr} {n0 : Nat} {cenv : Env} {f : Nat → Bool} {Z : Nat → Shared → Prop} {Ze : Shared → Prop}
abbrev gLoop (elt iter : Expr) (x : Str) (px : Pos) (scope : Scope) (pos : Pos) (I : Addr) (cenv : Env) : Code := .compLoop (.GeneratorExp elt [⟨.Name x px, iter, [], 0⟩] scope pos) 0 (.ref I) .none cenv
abbrev gStart (elt iter : Expr) (x : Str) (px : Pos) (scope : Scope) (pos : Pos) (I : Addr) (cenv : Env) : Code := .compStart (.GeneratorExp elt [⟨.Name x px, iter, [], 0⟩] scope pos) 0 (.ref I) .none cenv
theorem seg_loud (hco : cenv.scope.isCoroutine = false) (L : Loud prog w (A.over (gLoop elt iter x px scope pos I cenv) []) cenv x px elt I f n0 Z Ze) :
    ∀ (k i : Nat) (s0 s : Shared), n0 - i = k → i ≤ n0 → Z i s → Seg (model prog w) A (LR Ze) (LY Z f n0) k s0 (gLoop elt iter x px scope pos I cenv) ((model prog w).den (gLoop elt iter x px scope pos I cenv)) [] s := by
  intro k
  induction k with
  | zero =>
    intro i s0 s hk hi hz
    have e : i = n0 := by omega
    subst e
    show Seg _ A _ _ _ s0 _ ((compTurn (.GeneratorExp elt [⟨.Name x px, iter, [], 0⟩] scope pos) 0 (.ref I) .none cenv).onRaise (leaving cenv)) [] s
    rw [compTurn_gen, Sem.onRaise_eq_wrap]
    refine seg_bind_wrap (wpAny_standAt (seg_bind_wrap (wpAny_mono (L.done s hz) (fun r s1 h1 => ?_) fun _ _ e => e.elim)))
    obtain ⟨rfl, z1⟩ := h1
    exact seg_end (.ok .next) ⟨rfl, rfl, z1⟩
  | succ k ih =>
    intro i s0 s hk hi hz
    have hlt : i < n0 := by omega
    show Seg _ A _ _ _ s0 _ ((compTurn (.GeneratorExp elt [⟨.Name x px, iter, [], 0⟩] scope pos) 0 (.ref I) .none cenv).onRaise (leaving cenv)) [] s
    rw [compTurn_gen, Sem.onRaise_eq_wrap]
    refine seg_bind_wrap (wpAny_standAt (seg_bind_wrap (wpAny_mono (L.turn i s hlt hz) (fun r s1 h1 => ?_) fun _ _ e => e.elim)))
    obtain ⟨v, rfl, h1⟩ := h1
    refine seg_bind_wrap (wpAny_mono h1 (fun _ s1b h1b => ?_) fun _ _ e => e.elim)
    refine seg_bind_wrap (wpAny_mono h1b (fun _ s2 h2 => ?_) fun _ _ e => e.elim)
    refine seg_bind_wrap (m := forIn [] true _) ?_
    rw [List.forIn_nil]
    refine wpAny_pure ?_
    simp only [if_true]
    have hy : ∀ v, yieldOut cenv v = yieldValue v := fun v => by simp only [yieldOut, hco, Bool.false_eq_true, if_false]
    simp only [hy]
    rw [Sem.bind_eq_wrap', Sem.bind_eq_wrap', Sem.wrap_wrap, Sem.wrap_wrap]
    refine seg_wrap (wpAny_mono h2 (fun y s3 h3 => ?_) fun _ _ e => e.elim)
    obtain ⟨rfl, z3⟩ := h3
    have e1 : n0 - 1 - k = i := by omega
    have e2 : n0 - k = i + 1 := by omega
    refine seg_at (seg_yield rfl rfl rfl ⟨by show Value.bool (f i) = Value.bool (f (n0 - 1 - k)); rw [e1], by show Z (n0 - k) s3; rw [e2]; exact z3, fun s'' hz2 => ?_⟩)
    have hz2 : Z (n0 - k) s'' := hz2
    rw [e2] at hz2
    exact seg_again rfl (ih (i + 1) s'' s'' (by omega) hlt hz2)
theorem seg_loud0 (hco : cenv.scope.isCoroutine = false) (L : Loud prog w (A.over (gLoop elt iter x px scope pos I cenv) []) cenv x px elt I f n0 Z Ze)
    (hself : ∀ (s : Shared), Z 0 s → wpAny (model prog w) (A.over (gStart elt iter x px scope pos I cenv) []) (pyIter (.ref I)) (fun v s1 => v = .ref I ∧ Z 0 s1) (fun _ _ => False) s) (s0 s : Shared) (hz : Z 0 s) :
    Seg (model prog w) A (LR Ze) (LY Z f n0) n0 s0 (gStart elt iter x px scope pos I cenv) ((model prog w).den (gStart elt iter x px scope pos I cenv)) [] s := by
  have loop : ∀ s, Z 0 s → _ := fun s hz => seg_loud (iter := iter) (scope := scope) (pos := pos) hco L n0 0 s0 s (Nat.sub_zero _) (Nat.zero_le _) hz
  show Seg _ A _ _ _ s0 _ ((compStart (.GeneratorExp elt [⟨.Name x px, iter, [], 0⟩] scope pos) 0 (.ref I) .none cenv).onRaise (leaving cenv)) [] s
  unfold compStart
  rw [Sem.onRaise_eq_wrap]
  show Seg _ A _ _ _ s0 _ ((ask >>= _).wrap _ _ _ _) [] s
  refine seg_bind_wrap (wpAny_askSetting ?_)
  split
  · exact seg_again rfl (loop s hz)
  · first
      | (refine seg_bind_wrap (wpAny_rule (seg_bind_wrap (wpAny_standAt (seg_bind_wrap (wpAny_mono (hself s hz) (fun v s1 h1 => ?_) fun _ _ e => e.elim))))); obtain ⟨rfl, z1⟩ := h1; exact seg_again rfl (loop s1 z1))
      | (refine seg_bind_wrap (wpAny_rule ?_); show Seg _ A _ _ _ s0 _ ((standAt iter.pos >>= _).wrap _ _ _ _) [] s; refine seg_bind_wrap (wpAny_standAt (seg_bind_wrap (wpAny_mono (hself s hz) (fun v s1 h1 => ?_) fun _ _ e => e.elim))); obtain ⟨rfl, z1⟩ := h1; exact seg_again rfl (loop s1 z1))
/-- what Z has to say of the generator a, the g-th -/
structure ZOk (a : Addr) (g : Nat) (Z : Nat → Shared → Prop) (Ze Zf : Shared → Prop) : Prop where
  gen : ∀ j s, Z j s → s.heap.IsGen a g ∧ s.heap.NoLimit ∧ g < s.gens.size
  set : ∀ j s gs, gs.bare = true → Z j s → Z j (s.setGen g gs)
  fin : ∀ s gs h', gs.bare = true → Ze s → (∀ b o, s.heap.get? b = some o → h'.get? b = some o) → Zf { s.setGen g gs with heap := h' }
  left : ∀ j s, Z j s → Zf s
structure GenL (prog : Program) (w : World) (A : Around) (g : Nat) (f : Nat → Bool) (n0 : Nat) (Z : Nat → Shared → Prop) (Ze : Shared → Prop) (j : Nat) (s : Shared) : Prop where
  z : Z j s
  go : ∃ gs, s.gens[g]? = some gs ∧ ∀ s2, Z j s2 → gs.Goes (model prog w) A.in1 (LR Ze) (LY Z f n0) (n0 - j) (.send .none) s2
variable {a : Addr} {g : Nat} {Zf : Shared → Prop} {E : Value → Shared → Prop} {s : Shared} {j : Nat}
theorem loud_next {Q : Option Value → Shared → Prop} (hh : A.handled = none) (hroom : A.depth < recursionLimit) (O : ZOk a g Z Ze Zf) (hj : j < n0) (G : GenL prog w A g f n0 Z Ze j s) (hQ : ∀ s', GenL prog w A g f n0 Z Ze (j + 1) s' → Q (some (.bool (f j))) s') :
    wpAny (model prog w) A (pyNext (.ref a)) Q E s := by
  obtain ⟨hz, gs, hgs, hgo⟩ := G
  obtain ⟨hg, hl, hlt⟩ := O.gen j s hz
  obtain ⟨m, hm⟩ : ∃ m, n0 - j = m + 1 := ⟨n0 - j - 1, by omega⟩
  have go := hgo _ (O.set j s .running rfl hz)
  rw [hm] at go
  refine wpAny_pyNext_genexpQ (P := fun n s0 s1 => n = 0 ∧ Ze s1) hh hl hroom hg hgs go (fun v s1 gs' hb hv => ?_) (fun s1 hp h' hk => absurd hp.1 (Nat.succ_ne_zero m))
  obtain ⟨ev, z1, kap⟩ := hv
  have e1 : n0 - 1 - (m + 1 - 1) = j := by omega
  have e2 : n0 - (m + 1 - 1) = j + 1 := by omega
  have e3 : n0 - (j + 1) = m := by omega
  rw [e1] at ev
  rw [e2] at z1 kap
  subst ev
  obtain ⟨_, _, lt1⟩ := O.gen _ _ z1
  refine hQ _ ⟨O.set _ _ gs' hb z1, gs', setGen_self (Array.getElem?_eq_getElem lt1), fun s2 z2 => ?_⟩
  rw [e3]
  exact kap s2 z2
theorem loud_done {Q : Option Value → Shared → Prop} (hh : A.handled = none) (hroom : A.depth < recursionLimit) (O : ZOk a g Z Ze Zf) (G : GenL prog w A g f n0 Z Ze n0 s) (hQ : ∀ s', Zf s' → Q none s') : wpAny (model prog w) A (pyNext (.ref a)) Q E s := by
  obtain ⟨hz, gs, hgs, hgo⟩ := G
  obtain ⟨hg, hl, hlt⟩ := O.gen n0 s hz
  have go := hgo _ (O.set n0 s .running rfl hz)
  rw [Nat.sub_self] at go
  refine wpAny_pyNext_genexpQ (P := fun n s0 s1 => n = 0 ∧ Ze s1) hh hl hroom hg hgs go (fun v s1 gs' hb hv => ?_) (fun s1 hp h' hk => hQ _ (O.fin s1 .finished h' rfl hp.2 hk))
  obtain ⟨_, z1, kap⟩ := hv
  exact False.elim (kap s1 z1)
theorem loud_all {R : Result → Shared → Prop} (hh : A.handled = none) (hroom : A.in1.depth < recursionLimit) (O : ZOk a g Z Ze Zf) : ∀ (k i : Nat) (s : Shared), n0 - i = k → i ≤ n0 → GenL prog w A.in1 g f n0 Z Ze i s →
    (∀ s', Zf s' → R (.ok (.ret (.bool (((List.range n0).drop i).all f)))) s') → codeAny (model prog w) A (.builtin "all.loop" ⟨[.ref a], []⟩) R s := by
  intro k
  induction k with
  | zero =>
    intro i s hk hi G hR
    have e : i = n0 := by omega
    subst e
    refine codeAny_builtin PySem.F.entry_all_loop ?_
    rw [Around.under_plainId PySem.F.plain_all_loop _]
    show wpAny _ A.in1 (pyNext (.ref a) >>= _) _ _ s
    refine wpAny_bind (loud_done hh hroom O G fun s' z => ?_)
    refine wpAny_bind (wpAny_rule (wpAny_pure ?_))
    have q := hR s' z
    rw [List.drop_of_length_le (by simp)] at q
    exact q
  | succ k ih =>
    intro i s hk hi G hR
    have hlt : i < n0 := by omega
    have hd : (List.range n0).drop i = i :: (List.range n0).drop (i + 1) := by
      rw [List.drop_eq_getElem_cons (by simpa using hlt)]
      simp
    refine codeAny_builtin PySem.F.entry_all_loop ?_
    rw [Around.under_plainId PySem.F.plain_all_loop _]
    show wpAny _ A.in1 (pyNext (.ref a) >>= _) _ _ s
    refine wpAny_bind (loud_next hh hroom O hlt G fun s' G' => ?_)
    refine wpAny_bind (wpAny_holding (wpAny_truthy_bool ?_))
    refine wpAny_bind (wpAny_letGo ?_)
    cases hb : f i with
    | true =>
      simp only [if_true]
      refine wpAny_pure ⟨plainId_quiet PySem.F.plain_all_loop _, ih (i + 1) _ (by omega) hlt G' fun s'' z => ?_⟩
      have q := hR s'' z
      rw [hd, List.all_cons, hb, Bool.true_and] at q
      exact q
    | false =>
      simp only [Bool.false_eq_true, if_false]
      refine wpAny_bind (wpAny_rule (wpAny_pure ?_))
      have q := hR s' (O.left _ _ G'.z)
      rw [hd, List.all_cons, hb, Bool.false_and] at q
      exact q
theorem loud_any {R : Result → Shared → Prop} (hh : A.handled = none) (hroom : A.in1.depth < recursionLimit) (O : ZOk a g Z Ze Zf) : ∀ (k i : Nat) (s : Shared), n0 - i = k → i ≤ n0 → GenL prog w A.in1 g f n0 Z Ze i s →
    (∀ s', Zf s' → R (.ok (.ret (.bool (((List.range n0).drop i).any f)))) s') → codeAny (model prog w) A (.builtin "any.loop" ⟨[.ref a], []⟩) R s := by
  intro k
  induction k with
  | zero =>
    intro i s hk hi G hR
    have e : i = n0 := by omega
    subst e
    refine codeAny_builtin PySem.F.entry_any_loop ?_
    rw [Around.under_plainId PySem.F.plain_any_loop _]
    show wpAny _ A.in1 (pyNext (.ref a) >>= _) _ _ s
    refine wpAny_bind (loud_done hh hroom O G fun s' z => ?_)
    refine wpAny_bind (wpAny_rule (wpAny_pure ?_))
    have q := hR s' z
    rw [List.drop_of_length_le (by simp)] at q
    exact q
  | succ k ih =>
    intro i s hk hi G hR
    have hlt : i < n0 := by omega
    have hd : (List.range n0).drop i = i :: (List.range n0).drop (i + 1) := by
      rw [List.drop_eq_getElem_cons (by simpa using hlt)]
      simp
    refine codeAny_builtin PySem.F.entry_any_loop ?_
    rw [Around.under_plainId PySem.F.plain_any_loop _]
    show wpAny _ A.in1 (pyNext (.ref a) >>= _) _ _ s
    refine wpAny_bind (loud_next hh hroom O hlt G fun s' G' => ?_)
    refine wpAny_bind (wpAny_holding (wpAny_truthy_bool ?_))
    refine wpAny_bind (wpAny_letGo ?_)
    cases hb : f i with
    | false =>
      simp only [Bool.false_eq_true, if_false]
      refine wpAny_pure ⟨plainId_quiet PySem.F.plain_any_loop _, ih (i + 1) _ (by omega) hlt G' fun s'' z => ?_⟩
      have q := hR s'' z
      rw [hd, List.any_cons, hb, Bool.false_or] at q
      exact q
    | true =>
      simp only [if_true]
      refine wpAny_bind (wpAny_rule (wpAny_pure ?_))
      have q := hR s' (O.left _ _ G'.z)
      rw [hd, List.any_cons, hb, Bool.true_or] at q
      exact q
theorem call_all_loud {Q : Value → Shared → Prop} (hh : A.handled = none) (hroom : A.in1.depth < recursionLimit) (O : ZOk a g Z Ze Zf) (G : GenL prog w A.in1 g f n0 Z Ze 0 s) (hQ : ∀ s', Zf s' → Q (.bool ((List.range n0).all f)) s') :
    wpAny (model prog w) A (call (.builtin "all") [.ref a]) Q E s := by
  refine call_function_tree PySem.F.kind_all PySem.F.plain_all PySem.F.entry_all (PySem.F.args_all1 _) ?_
  unfold Builtin.«all»
  refine wpAny_bind (m := oneArg "all" _) (wpAny_pure ?_)
  refine wpAny_bind (wpAny_pyIter_gen (O.gen 0 s G.z).1 ?_)
  exact wpAny_pure ⟨plainId_quiet PySem.F.plain_all_loop _, loud_all hh hroom O n0 0 s rfl (Nat.zero_le _) G fun s' z => by simpa using hQ s' z⟩
theorem call_any_loud {Q : Value → Shared → Prop} (hh : A.handled = none) (hroom : A.in1.depth < recursionLimit) (O : ZOk a g Z Ze Zf) (G : GenL prog w A.in1 g f n0 Z Ze 0 s) (hQ : ∀ s', Zf s' → Q (.bool ((List.range n0).any f)) s') :
    wpAny (model prog w) A (call (.builtin "any") [.ref a]) Q E s := by
  refine call_function_tree PySem.F.kind_any PySem.F.plain_any PySem.F.entry_any (PySem.F.args_any1 _) ?_
  unfold Builtin.«any»
  refine wpAny_bind (m := oneArg "any" _) (wpAny_pure ?_)
  refine wpAny_bind (wpAny_pyIter_gen (O.gen 0 s G.z).1 ?_)
  exact wpAny_pure ⟨plainId_quiet PySem.F.plain_any_loop _, loud_any hh hroom O n0 0 s rfl (Nat.zero_le _) G fun s' z => by simpa using hQ s' z⟩
/-- a generator fresh from its making -/
theorem loud_fresh (hco : cenv.scope.isCoroutine = false) (L : Loud prog w (A.in1.over (gLoop elt iter x px scope pos I cenv) []) cenv x px elt I f n0 Z Ze)
    (hself : ∀ (s : Shared), Z 0 s → wpAny (model prog w) (A.in1.over (gStart elt iter x px scope pos I cenv) []) (pyIter (.ref I)) (fun v s1 => v = .ref I ∧ Z 0 s1) (fun _ _ => False) s) (hz : Z 0 s)
    (hg : s.gens[g]? = some (.fresh (gStart elt iter x px scope pos I cenv))) : GenL prog w A g f n0 Z Ze 0 s :=
  ⟨hz, _, hg, fun s2 z2 => ⟨rfl, seg_loud0 (A := A.in1) hco L hself s2 s2 z2⟩⟩
end
end Fc
set_option maxHeartbeats 4000000
/-! The generator's own frame as a context of the layer. -/
namespace Fc
open PySem PySem.Spec PyProof.Rows L2
def gEnv (X : Cx) (scope : Scope) (C : Addr) (code : Value) : Env := genEnv scope (cloFrom X.env.cells scope.names []) C code builtinsNs X.env
def genX (X : Cx) (scope : Scope) (code : Value) (fp : List Addr) (s4 : Shared) (H4 : Hp) (A' : Around) (x : Str) (caps : List Str) (a : Addr) (ob : Obj) : Cx :=
  { prog := X.prog, w := X.w, K := X.K, mg := X.mg, base := X.base, A := A', N := x :: caps, s_0 := s4, H_0 := H4, env := gEnv X scope s4.heap.objs.size code, outer := X.stack, stack := gEnv X scope s4.heap.objs.size code :: X.stack, ex := fp, fn := fun _ => false, calm := true, pn := [(a, ob)], xe := fun _ _ => False }
section
variable {X : Cx} {pins : List (Addr × Obj)} {σ : L2.St} {H4 : Hp} {s4 : Shared} {scope : Scope} {x : Str} {code : Value} {fp : List Addr} {A' : Around} {a : Addr} {ob : Obj} {caps : List Str} {vals : List (Option V)}
theorem genX_ok (I : Inv X pins σ H4 s4) (S : GxR.GenS X.env scope x) (hfp : ∀ b ∈ fp, FpOk X pins H4 b ∧ b < s4.heap.objs.size) (hh : A'.handled = none) (hfr : A'.frames = some (gEnv X scope s4.heap.objs.size code :: X.stack)) : (genX X scope code fp s4 H4 A' x caps a ob).Ok := by
  have mem : ∀ {y c}, (cloFrom X.env.cells scope.names []).lookup y = some c → X.env.cells.lookup y = some c := fun {y c} e => by
    rcases cloFrom_mem (PySem.mem_of_lookup e) with hm | ⟨h1, rfl⟩
    · cases hm
    · obtain ⟨c, hc⟩ := S.free _ h1 rfl
      have hc : X.env.cells.lookup y = some c := hc
      rw [hc]
      rfl
  refine ⟨I.ok.mod, S.kind, I.ok.glob, rfl, Nat.le_refl _, fun y z c e1 e2 => I.ok.inj y z c (mem e1) (mem e2), fun y hy => ?_, (fun y c z => nomatch z), fun _ => hh, hfr, .inr ⟨rfl, rfl⟩, fun b hb => ⟨?_, fun y c e z => ?_⟩, I.bs, Nat.le_trans I.ok.bsz I.sz, fun b o e hb => ?_, fun b hb z => ?_, I.stack, I.stkFree⟩
  · have hy : scope.names.lookup y = some .cell ∨ scope.names.lookup y = some .free := hy
    rcases hy with hy | hy
    · exact (S.cell _ (PySem.mem_of_lookup hy) rfl).elim
    · exact mem_lookup (cloFrom_has (cells := X.env.cells) (acc := []) (PySem.mem_of_lookup hy))
  · exact Nat.ne_of_lt (hfp b hb).2
  · exact (hfp b hb).1.2.2.2.2.1 y c (mem e) z
  · rcases (hfp b hb).1.2.2.2.1 with q | q
    · exact I.ok.noex b o e q
    · exact absurd (Heap.lt_size e) (Nat.not_lt.mpr (Nat.le_trans I.ok.bsz q))
  · have q := I.stkSub b z
    rcases List.mem_cons.mp q with q | q
    · exact (hfp b hb).1.2.1 q
    · exact (hfp b hb).1.2.2.1 q
theorem genX_inv {g' : Array GenState} {t' : Nat} {h' : Heap} {m : Str → Option Value} (I : Inv X pins σ H4 s4) (S : GxR.GenS X.env scope x) (hfp : ∀ b ∈ fp, FpOk X pins H4 b ∧ b < s4.heap.objs.size) (hh : A'.handled = none) (hfr : A'.frames = some (gEnv X scope s4.heap.objs.size code :: X.stack))
    (k : ∀ b o, s4.heap.get? b = some o → h'.get? b = some o) (hn : h'.Ns s4.heap.objs.size m) (ha : s4.heap.objs.size < a) (hat : h'.get? a = some ob) (hd : ∀ v, ob.data ≠ .cell v) (hg : AllBare g') (hl : vals.length = caps.length)
    (hc : ∀ (i : Nat) (y : Str) (v : V), caps[i]? = some y → vals[i]? = some (some v) → scope.names.lookup y = some .free ∧ ∃ u c, RelV v u ∧ X.env.cells.lookup y = some c ∧ s4.heap.IsCell c (some u)) :
    Inv (genX X scope code fp s4 H4 A' x caps a ob) [] (none :: vals) H4 { s4 with heap := h', gens := g', toks := t' } := by
  have mem : ∀ {y c}, (cloFrom X.env.cells scope.names []).lookup y = some c → X.env.cells.lookup y = some c := fun {y c} e => by
    rcases cloFrom_mem (PySem.mem_of_lookup e) with hm | ⟨h1, rfl⟩
    · cases hm
    · obtain ⟨c, hc⟩ := S.free _ h1 rfl
      have hc : X.env.cells.lookup y = some c := hc
      rw [hc]
      rfl
  have nC : H4 s4.heap.objs.size = none := I.hok.fresh (Nat.le_refl _)
  have na : H4 a = none := I.hok.fresh (Nat.le_of_lt ha)
  refine ⟨genX_ok I S hfp hh hfr, rfl, hg, Un.kept k, ⟨m, hn, fun i y v hi hv => ?_⟩, fun y c e => ?_, nC, fun y c e => I.freeC y c (mem e), fun p hp => ?_, (I.kept (t' := t') k).hok, congrArg Nat.succ hl⟩
  · cases i with
    | zero => cases hv
    | succ i =>
      have hi : caps[i]? = some y := hi
      have hv : vals[i]? = some (some v) := hv
      obtain ⟨fr, u, c, ru, ec, ic⟩ := hc i y v hi hv
      obtain ⟨c', e'⟩ := mem_lookup (cloFrom_has (cells := X.env.cells) (acc := []) (PySem.mem_of_lookup fr))
      have ee := mem e'
      rw [ec] at ee
      cases ee
      exact fun _ => ⟨u, ru, .inr ⟨.inr fr, c, e', ic.keeps k⟩⟩
  · obtain ⟨v, hv⟩ := I.cell y c (mem e)
    exact ⟨v, hv.keeps k⟩
  · have e : p = (a, ob) := by simpa [genX] using hp
    subst e
    refine ⟨hat, na, Nat.ne_of_gt ha, fun z => ?_, hd⟩
    have q := I.stkSub a z
    rcases List.mem_cons.mp q with q | q
    · have lt := I.lt
      have q : a = X.env.locals := q
      rw [← q] at lt
      exact absurd lt (Nat.not_lt.mpr (Nat.le_of_lt ha))
    · exact I.nofs (Nat.le_of_lt ha) q
/-- other generators' states are nothing to it -/
theorem Inv.gens {s : Shared} {H : Hp} (J : Inv X pins σ H s) {g' : Array GenState} (hg : AllBare g') : Inv X pins σ H { s with gens := g' } := ⟨J.ok, J.os, hg, J.base, J.loc, J.cell, J.free, J.freeC, J.pin, J.hok, J.len⟩
theorem bare_set {s : Shared} {g : Nat} {gs : GenState} (h : AllBare s.gens) (hb : gs.bare = true) : AllBare (s.setGen g gs).gens := by
  intro y hy
  have hy : y ∈ s.gens.setIfInBounds g gs := hy
  rcases Array.mem_or_eq_of_mem_setIfInBounds hy with z | z
  · exact h y z
  · rw [z]
    exact hb
/-- back in the def's context -/
theorem genX_back {σ' : L2.St} {H6 : Hp} {s6 : Shared} (I : Inv X pins σ H4 s4) (hfp : ∀ b ∈ fp, FpOk X pins H4 b ∧ b < s4.heap.objs.size) (J : Inv (genX X scope code fp s4 H4 A' x caps a ob) [] σ' H6 s6) : Inv X pins σ H6 s6 :=
  I.call' (ch := fp) J.os J.base J.hok J.bare fun b hb => ⟨(hfp b hb).1.2.2.2.1, (hfp b hb).1.2.1, (hfp b hb).1.2.2.2.2.1, (hfp b hb).1.2.2.2.2.2⟩
end
end Fc
set_option maxHeartbeats 4000000
/-! all(..), any(..) of a generator expression whose element is any expression of the layer. -/
namespace Fc
open PySem PySem.Spec PyProof.Rows L2
theorem loud_room {A : Around} {k : Nat} {elt iter : Expr} {x : Str} {px : Pos} {scope : Scope} {pos : Pos} {I : Addr} {cenv : Env} (r : Room (k + 1) A) : Room k (A.in1.in1.over (gLoop elt iter x px scope pos I cenv) []) := by
  refine ⟨r.hd, ?_, ?_⟩
  · have z := r.dp
    show A.depth + 0 + 1 + 3 * k + 5 < _
    omega
  · have z := r.un
    show A.units + 1 + 1 + 0 + 3 + 16 * k + 200 < _
    omega
theorem loud_frames {X : Cx} {l : List Env} {elt iter : Expr} {x : Str} {px : Pos} {scope : Scope} {pos : Pos} {I : Addr} {cenv : Env} (h : X.A.frames = some l) : (X.A.in1.in1.over (gLoop elt iter x px scope pos I cenv) []).frames = some (cenv :: l) := by
  show pushEnvs [cenv] (pushEnvs [] X.A.frames) = _
  rw [h]
  rfl
/-- what is asked of the walk: n0 turns, the i-th test f i -/
def LoudW (J : It) (te : TE) (vals : List (Option V)) (n0 : Nat) (f : Nat → Bool) (Wv : Nat → Hp → Prop) : Prop :=
  (∀ i H, i < n0 → Wv i H → J.go i H ∧ ∀ y H', J.yld i H y H' → te (some y :: vals) H' fun z H3 => z = .bl (f i) ∧ Wv (i + 1) H3) ∧ ∀ H, Wv n0 H → J.stop n0 H
/-- captured names' values: their places in the def's -/
def capV (σ : L2.St) (caps : List (Str × Nat)) : List (Option V) := caps.map fun p => (σ[p.2]?).getD none
def capOk (N : List Str) (sc scope : Scope) (caps : List (Str × Nat)) : Bool := caps.all fun p => decide (N[p.2]? = some p.1) && (decide (scope.names.lookup p.1 = some .free) && decide (sc.names.lookup p.1 = some .cell))
section
variable {X : Cx}
theorem loud_gen {pins : List (Addr × Obj)} {σ : L2.St} {H : Hp} {s : Shared} {c P : Addr} {elt iter : Expr} {x : Str} {px gp : Pos} {scope : Scope} {wi : TI} {te : TE} {k : Nat} {caps : List (Str × Nat)} {Qg : Value → Shared → Prop} {R : Nat → (Nat → Bool) → Hp → Prop}
    (hr : Room (k + 1) X.A) (hcp : capOk X.N X.env.scope scope caps = true) (hNd : (x :: caps.map (·.1)).Nodup) (TB : GxR.TabB X.base X.mg c P) (hcode : X.env.code = .ref c) (hS : genOk X.env.scope scope x = true) (hi : PI X (.Name x px) iter wi) (hs : ∀ v, genFold iter X.env v = pure v)
    (he : ∀ (code : Value) (fp : List Addr) (s4 : Shared) (H4 : Hp) (A' : Around) (a : Addr) (ob : Obj), Room k A' → PE (genX X scope code fp s4 H4 A' x (caps.map (·.1)) a ob) elt te) (I : Inv X pins σ H s)
    (h : wi σ H fun J H1 => GxR.TabG H1 P ∧ ∀ H2, GxR.Tabbed P H1 H2 → ∃ (n0 : Nat) (f : Nat → Bool) (Wv : Nat → Hp → Prop), Wv 0 H2 ∧ LoudW J te (capV σ caps) n0 f Wv ∧ ∀ i H3, Wv i H3 → R n0 f H3)
    (hQ : ∀ (a : Addr) (g : Nat) (n0 : Nat) (f : Nat → Bool) (Z : Nat → Shared → Prop) (Ze Zf : Shared → Prop) (s5 : Shared), ZOk a g Z Ze Zf → GenL X.prog X.w X.A.in1 g f n0 Z Ze 0 s5 → (∀ s', Zf s' → ∃ H2, Inv X pins σ H2 s' ∧ R n0 f H2) → Qg (.ref a) s5) :
    wpAny (model X.prog X.w) X.A (eval (.GeneratorExp elt [⟨.Name x px, iter, [], 0⟩] scope gp) X.env) Qg X.xe s := by
  have S := genOk_s I hS
  refine wpAny_GeneratorExp_make S.co (closure_ok S.free) S.cell S.dot S.kind (by have z := hr.dp; omega) ?_ hs
  refine wpAny_mono (hi.run pins s σ H _ I h) (fun v s1 h1 => wpAny_mono h1 (fun itv s2 h2 => ?_) fun _ _ e => e) fun _ _ e => e
  obtain ⟨it, fp, tn, J, H2, rfl, I2, T, st0, hfp, tabP, rest⟩ := h2
  obtain ⟨ps, hP, trip⟩ := tabP
  have atP : s2.heap.get? P = some { cls := .none, data := .fields ps } := I2.hok P _ hP
  have codeHd := TB.code.keeps (h' := s2.heap) fun b q e => I2.bk b q e
  have nP : ∀ b ∈ fp, b ≠ P := fun b hb e => by
    have z := (hfp b hb).1
    rw [e, hP] at z
    cases z
  have main : ∀ (code : Value) (h3 : Heap) (tk : Nat) (qs : Array Value), Heap.ExtBut P s2.heap h3 → s2.heap.objs.size ≤ h3.objs.size → h3.get? P = some { cls := .none, data := .fields qs } → (∃ more, qs = ps ++ more) → TriplesOk qs.toList →
      wpAny (model X.prog X.w) X.A (builtinsFor X.env.globals X.env.builtins) (fun bi s4 => ∀ h', h'.Ns s4.heap.objs.size (fun y => if y = ".0" then some (.ref it) else none) → Heap.SameBut s4.heap.objs.size (s4.heap.push { cls := .type "frame", data := .dict #[] }) h' →
        Qg (.ref h'.objs.size) { s4 with
          gens := s4.gens.push (.fresh (gStart elt iter x px scope gp it (genEnv scope (cloFrom X.env.cells scope.names []) s4.heap.objs.size code bi X.env))), toks := s4.toks + 1 + 1 + 1,
          heap := h'.push { cls := .type "generator", data := .fields #[.int s4.gens.size 0, .str "<genexpr>" (s4.toks + 1), .str (X.env.qual ++ "<genexpr>") (s4.toks + 1 + 1)] } }) X.xe { s2 with heap := h3, toks := tk } := by
    intro code h3 tk qs hx hsz hP3 hmore trip3
    obtain ⟨bm, obm, b1, b2, b3, b4, b5, b6, b7, b8⟩ := TB.bm
    have globals : h3.Ns X.env.globals X.mg := by
      rw [I2.ok.glob]
      exact (I2.mod.glob.keeps I2.bk).extBut hx TB.gP
    refine wpAny_builtinsFor globals b1 b2 (hx _ _ b4 (I2.bk _ _ b5)) b6 b7 b8 ?_
    intro h' hn' hs'
    obtain ⟨more, em⟩ := hmore
    have I4 : Inv X pins σ (upd H2 P (.tbl (ps ++ more))) { s2 with heap := h3, toks := tk } := GxR.inv_tab (g' := s2.gens) (d' := s2.drawn) I2 hP (fun b q nb e => hx b q nb e) (by rw [← em]; exact hP3) I2.bare
    have t4 : GxR.Tabbed P H2 (upd H2 P (.tbl (ps ++ more))) := ⟨⟨ps ++ more, upd_same, by rw [← em]; exact trip3⟩, fun b nb => upd_ne nb⟩
    obtain ⟨n0, f, Wv, w0, lw, wr⟩ := rest _ t4
    generalize upd H2 P (.tbl (ps ++ more)) = H4 at I4 t4 w0
    have hfp4 : ∀ b ∈ fp, FpOk X pins H4 b ∧ b < h3.objs.size := fun b hb => by
      obtain ⟨o, eo, _⟩ := T.obj _ _ st0 b hb
      refine ⟨⟨(t4.2 b (nP b hb)).trans (hfp b hb).1, (hfp b hb).2⟩, Nat.lt_of_lt_of_le (Heap.lt_size eo) hsz⟩
    have st4 : tn 0 h3 := T.keep _ _ _ st0 fun b hb o e => hx b o (nP b hb) e
    have hh : X.A.handled = none := hr.hd
    generalize hA : X.A.in1.in1.over (gLoop elt iter x px scope gp it (gEnv X scope h3.objs.size code)) [] = A'
    have hfr : A'.frames = some (gEnv X scope h3.objs.size code :: X.stack) := by
      rw [← hA]
      exact loud_frames I2.ok.frames
    have hrm : Room k A' := by
      rw [← hA]
      exact loud_room hr
    have hsz' : h'.objs.size = h3.objs.size + 1 := by
      have z := hs'.1
      rw [Heap.size_push] at z
      exact z
    generalize hob : ({ cls := .type "generator", data := .fields #[.int s2.gens.size 0, .str "<genexpr>" (tk + 1), .str (X.env.qual ++ "<genexpr>") (tk + 1 + 1)] } : Obj) = ob
    have hob1 : ob.cls = .type "generator" ∧ ob.data = .fields #[.int s2.gens.size 0, .str "<genexpr>" (tk + 1), .str (X.env.qual ++ "<genexpr>") (tk + 1 + 1)] ∧ ob.slots = #[] ∧ ob.dict = none := by
      rw [← hob]
      exact ⟨rfl, rfl, rfl, rfl⟩
    have keep5 : ∀ b o, h3.get? b = some o → (h'.push ob).get? b = some o := fun b o e => Heap.get?_push_of_some _ (hs'.extBut b o (Nat.ne_of_lt (Heap.lt_size e)) (Heap.get?_push_of_some _ e))
    have at5 : (h'.push ob).get? h'.objs.size = some ob := Heap.get?_push_size _ (by rw [← hob]; rfl)
    have cOk : ∀ (i : Nat) (y : Str) (v : V), (caps.map (·.1))[i]? = some y → (capV σ caps)[i]? = some (some v) → scope.names.lookup y = some .free ∧ ∃ u c, RelV v u ∧ X.env.cells.lookup y = some c ∧ h3.IsCell c (some u) := fun i y v hi hv => by
      unfold capV at hv
      rw [List.getElem?_map] at hi hv
      cases q : caps[i]? with
      | none =>
        rw [q] at hi
        cases hi
      | some p =>
        rw [q] at hi hv
        cases hi
        have hv : (σ[p.2]?).getD none = some v := Option.some.inj hv
        obtain ⟨c1, c2⟩ := Bool.and_eq_true_iff.mp (List.all_eq_true.mp hcp p (List.mem_of_getElem? q))
        obtain ⟨c2, c3⟩ := Bool.and_eq_true_iff.mp c2
        have c1 := of_decide_eq_true c1
        have c2 := of_decide_eq_true c2
        have c3 : X.env.scope.names.lookup p.1 = some .cell := of_decide_eq_true c3
        have hσ : σ[p.2]? = some (some v) := by
          cases w : σ[p.2]? with
          | none =>
            rw [w] at hv
            cases hv
          | some o =>
            rw [w] at hv
            exact congrArg some hv
        obtain ⟨m, _, look⟩ := I4.loc
        obtain ⟨u, ru, lk⟩ := look p.2 p.1 v c1 hσ (.inr (.inl c3))
        rcases lk with ⟨k1, _⟩ | ⟨_, c, e, ic⟩
        · have k1 : X.env.scope.names.lookup p.1 = some .local := k1
          rw [c3] at k1
          cases k1
        · exact ⟨c2, u, c, ru, e, ic⟩
    have J5 := genX_inv (x := x) (caps := caps.map (·.1)) (vals := capV σ caps) (g' := s2.gens.push (.fresh (gStart elt iter x px scope gp it (gEnv X scope h3.objs.size code)))) (t' := tk + 1 + 1 + 1) I4 S hfp4 hrm.hd hfr keep5 (hn'.push _) (a := h'.objs.size) (show h3.objs.size < h'.objs.size by omega) at5 (fun v z => by rw [hob1.2.1] at z; cases z) (AllBare.push I2.bare rfl) (by unfold capV; rw [List.length_map, List.length_map]) cOk
    have ltA : h3.objs.size < h'.objs.size := by omega
    generalize hX : genX X scope code fp { s2 with heap := h3, toks := tk } H4 A' x (caps.map (·.1)) h'.objs.size ob = X' at J5
    have xA : X'.A = A' := by rw [← hX] <;> rfl
    have xp : X'.prog = X.prog := by rw [← hX] <;> rfl
    have xw : X'.w = X.w := by rw [← hX] <;> rfl
    have xK : X'.K = X.K := by rw [← hX] <;> rfl
    have xc : X'.calm = true := by rw [← hX] <;> rfl
    have xe : X'.env = gEnv X scope h3.objs.size code := by rw [← hX] <;> rfl
    have xx : X'.xe = fun _ _ => False := by rw [← hX] <;> rfl
    have xN : X'.N = x :: caps.map (·.1) := by rw [← hX] <;> rfl
    have xn : X'.pn = [(h'.objs.size, ob)] := by rw [← hX] <;> rfl
    have xx2 : X'.ex = fp := by rw [← hX] <;> rfl
    have stat : ∀ {σ2 : L2.St} {H6 : Hp} {s6 : Shared}, Inv X' [] σ2 H6 s6 → (∀ b ∈ fp, H6 b = none) → ∀ b ∈ fp, FpOk X' [] H6 b := fun {σ2 H6 s6} J n b hb =>
      have hb2 : b ∈ X'.ex := by rw [xx2]; exact hb
      ⟨n b hb, (J.ok.exf b hb2).1, J.ok.exfs b hb2, .inl hb2, fun y c e => (J.ok.exf b hb2).2 y c e, fun p hp => by
        rw [xn] at hp
        have e : p = (h'.objs.size, ob) := by simpa using hp
        rw [e]
        have z := (hfp4 b hb).2
        exact Nat.ne_of_gt (Nat.lt_trans z ltA)⟩
    have PEe := he code fp { s2 with heap := h3, toks := tk } H4 A' h'.objs.size ob hrm
    rw [hX] at PEe
    have loc : Loc X'.env.scope x := by rw [xe]; exact Or.inl S.loc
    have PGx : PG X' (.Name x px) (gName 0) := pg_name (by rw [xN]; exact hNd) (by rw [xN]; rfl) loc (Or.inr (by rw [xe]; exact S.loc))
    have key : Qg (.ref h'.objs.size) { s2 with gens := s2.gens.push (.fresh (gStart elt iter x px scope gp it (gEnv X scope h3.objs.size code))), toks := tk + 1 + 1 + 1, heap := h'.push ob } := by
      refine hQ h'.objs.size s2.gens.size n0 f (fun i s => ∃ (o : Option V) (H6 : Hp), Inv X' [] (o :: capV σ caps) H6 s ∧ tn i s.heap ∧ (∀ b ∈ fp, H6 b = none) ∧ Wv i H6 ∧ s2.gens.size < s.gens.size) (fun s => ∃ (σ2 : L2.St) (H6 : Hp), Inv X' [] σ2 H6 s ∧ Wv n0 H6) (fun s => ∃ (i : Nat) (σ2 : L2.St) (H6 : Hp), Inv X' [] σ2 H6 s ∧ Wv i H6) _
        ⟨fun j s ⟨σ2, H6, J6, _, _, _, gz⟩ => ?_, fun j s gs hb ⟨o, H6, J6, st6, n6, w6, gz⟩ => ?_, fun s gs h6 hb ⟨σ2, H6, J6, w6⟩ hk => ?_, fun j s ⟨o, H6, J6, _, _, w6, _⟩ => ⟨j, _, H6, J6, w6⟩⟩ ?_ fun s' ⟨i, σ2, H6, J6, w6⟩ => ?_
      · obtain ⟨e, _⟩ := J6.pin (h'.objs.size, ob) (by rw [xn]; exact List.mem_cons_self)
        exact ⟨⟨ob, _, _, e, hob1.1, hob1.2.1, hob1.2.2.1⟩, J6.nolimit, gz⟩
      · exact ⟨o, H6, Fc.Inv.gens J6 (bare_set J6.bare hb), st6, n6, w6, by simpa [Shared.setGen] using gz⟩
      · exact ⟨n0, σ2, H6, (Fc.Inv.gens J6 (bare_set J6.bare hb)).kept (t' := s.toks) hk, w6⟩
      · refine loud_fresh (A := X.A.in1) (iter := iter) (scope := scope) (pos := gp) (cenv := gEnv X scope h3.objs.size code) S.co ?_ (fun s ⟨o, H6, J6, st6, r⟩ => T.self _ 0 s _ _ st6 ⟨rfl, o, H6, J6, st6, r⟩) ⟨_, H4, J5, T.keep _ _ _ st4 fun b hb o e => keep5 b o e, fun b hb => (hfp4 b hb).1.1, w0, ?_⟩ (Array.getElem?_push_size ..)
        · rw [hA]
          refine ⟨fun i s6 lt ⟨o, H6, J6, st6, n6, w6, gz⟩ => ?_, fun s6 ⟨o, H6, J6, st6, n6, w6, gz⟩ => ?_⟩
          · obtain ⟨go, step⟩ := lw.1 i H6 lt w6
            have ti := T.item X' xp xw xK xc i [] s6 (o :: capV σ caps) H6 (fun _ _ => False) J6 (stat J6 n6) st6 go
            rw [xA] at ti
            refine GenW.wpAny_gsz (n := s2.gens.size + 1) gz (wpAny_mono ti (fun r s7 hh7 hsz7 => ?_) fun _ _ e _ => e)
            obtain ⟨u, rfl, hh7⟩ := hh7
            refine ⟨u, rfl, GenW.wpAny_gsz (n := s2.gens.size + 1) hsz7 (wpAny_mono hh7 (fun _ s8 hh8 hsz8 => ?_) fun _ _ e _ => e)⟩
            obtain ⟨y, H8, J8, r8, y8, st8, n8⟩ := hh8
            have J8' := J8.pinned (stat J8 n8) (T.obj _ _ st8)
            have pg := PGx.run _ s8 (o :: capV σ caps) H8 y u (fun σ9 H9 => σ9 = some y :: capV σ caps ∧ H9 = H8) J8' r8 ⟨rfl, rfl⟩
            rw [xA, xe, xp, xw, xx] at pg
            refine GenW.wpAny_gsz (n := s2.gens.size + 1) hsz8 (wpAny_mono pg (fun _ s9 hh9 hsz9 => ?_) fun _ _ e _ => e)
            obtain ⟨σ9, H9, J9, rfl, rfl⟩ := hh9
            have pe := PEe.run _ s9 (some y :: capV σ caps) H9 _ J9 (step y H9 y8)
            rw [xA, xe, xp, xw, xx] at pe
            refine GenW.wpAny_gsz (n := s2.gens.size + 1) hsz9 (wpAny_mono pe (fun z s10 hh10 hsz10 => ?_) fun _ _ e _ => e)
            obtain ⟨zv, H10, J10, r10, e10, w10⟩ := hh10
            subst e10
            have ez : z = .bool (f i) := r10
            have pin' : ∀ b ∈ fp, ∀ o, s8.heap.get? b = some o → s10.heap.get? b = some o ∧ H10 b = none := fun b hb o e =>
              have zz := J10.pin (b, o) (List.mem_append_right _ (List.mem_append_right _ (mem_pinsAt hb e)))
              ⟨zz.1, zz.2.1⟩
            refine ⟨ez, _, H10, J10.unpinned (pins := []), T.keep _ _ _ st8 fun b hb o e => (pin' b hb o e).1, fun b hb => ?_, w10, hsz10⟩
            obtain ⟨o, e, _⟩ := T.obj _ _ st8 b hb
            exact (pin' b hb o e).2
          · have td := T.done X' xp xw xK xc n0 [] s6 (o :: capV σ caps) H6 (fun _ _ => False) J6 (stat J6 n6) st6 (lw.2 H6 w6)
            rw [xA] at td
            exact wpAny_mono td (fun r s7 hh7 => ⟨hh7.1, _, H6, hh7.2, w6⟩) fun _ _ e => e
        · show s2.gens.size < (s2.gens.push _).size
          rw [Array.size_push]
          exact Nat.lt_succ_self _
      · rw [← hX] at J6
        exact ⟨H6, genX_back I4 hfp4 J6, wr i H6 w6⟩
    exact key
  refine ⟨I2.nolimit, ?_⟩
  cases hc : codeAmong gp ps.toList with
  | none =>
    refine wpAny_genexprCodeX hcode (codeHd.code atP trip) (codeHd.tab atP) hc fun c' h' tk hx hge hlt hco _ htab _ => ?_
    obtain ⟨_, _, _, _, _, _, _, _, _, _, _, _, _, _, _, _, _, _, _, tr3, _⟩ := hco
    exact main _ h' tk _ hx (Nat.le_trans hge (Nat.le_of_lt hlt)) htab.2 ⟨_, rfl⟩ tr3
  | some cv =>
    refine wpAny_genexprCode_hit hcode (codeHd.code atP trip) hc ?_
    exact main cv _ s2.toks ps (Heap.ExtBut.refl _ _) (Nat.le_refl _) atP ⟨#[], by simp⟩ trip
/-- all(..), any(..): what is asked -/
def tGenL (b : Bool) (P : Addr) (wi : TI) (te : TE) (caps : List (Str × Nat)) : TE := fun σ H Q => wi σ H fun J H1 => GxR.TabG H1 P ∧ ∀ H2, GxR.Tabbed P H1 H2 → ∃ (n0 : Nat) (f : Nat → Bool) (Wv : Nat → Hp → Prop), Wv 0 H2 ∧ LoudW J te (capV σ caps) n0 f Wv ∧
  ∀ i H3, Wv i H3 → Q (.bl (if b = true then (List.range n0).all f else (List.range n0).any f)) H3
theorem pe_allL {c P : Addr} {elt iter : Expr} {x : Str} {px p pos gp : Pos} {scope : Scope} {wi : TI} {te : TE} {k : Nat} (caps : List (Str × Nat)) (hr : Room (k + 1) X.A) (hm : X.mg "all" = none) (TB : GxR.TabB X.base X.mg c P) (hcode : X.env.code = .ref c) (hi : PI X (.Name x px) iter wi)
    (he : ∀ (code : Value) (fp : List Addr) (s4 : Shared) (H4 : Hp) (A' : Around) (a : Addr) (ob : Obj), Room k A' → PE (genX X scope code fp s4 H4 A' x (caps.map (·.1)) a ob) elt te) (hg : Gl X "all" := by rfl)
    (hcp : capOk X.N X.env.scope scope caps = true := by rfl) (hNd : (x :: caps.map (·.1)).Nodup := by decide) (hS : genOk X.env.scope scope x = true := by rfl) (hs : ∀ v, genFold iter X.env v = pure v := by exact fun _ => rfl)
    (hst : starEach [.GeneratorExp elt [⟨.Name x px, iter, [], 0⟩] scope gp] X.env = (false, eval (.GeneratorExp elt [⟨.Name x px, iter, [], 0⟩] scope gp) X.env) :: starEach [] X.env := by rfl) :
    PE X (.Call (.Name "all" p) [.GeneratorExp elt [⟨.Name x px, iter, [], 0⟩] scope gp] [] pos) (tGenL true P wi te caps) := by
  refine ⟨fun pins s σ H Q I h => ?_⟩
  refine wpAny_Call_Name_kw (ld_blt I hg hm boot_all' ?_)
  refine PyProof.Rows.callWith_builtin1 ?_ hst (by rfl)
  rw [hst]
  show wpAny _ _ (spliced ((false, eval (.GeneratorExp elt [⟨.Name x px, iter, [], 0⟩] scope gp) X.env) :: backTo pos (starEach [] X.env))) _ _ s
  refine Calls.spliced_cons (loud_gen (R := fun n f H3 => Q (.bl ((List.range n).all f)) H3) hr hcp hNd TB hcode hS hi hs he I h fun a g n0 f Z Ze Zf s5 O G back => Calls.spliced_nil ?_)
  refine call_all_loud hr.hd (by have z := hr.dp; show X.A.depth < recursionLimit; omega) O G fun s' z => ?_
  obtain ⟨H2, J, q⟩ := back s' z
  exact ⟨.bl _, H2, J, rfl, q⟩
theorem pe_anyL {c P : Addr} {elt iter : Expr} {x : Str} {px p pos gp : Pos} {scope : Scope} {wi : TI} {te : TE} {k : Nat} (caps : List (Str × Nat)) (hr : Room (k + 1) X.A) (hm : X.mg "any" = none) (TB : GxR.TabB X.base X.mg c P) (hcode : X.env.code = .ref c) (hi : PI X (.Name x px) iter wi)
    (he : ∀ (code : Value) (fp : List Addr) (s4 : Shared) (H4 : Hp) (A' : Around) (a : Addr) (ob : Obj), Room k A' → PE (genX X scope code fp s4 H4 A' x (caps.map (·.1)) a ob) elt te) (hg : Gl X "any" := by rfl)
    (hcp : capOk X.N X.env.scope scope caps = true := by rfl) (hNd : (x :: caps.map (·.1)).Nodup := by decide) (hS : genOk X.env.scope scope x = true := by rfl) (hs : ∀ v, genFold iter X.env v = pure v := by exact fun _ => rfl)
    (hst : starEach [.GeneratorExp elt [⟨.Name x px, iter, [], 0⟩] scope gp] X.env = (false, eval (.GeneratorExp elt [⟨.Name x px, iter, [], 0⟩] scope gp) X.env) :: starEach [] X.env := by rfl) :
    PE X (.Call (.Name "any" p) [.GeneratorExp elt [⟨.Name x px, iter, [], 0⟩] scope gp] [] pos) (tGenL false P wi te caps) := by
  refine ⟨fun pins s σ H Q I h => ?_⟩
  refine wpAny_Call_Name_kw (ld_blt I hg hm boot_any ?_)
  refine PyProof.Rows.callWith_builtin1 ?_ hst (by rfl)
  rw [hst]
  show wpAny _ _ (spliced ((false, eval (.GeneratorExp elt [⟨.Name x px, iter, [], 0⟩] scope gp) X.env) :: backTo pos (starEach [] X.env))) _ _ s
  refine Calls.spliced_cons (loud_gen (R := fun n f H3 => Q (.bl ((List.range n).any f)) H3) hr hcp hNd TB hcode hS hi hs he I h fun a g n0 f Z Ze Zf s5 O G back => Calls.spliced_nil ?_)
  refine call_any_loud hr.hd (by have z := hr.dp; show X.A.depth < recursionLimit; omega) O G fun s' z => ?_
  obtain ⟨H2, J, q⟩ := back s' z
  exact ⟨.bl _, H2, J, rfl, q⟩
end
end Fc
set_option maxHeartbeats 4000000
/-! sorted of texts, however many. -/
namespace Fc
open PySem PySem.Spec PyProof.Rows L2
theorem swo_txt {α : Type} (k : α → Str) : SrtO.Swo fun v u => ltS (k v) (k u) := by
  refine ⟨fun x y h => ltS_asym h, fun x y z h1 h2 => ?_⟩
  have h1 : ltS (k y) (k x) = false := h1
  have h2 : ltS (k z) (k y) = false := h2
  show ltS (k z) (k x) = false
  cases c : ltS (k z) (k x) with
  | false => rfl
  | true =>
    rcases ltS_tri (k x) (k y) with q | q | q
    · rw [ltS_trans c q] at h2
      cases h2
    · rw [q] at c
      rw [c] at h2
      cases h2
    · rw [q] at h1
      cases h1
section
variable {prog : Program} {w : World} {A : Around} {E : Value → Shared → Prop} {s : Shared}
theorem key_txt {x y : Str} {t u : Tok} {Q : Bool → Shared → Prop} (h : Q (ltS x y) s) : wpAny (model prog w) A (keyLt' oneType' (.str x t) (.str y u)) Q E s := by
  rw [keyLt'_oneType]
  exact oneLt_str h
theorem txt_sortable {a : Addr} {vs : List Value} (h2 : 2 ≤ vs.length) (hv : ∀ v ∈ vs, ∃ x t, v = Value.str x t) : SrtO.SortableO prog w A s a vs fun v u => ltS (strOf v) (strOf u) := by
  intro h' keep
  refine ⟨oneType', fun Q E hq => ?_, fun p q hm hm' => ?_⟩
  · match vs, h2, hv with
    | v1 :: v2 :: rest, _, hv =>
      rw [keyKind_strs (strsAre_map _ hv)]
      exact wpAny_pure hq
  · obtain ⟨x, t, e⟩ := hv _ hm
    obtain ⟨y, u, e'⟩ := hv _ hm'
    show wpAny (model prog w) A (keyLt' oneType' p.1 q.1) (fun r s' => s' = _ ∧ r = ltS (strOf p.1) (strOf q.1)) (fun _ _ => False) _
    rw [e, e']
    exact key_txt ⟨rfl, rfl⟩
theorem rs_of_srt {vs out : List Value} (hs : SrtO.Srtd (fun v u => ltS (strOf v) (strOf u)) out) (nd : (out.map strOf).Nodup) : Rs (out.map strOf) := by
  induction out with
  | nil => exact List.Pairwise.nil
  | cons y r ih =>
    obtain ⟨h1, h2⟩ := List.pairwise_cons.mp hs
    obtain ⟨n1, n2⟩ := List.nodup_cons.mp nd
    refine List.pairwise_cons.mpr ⟨fun z hz => ?_, ih h2 n2⟩
    obtain ⟨u, hu, e⟩ := List.mem_map.mp hz
    have q : ltS (strOf u) (strOf y) = false := h1 u hu
    rw [← e]
    rcases ltS_tri (strOf y) (strOf u) with c | c | c
    · exact c
    · exact (n1 (by rw [c]; exact List.mem_map.mpr ⟨u, hu, rfl⟩)).elim
    · rw [c] at q
      cases q
end
section
variable {X : Cx}
/-- sorted(a set of texts), any number of them -/
def rSortSA (w : World) : List V → Hp → VK → Prop := fun vs H Q => ∃ (a : Addr) (l : List Str), vs = [.ref a] ∧ H a = some (SetSO w a l) ∧ l.length ≤ 1000 ∧ ∀ p, H p = none → Q (.ref p) (upd H p (.lst ((riseS l).map V.str)))
theorem cr_sortSA (hc : X.calm = true) : CallR X (.builtin "sorted") (rSortSA X.w) := by
  intro pins s σ H vs us Q I r h
  obtain ⟨a, l, rfl, ha, h1000, q⟩ := h
  have R := setSO_get I ha
  obtain ⟨o, es, ep, t, ho, hex, hd, g, pm, nd, hb, hf, hr, hl⟩ := R.ex
  rw [Vals.ref1 r]
  refine Calls.call_function_entry kind_sorted plain_sorted entry_sorted (args_sorted1 _) ?_
  unfold Builtin.«sorted»
  refine wpAny_bind (m := checkCount "sorted" 1 1 _) (wpAny_pure (wpAny_bind (collect_set (A := X.A.in1) (I.ok.hd hc) ⟨o, ho, hex.1, hd⟩ hf hb hr hl fun s1 vs k1 hz g1 o1 pv => ?_)))
  have esl : es.toList.length = l.length := by rw [← pm.length_eq, List.length_map]
  have vl : vs.length = l.length := by rw [pv.length_eq, List.length_map]; exact esl
  have isS : ∀ v ∈ vs, ∃ x t, v = Value.str x t := fun v hv => by
    obtain ⟨e, he, z⟩ := List.mem_map.mp (pv.mem_iff.mp hv)
    obtain ⟨k, tk, h1, _⟩ := g e he
    exact ⟨k, tk, by rw [← z]; exact h1⟩
  have pk : (vs.map strOf).Perm l := by
    refine ((pv.map strOf).trans ?_).trans pm
    rw [List.map_map]
    exact List.Perm.of_eq (List.map_congr_left fun e he => by
      obtain ⟨k, tk, h1, _⟩ := g e he
      show strOf e.2 = keyS e
      unfold keyS
      rw [h1]
      rfl)
  have vz : vs.length ≤ sizeLine := by rw [vl, sizeLine_eq]; omega
  refine wpAny_bind (wpAny_newList ?_ vz)
  have atL : (s1.heap.push (seqObj "list" vs.toArray 0)).get? s1.heap.objs.size = some (seqObj "list" vs.toArray 0) := Heap.get?_push_size _ rfl
  refine wpAny_bind (wpAny_holding (wpAny_call_entry slot_list_sort ⟨_, atL, rfl⟩ entry_list_sort (SrtO.list_sort_ord (swo_txt strOf) atL vz (fun h2 => txt_sortable h2 isS) fun out hs hb => ⟨_, rfl, ?_⟩) (args_list_sort _)))
  obtain ⟨c, hcap⟩ := sortedHeap_at (vs := vs) (out := out.toArray) atL
  have ps : (out.map strOf).Perm l := (hb.perm.map strOf).trans pk
  have rs : Rs (out.map strOf) := rs_of_srt (vs := vs) hs (ps.nodup_iff.mpr nd)
  have er : out.map strOf = riseS l := riseS_of rs fun x => ps.mem_iff
  have hn : H s1.heap.objs.size = none := I.hok.fresh hz
  have ol : out.length = l.length := by rw [← vl]; exact hb.perm.length_eq
  have hlen : ((riseS l).map V.str).length ≤ sizeLine := by rw [List.length_map, ← er, List.length_map, ol, sizeLine_eq]; omega
  have vals : Vals ((riseS l).map V.str) out.toArray.toList := by
    rw [← er, List.map_map]
    have key : ∀ L : List Value, (∀ v ∈ L, ∃ x t, v = Value.str x t) → Vals (L.map (V.str ∘ strOf)) L := by
      intro L
      induction L with
      | nil => exact fun _ => .nil
      | cons v L ih =>
        intro k
        obtain ⟨x, t, e⟩ := k v List.mem_cons_self
        subst e
        exact .cons ⟨t, rfl⟩ (ih fun u hu => k u (List.mem_cons_of_mem _ hu))
    exact key out fun v hv => isS v (hb.perm.mem_iff.mp hv)
  have keep : ∀ b u, s.heap.get? b = some u → (sortedHeap (s1.heap.push (seqObj "list" vs.toArray 0)) s1.heap.objs.size vs out.toArray).get? b = some u := fun b u e => by
    have z := k1 b u e
    have lt := Heap.lt_size z
    rw [sortedHeap_old (Nat.ne_of_lt lt) (by rw [size_push']; exact Nat.lt_succ_of_lt lt)]
    exact Heap.get?_push_of_some _ z
  refine wpAny_pure ⟨_, rfl, ?_⟩
  have J : Inv X pins σ (upd H s1.heap.objs.size (.lst ((riseS l).map V.str))) { s with heap := sortedHeap (s1.heap.push (seqObj "list" vs.toArray 0)) s1.heap.objs.size vs out.toArray, gens := s1.gens, drawn := s1.drawn, toks := s1.toks } :=
    I.call (ch := []) (Un.laid keep hz hn) (I.hok.laid keep hz ⟨hlen, _, c, vals, hcap⟩) (by rw [g1]; exact I.bare) (fun _ z => nomatch z)
  have e : ({ s1 with heap := sortedHeap (s1.heap.push (seqObj "list" vs.toArray 0)) s1.heap.objs.size vs out.toArray } : Shared) = { s with heap := sortedHeap (s1.heap.push (seqObj "list" vs.toArray 0)) s1.heap.objs.size vs out.toArray, gens := s1.gens, drawn := s1.drawn, toks := s1.toks } := by
    cases s1
    cases s
    cases o1
    rfl
  exact ⟨.ref s1.heap.objs.size, _, by rw [e]; exact J, rfl, q _ hn⟩
end
end Fc
set_option maxHeartbeats 4000000
/-! What the further defs promise. -/
namespace Fc
open PySem PySem.Spec PyProof.Rows L2
theorem pre_succ (nm : List Nat) (i : Nat) : (List.range (i + 1)).flatMap (fun k => combs k nm) = (List.range i).flatMap (fun k => combs k nm) ++ combs i nm := by
  rw [List.range_succ, List.flatMap_append]
  simp
/-- are_rising_names(names), of names that are -/
def spRisingN (K : PySem.W.Frag) (T : List Addr) : Sp := fun vs H Q _ => ∃ (a : Addr) (xs : List Str), vs = [.ref a] ∧ H a = some (.lst (xs.map V.str)) ∧ (∀ x ∈ xs, isWordM x = true) ∧ Rs xs ∧ xs.length ≤ 200 ∧ Tbs T H ∧ ∀ H', Kp N0 H H' → Q (.bl true) H'
theorem paired_self {α : Type} {F : α → α → Prop} : ∀ {xs : List α}, (∀ x ∈ xs, F x x) → Paired F xs xs
  | [], _ => .nil
  | x :: r, h => .cons (h x (List.mem_cons_self ..)) (paired_self fun y hy => h y (List.mem_cons_of_mem _ hy))
theorem isWord_len {t : Str} (h : isWordM t = true) : t.length ≤ 6 := by
  have e : isWordM t = (decide ((1 : Int) ≤ (t.length : Nat)) && (decide ((t.length : Int) ≤ 6) && t.cps.toList.all (sg abc))) := rfl
  rw [e, Bool.and_eq_true, Bool.and_eq_true] at h
  have z := of_decide_eq_true h.2.1
  omega
theorem drawD_ex {S : Addr → Prop} {H : Hp} {v : V} {h : Str} {l : List Str} (z : Dn S H v (.tuple [.str h, .list (l.map PyData.str)])) : ∃ t a, v = .ref t ∧ ¬ S t ∧ ¬ S a ∧ H t = some (.tup [.str h, .ref a]) ∧ H a = some (.lst (l.map V.str)) := by
  obtain ⟨t, xs, rfl, hs, e, z⟩ := z.tup_ex
  cases z with
  | cons z1 z2 =>
    cases z2 with
    | cons z3 z4 =>
      cases z4
      cases z1
      obtain ⟨a, ys, rfl, hs2, e2, z5⟩ := z3.lst_ex
      have q : ys = l.map V.str := DnA.strs_eq z5
      rw [q] at e2
      exact ⟨t, a, rfl, hs, hs2, e, e2⟩
/-- a cabinet that can be -/
structure GoodC (rs : List Row) (f : Str → List Str) : Prop where
  ok : ∀ h ∈ ruleHeadsM rs, ∀ x ∈ f h, isWordM x = true
  rise : ∀ h ∈ ruleHeadsM rs, Rs (f h)
  few : ∀ h ∈ ruleHeadsM rs, (f h).length ≤ 100
/-- check_cabinet(rule, cabinet), of a cabinet that can be -/
def spCheckCabinet (T : List Addr) : Sp := fun vs H Q _ => ∃ (v u : V) (rs : List Row) (f : Str → List Str), vs = [v, u] ∧ Dn N0 H v (ruleD rs) ∧ rs.length ≤ 50 ∧ Dn N0 H u (drawD (ruleHeadsM rs) f) ∧ GoodC rs f ∧ Tbs T H ∧ ∀ H', Kp N0 H H' → Q .non H'
/-- fewest_slips(rule, marks), its keys each once -/
def spFewestN (T : List Addr) : Sp := fun vs H Q _ => ∃ (v : V) (rs : List Row) (m : Str), vs = [v, .str m] ∧ Dn N0 H v (ruleD rs) ∧ GoodR rs ∧ Tbs T H ∧
  ∀ p kvs H', H p = none → Kp N0 H H' → H' p = some (.dK kvs) → kvs.length ≤ 2304 → (∀ h, valV kvs (.inr h) = intO (slipsM rs m h)) → (∀ q ∈ kvs, ∃ h, q.1 = .inr h) → (kvs.map (·.1)).Nodup → Q (.ref p) H'
theorem slipsM_in {rs : List Row} {m h : Str} {c : Nat} (e : slipsM rs m h = some c) : h ∈ ruleHeadsM rs := by
  unfold slipsM firstC at e
  obtain ⟨sl, hs, _⟩ := Option.map_eq_some_iff.mp e
  have z : decide (mainM rs (afterM m sl) = h) = true := List.find?_some (p := fun sl => decide (mainM rs (afterM m sl) = h)) hs
  rw [← of_decide_eq_true z]
  exact main_in _ _
theorem valV_nd {kvs : List (Key × V)} {q : Key × V} (nd : (kvs.map (·.1)).Nodup) (hq : q ∈ kvs) : valV kvs q.1 = some q.2 := by
  induction kvs with
  | nil => cases hq
  | cons p r ih =>
    obtain ⟨n1, n2⟩ := List.nodup_cons.mp nd
    rcases List.mem_cons.mp hq with z | z
    · subst z
      simp [valV]
    · have ne : ¬ p.1 = q.1 := fun e => n1 (List.mem_map.mpr ⟨q, z, e.symm⟩)
      have i := ih n2 z
      simp [valV, ne] at i ⊢
      exact i
theorem kvs_len {rs : List Row} {m : Str} {kvs : List (Key × V)} (nd : (kvs.map (·.1)).Nodup) (vk : ∀ h, valV kvs (.inr h) = intO (slipsM rs m h)) (kk : ∀ q ∈ kvs, ∃ h, q.1 = .inr h) : kvs.length ≤ rs.length + 1 := by
  have z := nodup_le (m := (ruleHeadsM rs).map (fun h => (Sum.inr h : Key))) nd fun x hx => by
    obtain ⟨q, hq, e⟩ := List.mem_map.mp hx
    obtain ⟨h, eh⟩ := kk q hq
    have v := valV_nd nd hq
    rw [eh, vk h] at v
    cases c : slipsM rs m h with
    | none =>
      rw [c] at v
      cases v
    | some c' =>
      rw [← e, eh]
      exact List.mem_map.mpr ⟨h, slipsM_in c, rfl⟩
  rw [List.length_map, List.length_map] at z
  exact Nat.le_trans z (ruleHeads_len rs)
def pkI (q : Key × V) : I2 := (match q.2 with | .int c => c | _ => 0, match q.1 with | .inr h => h | _ => "")
theorem pkI_is {rs : List Row} {m : Str} {kvs : List (Key × V)} (nd : (kvs.map (·.1)).Nodup) (vk : ∀ h, valV kvs (.inr h) = intO (slipsM rs m h)) (kk : ∀ q ∈ kvs, ∃ h, q.1 = .inr h) {q : Key × V} (hq : q ∈ kvs) : q = (.inr (pkI q).2, V.int (pkI q).1) ∧ ∃ n : Nat, (pkI q).1 = n ∧ slipsM rs m (pkI q).2 = some n := by
  obtain ⟨h, eh⟩ := kk q hq
  have v := valV_nd nd hq
  rw [eh, vk h] at v
  obtain ⟨k, y⟩ := q
  dsimp only at eh v
  subst eh
  cases c : slipsM rs m h with
  | none =>
    rw [c] at v
    cases v
  | some c' =>
    rw [c] at v
    have e : V.int (c' : Nat) = y := Option.some.inj v
    subst e
    exact ⟨rfl, c', rfl, c⟩
/-- looking_order(rule, marks) -/
def orderM (rs : List Row) (m : Str) (out : List Str) : Prop := ∃ ranked : List I2, SrtO.Srtd (fun v u => lexI v u) ranked ∧ (ranked.map (·.2)).Nodup ∧ (∀ c h, (c, h) ∈ ranked ↔ ∃ n : Nat, c = n ∧ slipsM rs m h = some n) ∧
  out = ranked.map (·.2) ++ (ruleHeadsM rs).filter fun h => (slipsM rs m h).isNone
def spLooking (T : List Addr) : Sp := fun vs H Q _ => ∃ (v : V) (rs : List Row) (m : Str), vs = [v, .str m] ∧ Dn N0 H v (ruleD rs) ∧ GoodR rs ∧ Tbs T H ∧ ∀ p out H', H p = none → Kp N0 H H' → orderM rs m out → H' p = some (.lst (out.map V.str)) → Q (.ref p) H'
theorem kp_unlock {H H' : Hp} {d : Addr} {u : HO} {od : Obj} (h : H d = some u) (x : Kp N0 (upd H d (.frz od u)) H') : Kp N0 H (upd H' d u) := fun a o e => by
  by_cases q : a = d
  · subst q
    rw [upd_same]
    rw [h] at e
    exact ⟨u, rfl, .inl (Option.some.inj e)⟩
  · rw [upd_ne q]
    exact x a o (by rw [upd_ne q]; exact e)
theorem order_of {rs : List Row} {m : Str} {kvs : List (Key × V)} {ranked : List I2} (nk : (kvs.map (·.1)).Nodup) (vk : ∀ h, valV kvs (.inr h) = intO (slipsM rs m h)) (kk : ∀ q ∈ kvs, ∃ h, q.1 = .inr h) (pq : ranked.Perm (kvs.map pkI)) (so : SrtO.Srtd (fun v u => lexI v u) ranked) :
    orderM rs m (ranked.map (·.2) ++ (ruleHeadsM rs).filter fun h => (slipsM rs m h).isNone) := by
  refine ⟨ranked, so, ?_, fun c h => ?_, rfl⟩
  · refine (pq.map (·.2)).nodup_iff.mpr ?_
    have e : ((kvs.map pkI).map (·.2)).map (fun h => (Sum.inr h : Key)) = kvs.map (·.1) := by
      rw [List.map_map, List.map_map]
      refine List.map_congr_left fun q hq => ?_
      have z := (pkI_is nk vk kk hq).1
      show Sum.inr (pkI q).2 = q.1
      rw [z]
      rfl
    rw [← e] at nk
    exact (List.pairwise_map.mp nk).imp fun h e => h (by rw [e])
  · refine pq.mem_iff.trans ⟨fun z => ?_, fun ⟨n, e1, e2⟩ => ?_⟩
    · obtain ⟨q, hq, e⟩ := List.mem_map.mp z
      have w := (pkI_is nk vk kk hq).2
      rw [e] at w
      exact w
    · have v := vk h
      rw [e2] at v
      obtain ⟨q, hq, e⟩ := List.mem_map.mp (valV_in v)
      obtain ⟨z1, n', z2, z3⟩ := pkI_is nk vk kk hq
      rw [z1] at e
      have eh : (pkI q).2 = h := Sum.inr.inj e
      rw [eh, e2] at z3
      have en := Option.some.inj z3
      refine List.mem_map.mpr ⟨q, hq, ?_⟩
      exact Prod.ext (by rw [z2, e1, en]) eh
def isSmallM (t : Str) : Bool := !decide (t = "") && t.cps.toList.all (sg abc)
def spIsSmall (T : List Addr) : Sp := fun vs H Q _ => ∃ t : Str, vs = [.str t] ∧ Tbs T H ∧ ∀ H', Kp N0 H H' → Q (.bl (isSmallM t)) H'
theorem isWord_small (t : Str) : isWordM t = (isSmallM t && decide ((t.length : Int) ≤ 6)) := by
  unfold isWordM isSmallM
  have e : decide ((1 : Int) ≤ (t.length : Nat)) = !decide (t = "") := by
    rw [Bool.eq_iff_iff]
    simp only [Bool.not_eq_true', decide_eq_true_eq, decide_eq_false_iff_not]
    constructor
    · intro h z
      subst z
      exact absurd h (by decide)
    · intro h
      have z : t.length ≠ 0 := fun q => h (str_ext (by
        have e : t.cps.toList.length = 0 := by simpa [PySem.Str.length] using q
        rw [List.length_eq_zero_iff.mp e]
        rfl))
      omega
  rw [e]
  cases decide (t = "") <;> cases t.cps.toList.all (sg abc) <;> cases decide ((t.length : Int) ≤ 6) <;> rfl
end Fc
set_option maxHeartbeats 4000000
namespace Fc
open PySem PySem.Spec PyProof.Rows L2
section
variable {P : Program} {w : World} {K : PySem.W.Frag} {mg : Str → Option Value} {base : Heap}
theorem scBegun : FnScope ["_law_script", "_law_stirred", "_law_cell"] ["_law_script"] (defScope sBegun) := ⟨rfl, rfl, rfl, by decide +kernel, rfl, by decide +kernel, by decide +kernel⟩
theorem ok_begun (D : DefAt K mg "_law_begun" sBegun) (gLen : mg "len" = none) (gList : mg "list" = none) (gInt : mg "int" = none) : C8.Cal P w K mg base 1 "_law_begun" (spBegun K) [] := by
  refine cal_mk D scBegun (fun vs H Q E h => ?_) (fun _ _ _ _ _ _ us hl => match us, hl with | [_], _ => rfl) (fun A outer s H vs Q E hr h => ?_)
  · obtain ⟨a, ns, rfl, _⟩ := h
    rfl
  · obtain ⟨a, ns, rfl, hS, hn, k⟩ := h
    refine ⟨_, pss_cons (ps_set (i := 1) scBegun.nd rfl (Or.inl rfl) pe_int) (pss_cons (ps_for PassesOwn.never rfl (pi_list (pv 0)) (pg_name (i := 2) scBegun.nd rfl (Or.inl rfl))
        (pss_one (ps_set (i := 1) scBegun.nd rfl (Or.inl rfl) (pe_op op_mod (pe_op op_add (pe_op op_add (pe_op op_mul (pv 1) pe_int) (pe_op op_mul (pv 2) pe_int)) pe_int) pe_int))))
      (pss_one (ps_ret (pe_lst (pa_cons (pe_callTy call_list_of (by rfl) gList PyProof.Rows.boot_list (pa_cons (pv 0) pa_nil)) (pa_cons (pe_op op_mul (pv 1) (pe_callTy call_int1 (by rfl) gInt PyProof.Rows.boot_int (pa_cons (pe_cmpR op_gt (pe_callB call_len_seq (by rfl) gLen PySem.boot_len (pa_cons (pv 0) pa_nil)) pe_int (nomark _)) pa_nil))) pa_nil)))))), ?_⟩
    refine ⟨_, rfl, a, rfl, ⟨_, hS⟩, for_list (K := K) (a := a) (xs := ns.map V.int) (fun i σ' H' => ∃ (z : Int) (o : Option V), σ' = [some (.ref a), some (.int z), o] ∧ H' = H) ⟨0, none, rfl, rfl⟩ (fun i σ' H' _ ⟨_, _, _, e⟩ => by rw [e]; exact hS) (fun i x σ' H' hx ⟨z, o, e1, e2⟩ => ?_) fun σ' H' ⟨z, o, e1, e2⟩ => ?_⟩
    · subst e1
      subst e2
      obtain ⟨n, rfl⟩ : ∃ n, x = V.int n := by
        rw [List.getElem?_map] at hx
        cases q : ns[i]? with
        | none =>
          rw [q] at hx
          cases hx
        | some n =>
          rw [q] at hx
          exact ⟨n, (Option.some.inj hx).symm⟩
      refine ⟨_, rfl, _, _, rfl, rfl, .inr ⟨by decide, by decide⟩, _, rfl, _, _, rfl, rfl, .inr ⟨by decide, by decide⟩, _, _, rfl, rfl, _, _, rfl, rfl, _, _, rfl, rfl, (by show (0 : Int) < 2147483647; decide), ?_⟩
      exact ⟨_, _, rfl, rfl⟩
    · subst e1
      subst e2
      refine ⟨_, rfl, a, _, rfl, .inl hS, fun l hl => ?_⟩
      have k1 : Kp N0 H' (upd H' l (.lst (ns.map V.int))) := Kp.new hl
      have hS1 : SqL K (upd H' l (.lst (ns.map V.int))) a (ns.map V.int) := by
        rcases hS with (h | ⟨ob, h⟩) | h
        · exact .inl (.inl (k1.obj h ntl nn))
        · exact .inl (.inr ⟨ob, k1.obj h ntf nn⟩)
        · exact .inr h
      refine ⟨_, rfl, _, rfl, a, _, rfl, .inl hS1, _, _, rfl, rfl, .inr ⟨_, rfl, ?_⟩⟩
      refine ⟨_, _, rfl, rfl, .inr ⟨by split <;> decide, by split <;> decide⟩, Nat.le_of_lt (by rw [sizeLine_eq]; exact (by decide : 2 < 16777216)), fun b hb => ?_⟩
      have lb : l ≠ b := fun e => by
        rw [← e, upd_same] at hb
        cases hb
      exact k b l _ (k1.fresh hb) hl ⟨ns, _, upd_same, by rw [upd_ne lb]; exact upd_same, hn⟩ (k1.trans (Kp.new hb))
end
end Fc
set_option maxHeartbeats 4000000
namespace Fc
open PySem PySem.Spec PyProof.Rows L2
section
variable {P : Program} {w : World} {K : PySem.W.Frag} {mg : Str → Option Value} {base : Heap}
theorem scTake : FnScope ["_law_box", "_law_many", "_law_number"] ["_law_box", "_law_many"] (defScope sTake) := ⟨rfl, rfl, rfl, by decide +kernel, rfl, by decide +kernel, by decide +kernel⟩
theorem ok_take (D : DefAt K mg "_law_take" sTake) : C8.Cal P w K mg base 1 "_law_take" spTake [] := by
  refine cal_mk D scTake (fun vs H Q E h => ?_) (fun _ _ _ _ _ _ us hl => match us, hl with | [_, _], _ => rfl) (fun A outer s H vs Q E hr h => ?_)
  · obtain ⟨b, l, many, rfl, _⟩ := h
    rfl
  · obtain ⟨b, l, many, rfl, hB, h0, hM, k⟩ := h
    obtain ⟨ns, z, hb, hl, hn⟩ := id hB
    have ne := hB.ne
    refine ⟨_, pss_cons (ps_if (pt_cmpR (op_eqD (hu64 hr)) (pe_ix ix_list (pv 0) pe_int (fun _ _ => rfl)) (pe_lst pa_nil) (nomark _))
        (pss_cons (ps_asg (pe_op op_mod (pe_op op_mul (pe_ix ix_list (pv 0) pe_int (fun _ _ => rfl)) pe_int) pe_int) (pg_sub (pv 0) pe_int set_list))
          (pss_one (ps_ret (pe_op op_mod (pe_op op_fdiv (pe_ix ix_list (pv 0) pe_int (fun _ _ => rfl)) pe_int) (pv 1))))) pss_nil)
      (pss_cons (ps_set (i := 2) scTake.nd rfl (Or.inl rfl) (pe_ix ix_list (pe_ix ix_list (pv 0) pe_int (fun _ _ => rfl)) pe_int (fun _ _ => rfl)))
      (pss_cons (ps_asg (pe_op op_fdiv (pv 2) (pv 1)) (pg_sub (pe_ix ix_list (pv 0) pe_int (fun _ _ => rfl)) pe_int set_list))
      (pss_cons (ps_if (PW.pt (pw_or (pt_cmpR op_eq (pe_ix ix_list (pe_ix ix_list (pv 0) pe_int (fun _ _ => rfl)) pe_int (fun _ _ => rfl)) pe_int (nomark _)) (pw_or1 (pt_cmpR op_eq (pe_ix ix_list (pe_ix ix_list (pv 0) pe_int (fun _ _ => rfl)) pe_int (fun _ _ => rfl)) (pe_un un_neg pe_int) (nomark _)))))
        (pss_one (ps_expr (pe_bm PySem.F.plainAttrs_list PySem.F.slot_list_pop PySem.F.type_list_pop mt_popAt (pe_ix ix_list (pv 0) pe_int (fun _ _ => rfl)) (pa_cons pe_int pa_nil)))) pss_nil)
      (pss_one (ps_ret (pe_op op_mod (pv 2) (pv 1))))))), ?_⟩
    refine ⟨_, rfl, b, _, 0, _, rfl, rfl, SqL.of hb, rfl, Nat.zero_le _, fun p hp => ?_⟩
    refine ⟨.list (ns.map PyData.int), .list [], .lst (SqL.of ((Kp.new (S := N0) hp).obj hl ntl nn)) (dpI ns), .lst (SqL.of upd_same) .nil, shapedI ns, by decide, ?_⟩
    rw [eqvI_nil]
    have k1 : Kp (sB b l) H (upd H p (.lst [])) := Kp.new hp
    have hb1 : (upd H p (.lst [])) b = some (.lst [.ref l, .int z]) := (Kp.new (S := N0) hp).obj hb ntl nn
    have hl1 : (upd H p (.lst [])) l = some (.lst (ns.map V.int)) := (Kp.new (S := N0) hp).obj hl ntl nn
    have fin : ∀ (x : Int) (z' : Int) (ns' : List Int) (H2 : Hp), ns'.length ≤ 63 → H2 b = some (.lst [.ref l, .int z']) → H2 l = some (.lst (ns'.map V.int)) → Kp (sB b l) H H2 → Q (.int (x % many)) H2 := fun x z' ns' H2 h1 h2 h3 h4 =>
      k _ H2 (Int.emod_nonneg _ (by omega)) (Int.emod_lt_of_pos _ h0) ⟨ns', z', h2, h3, h1⟩ h4
    clear k
    generalize upd H p (.lst []) = H1 at k1 hb1 hl1 ⊢
    cases ns with
    | nil =>
      refine ⟨_, rfl, iteT ?_⟩
      refine ⟨_, rfl, b, _, 1, _, rfl, rfl, SqL.of hb1, rfl, _, _, rfl, rfl, .inr ⟨by decide, by decide⟩, _, _, rfl, rfl, (by show (0 : Int) < 2147483647; decide), _, rfl, b, _, 1, 1, rfl, rfl, hb1, rfl, ?_⟩
      refine ⟨_, rfl, b, _, 1, _, rfl, rfl, SqL.of upd_same, rfl, _, _, rfl, rfl, ⟨by decide, by decide⟩, _, rfl, _, _, rfl, rfl, h0, ?_⟩
      exact fin _ _ [] _ (by simp) upd_same (by rw [upd_ne ne.symm]; exact hl1) (k1.trans (Kp.mutS (.inl rfl) hb1 ntl ntl))
    | cons n r =>
      refine ⟨_, rfl, iteF ?_⟩
      have hlr : r.length ≤ 62 := by rw [List.length_cons] at hn; omega
      refine ⟨_, rfl, b, _, 0, _, rfl, rfl, SqL.of hb1, rfl, l, _, 0, V.int n, rfl, rfl, SqL.of hl1, by simp [atI, ixN], ?_⟩
      refine ⟨_, rfl, _, rfl, _, _, rfl, rfl, ⟨h0, by omega⟩, _, rfl, b, _, 0, _, rfl, rfl, SqL.of hb1, rfl, l, _, 0, 0, rfl, rfl, hl1, by simp [ixN], ?_⟩
      have k2 : Kp (sB b l) H (upd H1 l (.lst (((n :: r).map V.int).set 0 (V.int (n / many))))) := k1.trans (Kp.mutS (.inr rfl) hl1 ntl ntl)
      have hb2 : (upd H1 l (.lst (((n :: r).map V.int).set 0 (V.int (n / many))))) b = some (.lst [.ref l, .int z]) := by rw [upd_ne ne]; exact hb1
      have hl2 : (upd H1 l (.lst (((n :: r).map V.int).set 0 (V.int (n / many))))) l = some (.lst (((n / many) :: r).map V.int)) := upd_same
      generalize upd H1 l (.lst (((n :: r).map V.int).set 0 (V.int (n / many)))) = H2 at k2 hb2 hl2 ⊢
      have at0 : atI (((n / many) :: r).map V.int) 0 = some (V.int (n / many)) := by simp [atI, ixN]
      have more : ∀ H3, H3 b = some (.lst [.ref l, .int z]) → (∃ ns' : List Int, ns'.length ≤ 63 ∧ H3 l = some (.lst (ns'.map V.int))) → Kp (sB b l) H H3 → Q (.int (n % many)) H3 := fun H3 h1 ⟨ns', h2, h3⟩ h4 => fin n z ns' H3 h2 h1 h3 h4
      have popd : ∀ Q2 : VK, Q2 (V.int (n / many)) (upd H2 l (.lst (r.map V.int))) → rPopAt (V.ref l) [V.int 0] H2 Q2 := fun Q2 q => ⟨l, _, 0, 0, _, rfl, rfl, hl2, by decide, by decide, by simp [seqIndex?], rfl, q⟩
      have last : Q (.int (n % many)) (upd H2 l (.lst (r.map V.int))) := more _ (by rw [upd_ne ne]; exact hb2) ⟨r, by omega, upd_same⟩ (k2.trans (Kp.mutS (.inr rfl) hl2 ntl ntl))
      have last0 : Q (.int (n % many)) H2 := more _ hb2 ⟨(n / many) :: r, by rw [List.length_cons]; omega, hl2⟩ k2
      refine ⟨_, rfl, b, _, 0, _, rfl, rfl, SqL.of hb2, rfl, l, _, 0, _, rfl, rfl, SqL.of hl2, at0, rfl, _, rfl, ite2 (fun c => ?_) (fun c => ?_)⟩
      · refine ⟨_, rfl, b, _, 0, _, rfl, rfl, SqL.of hb2, rfl, .inl ⟨rfl, _, SqL.of hl2⟩, popd _ ?_⟩
        exact ⟨_, rfl, _, rfl, _, _, rfl, rfl, h0, last⟩
      · refine ⟨_, rfl, b, _, 0, _, rfl, rfl, SqL.of hb2, rfl, l, _, 0, _, rfl, rfl, SqL.of hl2, at0, _, rfl, rfl, _, rfl, ite2 (fun c => ?_) (fun c => ?_)⟩
        · refine ⟨_, rfl, b, _, 0, _, rfl, rfl, SqL.of hb2, rfl, .inl ⟨rfl, _, SqL.of hl2⟩, popd _ ?_⟩
          exact ⟨_, rfl, _, rfl, _, _, rfl, rfl, h0, last⟩
        · exact ⟨_, rfl, _, rfl, _, _, rfl, rfl, h0, last0⟩
end
end Fc
set_option maxHeartbeats 4000000
namespace Fc
open PySem PySem.Spec PyProof.Rows L2
section
variable {P : Program} {w : World} {K : PySem.W.Frag} {mg : Str → Option Value} {base : Heap}
theorem scMarksL : FnScope ["_law_box", "_law_letters", "_law_often", "_law_letter"] ["_law_box", "_law_letters", "_law_often"] (defScope sMarksL) := ⟨rfl, rfl, rfl, by decide +kernel, rfl, by decide +kernel, by decide +kernel⟩
theorem ok_marksL (D : DefAt K mg "_law_marks" sMarksL) (C : C8.Cal P w K mg base 1 "_law_take" spTake []) : C8.Cal P w K mg base 2 "_law_marks" spMarks [] := by
  refine cal_mk D scMarksL (fun vs H Q E h => ?_) (fun _ _ _ _ _ _ us hl => match us, hl with | [_, _, _], _ => rfl) (fun A outer s H vs Q E hr h => ?_)
  · obtain ⟨b, l, z, often, rfl, _⟩ := h
    rfl
  · obtain ⟨b, l, z, often, rfl, hz, hB, h0, hM, k⟩ := h
    refine ⟨_, pss_one (ps_ret (pe_joinK (K := K) rfl pe_str (pe_lc (own := [("_law_letter", 3)]) (g := gName 3) rfl scMarksL.nd (pi_str (pv 1)) (blkOk_by (N := ["_law_box", "_law_letters", "_law_often", "_law_letter"]) (sc := defScope sMarksL) (by decide +kernel)) (fun _ _ _ _ _ => pg_name (i := 3) scMarksL.nd rfl (Or.inl rfl))
      (fun _ _ _ _ _ => pts_one (pt_cmpR op_eq (C8.pe_c C hr (by decide) rfl (pa_cons (pv 0) (pa_cons (pv 2) pa_nil))) pe_int (nomark _))) (fun _ _ _ _ _ => pv 3)))), ?_⟩
    refine ⟨⟨_, rfl⟩, _, rfl, z, rfl, fun D hD => ?_⟩
    have nD : ¬ sB b l D := fun q => hB.on D q hD
    refine lc_it (walk_str (z := z)) (fun i H' => ∃ out : List Nat, H' D = some (.lst ((out.map fun c => (⟨#[c]⟩ : Str)).map V.str)) ∧ out.Sublist (z.cps.toList.take i) ∧ Box H' b l ∧ Kp (sB b l) H H') ⟨[], upd_same, List.nil_sublist _, hB.upd nD, Kp.new hD⟩ (fun _ _ _ _ => trivial) (fun i x H1 H2 hi ⟨out, hout, hsub, hB1, k1⟩ y => ?_) fun H' ⟨out, hout, hsub, hB1, k1⟩ => ?_
    · obtain ⟨rfl, c, hc, rfl⟩ := y
      have hc2 : z.cps.toList[i]? = some c := by simpa using hc
      obtain ⟨s1, s2⟩ := sub_take hsub hc2
      have small : out.length ≤ 100 := Nat.le_trans (hsub.trans (List.take_sublist _ _)).length_le hz
      refine ⟨rfl, _, rfl, _, rfl, b, l, often, rfl, hB1, h0, hM, fun r H3 r0 r1 hB3 k3 => ⟨rfl, _, rfl, ?_⟩⟩
      have hout3 : H3 D = some (.lst ((out.map fun c => (⟨#[c]⟩ : Str)).map V.str)) := k3.obj hout ntl nD
      refine ite2 (fun _ => ?_) (fun _ => ⟨out, hout3, s2, hB3, k1.trans k3⟩)
      refine ⟨_, rfl, _, hout3, by rw [List.length_map, List.length_map, sizeLine_eq]; omega, out ++ [c], ?_, s1, hB3.upd nD, (k1.trans k3).mut hD⟩
      rw [upd_same, List.map_append, List.map_append]
      rfl
    · have small : out.length ≤ 100 := Nat.le_trans (hsub.trans (List.take_sublist _ _)).length_le hz
      refine ⟨"", D, _, rfl, rfl, .inl (SqL.of hout), ?_, ?_⟩
      · rw [signs_sum, List.length_map]
        show _ + _ * 0 ≤ _
        omega
      · rw [join_signs]
        exact k out H' (hsub.trans (List.take_sublist _ _)) hB1 k1
end
end Fc
set_option maxHeartbeats 4000000
namespace Fc
open PySem PySem.Spec PyProof.Rows L2
section
variable {P : Program} {w : World} {K : PySem.W.Frag} {mg : Str → Option Value} {base : Heap}
theorem scRuleL : FnScope ["_law_box", "_law_most", "_law_heads_here", "_law_letters", "_law_found", "_law_turn", "_law_needs_here", "_law_rest", "_law_letter"] ["_law_box", "_law_most"] (defScope sRuleL) := ⟨rfl, rfl, rfl, by decide +kernel, rfl, by decide +kernel, by decide +kernel⟩
theorem ok_ruleL (D : DefAt K mg "_law_rule" sRuleL) (C1 : C8.Cal P w K mg base 1 "_law_take" spTake []) (C2 : C8.Cal P w K mg base 2 "_law_marks" spMarks []) (gLen : mg "len" = none) (gRange : mg "range" = none) : C8.Cal P w K mg base 3 "_law_rule" spRuleL [] := by
  refine cal_mk D scRuleL (fun vs H Q E h => ?_) (fun _ _ _ _ _ _ us hl => match us, hl with | [_, _], _ => rfl) (fun A outer s H vs Q E hr h => ?_)
  · obtain ⟨b, l, most, rfl, _⟩ := h
    rfl
  · obtain ⟨b, l, most, rfl, m0, m12, hB, k⟩ := h
    refine ⟨_, pss_cons (ps_set (i := 2) scRuleL.nd rfl (Or.inl rfl) (pe_ix ix_list (pe_lst (pa_cons (pe_lst (pa_cons pe_str (pa_cons pe_str (pa_cons pe_str (pa_cons pe_str (pa_cons pe_str (pa_cons pe_str pa_nil))))))) (pa_cons (pe_lst (pa_cons pe_str (pa_cons pe_str (pa_cons pe_str (pa_cons pe_str (pa_cons pe_str (pa_cons pe_str pa_nil))))))) pa_nil))) (C8.pe_c C1 hr (by decide) rfl (pa_cons (pv 0) (pa_cons pe_int pa_nil))) (fun _ _ => rfl)))
      (pss_cons (ps_set (i := 2) scRuleL.nd rfl (Or.inl rfl) (pe_slice sl_list (pv 2) po_none (po_some (pe_op op_add pe_int (C8.pe_c C1 hr (by decide) rfl (pa_cons (pv 0) (pa_cons pe_int pa_nil)))))))
      (pss_cons (ps_set (i := 3) scRuleL.nd rfl (Or.inl rfl) (pe_slice sl_str pe_str po_none (po_some (pe_op op_add pe_int (C8.pe_c C1 hr (by decide) rfl (pa_cons (pv 0) (pa_cons pe_int pa_nil)))))))
      (pss_cons (ps_set (i := 4) scRuleL.nd rfl (Or.inl rfl) (pe_lst pa_nil))
      (pss_cons (ps_for PassesOwn.never rfl (pi_range1 (by rfl) gRange (pa_cons (C8.pe_c C1 hr (by decide) rfl (pa_cons (pv 0) (pa_cons (pe_op op_add (pv 1) pe_int) pa_nil))) pa_nil)) (pg_name (i := 5) scRuleL.nd rfl (Or.inl rfl))
        (pss_cons (ps_set (i := 6) scRuleL.nd rfl (Or.inr rfl) (C8.pe_c C2 hr (by decide) rfl (pa_cons (pv 0) (pa_cons (pv 3) (pa_cons (pe_op op_add pe_int (C8.pe_c C1 hr (by decide) rfl (pa_cons (pv 0) (pa_cons pe_int pa_nil)))) pa_nil)))))
        (pss_cons (ps_set (i := 7) scRuleL.nd rfl (Or.inl rfl) (pe_joinK (K := K) rfl pe_str (pe_lc (own := [("_law_letter", 8)]) (g := gName 8) rfl scRuleL.nd (pi_str (pv 3)) (blkOk_by (N := ["_law_box", "_law_most", "_law_heads_here", "_law_letters", "_law_found", "_law_turn", "_law_needs_here", "_law_rest", "_law_letter"]) (sc := defScope sRuleL) (by decide +kernel)) (fun _ _ _ _ _ => pg_name (i := 8) scRuleL.nd rfl (Or.inl rfl))
          (fun _ _ _ _ _ => pts_one (pt_cmpR op_notIn_sign (pv 8) (pv 6) rfl)) (fun _ _ _ _ _ => pv 8))))
        (pss_one (ps_expr (pe_bm PySem.F.plainAttrs_list PySem.F.slot_list_append PySem.F.type_list_append mt_append (pv 4) (pa_cons (pe_tup (pa_cons (pe_ix ix_list (pv 2) (C8.pe_c C1 hr (by decide) rfl (pa_cons (pv 0) (pa_cons (pe_callB call_len_seq (by rfl) gLen PySem.boot_len (pa_cons (pv 2) pa_nil)) pa_nil))) (fun _ _ => rfl)) (pa_cons (pv 6) (pa_cons (C8.pe_c C2 hr (by decide) rfl (pa_cons (pv 0) (pa_cons (pv 7) (pa_cons (pe_op op_add pe_int (C8.pe_c C1 hr (by decide) rfl (pa_cons (pv 0) (pa_cons pe_int pa_nil)))) pa_nil)))) pa_nil)))) pa_nil)))))))
      (pss_one (ps_ret (pv 4))))))), ?_⟩
    have sz : ∀ n : Nat, n ≤ 100 → n ≤ sizeLine := fun n h => by rw [sizeLine_eq]; omega
    -- the two lists of heads, one of them
    refine ⟨sz 6 (by decide), fun p1 f1 => ⟨sz 6 (by decide), fun p2 f2 => ⟨sz 2 (by decide), fun p3 f3 => ?_⟩⟩⟩
    have kA : Kp N0 H (upd (upd (upd H p1 (.lst (hs1.map V.str))) p2 (.lst (hs2.map V.str))) p3 (.lst [.ref p1, .ref p2])) := (Kp.new f1).trans ((Kp.new f2).trans (Kp.new f3))
    have n12 : p1 ≠ p2 := fun e => by rw [← e, upd_same] at f2; cases f2
    have n13 : p1 ≠ p3 := fun e => by rw [← e, upd_ne n12, upd_same] at f3; cases f3
    have n23 : p2 ≠ p3 := fun e => by rw [← e, upd_same] at f3; cases f3
    refine ⟨_, rfl, b, l, 2, rfl, hB.kp kA, by decide, by decide, fun r H1 r0 r1 hB1 kB => ?_⟩
    have g1 : H p1 = none := f1
    have g2 : H p2 = none := (Kp.new (S := N0) f1).fresh f2
    have g3 : H p3 = none := ((Kp.new (S := N0) f1).trans (Kp.new f2)).fresh f3
    have s1 : ¬ sB b l p1 := fun z => hB.on _ z g1
    have s2 : ¬ sB b l p2 := fun z => hB.on _ z g2
    have s3 : ¬ sB b l p3 := fun z => hB.on _ z g3
    have a1 : H1 p1 = some (.lst (hs1.map V.str)) := kB.obj (by rw [upd_ne n13, upd_ne n12]; exact upd_same) ntl s1
    have a2 : H1 p2 = some (.lst (hs2.map V.str)) := kB.obj (by rw [upd_ne n23]; exact upd_same) ntl s2
    have a3 : H1 p3 = some (.lst [.ref p1, .ref p2]) := kB.obj upd_same ntl s3
    obtain ⟨ph, hs, hhs, hl6, hat, hph⟩ : ∃ (ph : Addr) (hs : List Str), (∀ h ∈ hs, h ∈ hs1 ++ hs2) ∧ hs.length = 6 ∧ atI [V.ref p1, V.ref p2] r = some (.ref ph) ∧ H1 ph = some (.lst (hs.map V.str)) := by
      have c : r = 0 ∨ r = 1 := by omega
      rcases c with rfl | rfl
      · exact ⟨p1, hs1, fun h z => List.mem_append_left _ z, rfl, rfl, a1⟩
      · exact ⟨p2, hs2, fun h z => List.mem_append_right _ z, rfl, rfl, a2⟩
    have k1 : Kp (sB b l) H H1 := kA.up.trans kB
    clear kA kB a1 a2
    refine ⟨p3, _, r, .ref ph, rfl, rfl, SqL.of a3, hat, ?_⟩
    -- some of them
    refine ⟨_, rfl, _, rfl, b, l, 6, rfl, hB1, by decide, by decide, fun r2 H2 q0 q1 hB2 k2 => ⟨_, _, rfl, rfl, 1 + r2, rfl, ph, hs.map V.str, rfl, ?_, fun hh fh => ?_⟩⟩
    · have z : ¬ sB b l ph := fun z => by
        have c := hB1.on _ z
        obtain ⟨ns, x, h1, h2, _⟩ := id hB1
        rcases z with e | e
        · rw [e, h1] at hph
          have q := Option.some.inj hph
          injection q with q
          cases hs with
          | nil => cases hl6
          | cons u v =>
            injection q with q1
            cases q1
        · rw [e, h2] at hph
          have q := Option.some.inj hph
          injection q with q
          cases hs with
          | nil => cases hl6
          | cons u v =>
            cases ns with
            | nil => cases q
            | cons n m =>
              injection q with q1
              cases q1
      exact SqL.of (k2.obj hph ntl z)
    rw [cutV_take _ (by omega), ← List.map_take]
    have hin : ∀ h ∈ hs.take (1 + r2).toNat, h ∈ hs1 ++ hs2 := fun h z => hhs h (List.mem_of_mem_take z)
    have hlt : 1 ≤ (hs.take (1 + r2).toNat).length ∧ (hs.take (1 + r2).toNat).length ≤ 6 := by
      rw [List.length_take, hl6]
      omega
    generalize hs.take (1 + r2).toNat = hd at hin hlt fh ⊢
    have k2' : Kp (sB b l) H H2 := k1.trans k2
    have hh0 : H hh = none := k2'.fresh fh
    have sh : ¬ sB b l hh := fun z => hB.on _ z hh0
    have k3 : Kp (sB b l) H (upd H2 hh (.lst (hd.map V.str))) := k2'.trans (Kp.new fh)
    have hB3 : Box (upd H2 hh (.lst (hd.map V.str))) b l := hB2.upd sh
    have ah : (upd H2 hh (.lst (hd.map V.str))) hh = some (.lst (hd.map V.str)) := upd_same
    generalize upd H2 hh (.lst (hd.map V.str)) = H3 at k3 hB3 ah ⊢
    clear k1 k2 k2' hB1 hB2 hph hat a3
    -- the letters
    refine ⟨_, rfl, b, l, 7, rfl, hB3, by decide, by decide, fun r3 H4 q0 q1 hB4 k4 => ⟨_, _, rfl, rfl, 2 + r3, rfl, a2h, rfl, sz _ (by decide), ?_⟩⟩
    have zl : (cutS a2h none (some (2 + r3))).cps.toList = a2h.cps.toList.take (2 + r3).toNat := cutS_take a2h (by omega)
    have zs : (cutS a2h none (some (2 + r3))).cps.toList.Sublist a2h.cps.toList := by rw [zl]; exact List.take_sublist _ _
    generalize cutS a2h none (some (2 + r3)) = z at zs ⊢
    clear zl
    have zlen : z.cps.toList.length ≤ 8 := zs.length_le
    have ah4 := k4.obj ah ntl sh
    refine ⟨Nat.zero_le _, fun F fF => ?_⟩
    have F0 : H F = none := (k3.trans k4).fresh fF
    have sF : ¬ sB b l F := fun z => hB.on _ z F0
    have hF : hh ≠ F := ne_of_none ah4 fF
    have k5 : Kp (sB b l) H (upd H4 F (.lst [])) := (k3.trans k4).trans (Kp.new fF)
    have hB5 : Box (upd H4 F (.lst [])) b l := hB4.upd sF
    have ah5 : (upd H4 F (.lst [])) hh = some (.lst (hd.map V.str)) := by rw [upd_ne hF]; exact ah4
    have aF5 : (upd H4 F (.lst [])) F = some (.lst []) := upd_same
    generalize upd H4 F (.lst []) = H5 at k5 hB5 ah5 aF5 ⊢
    clear k3 k4 hB3 hB4 ah ah4 fF
    -- the rows
    refine ⟨_, rfl, _, rfl, _, _, rfl, rfl, b, l, most + 1, rfl, hB5, by omega, by omega, fun r4 H6 q2 q3 hB6 k6 => ⟨r4, rfl, by omega, by omega, for_range (fun i σ' H' => ∃ (rs : List Row) (xs : List V) (o5 o6 o7 : Option V), σ' = [some (.ref b), some (.int most), some (.ref hh), some (.str z), some (.ref F), o5, o6, o7, none] ∧
      Box H' b l ∧ Kp (sB b l) H H' ∧ H' hh = some (.lst (hd.map V.str)) ∧ H' F = some (.lst xs) ∧ DnA (sD (sB b l) F) H' xs (rs.map rowD) ∧ rs.length ≤ i ∧ ∀ r ∈ rs, isRowM r = true ∧ r.1 ∈ hd)
      ⟨[], [], none, none, none, rfl, hB6, k5.trans k6, k6.obj ah5 ntl sh, k6.obj aF5 ntl sF, .nil, Nat.le_refl _, fun r z => nomatch z⟩ (fun i σ' H' hi ⟨rs, xs, o5, o6, o7, es, hB', k', ah', aF', dn, ln, ok⟩ => ?_) fun σ' H' ⟨rs, xs, o5, o6, o7, es, hB', k', ah', aF', dn, ln, ok⟩ => ?_⟩⟩
    · subst es
      refine ⟨_, rfl, _, rfl, _, rfl, b, l, 3, rfl, hB', by decide, by decide, fun r5 H7 q4 q5 hB7 k7 => ⟨_, _, rfl, rfl, b, l, z, 3 + r5, rfl, by omega, hB7, by omega, by omega, fun m1 H8 sub1 hB8 k8 => ?_⟩⟩
      refine ⟨⟨_, rfl⟩, _, rfl, z, rfl, fun G fG => lc_txt (fun c => !sg (oS m1) c) (fun c => PyData.str ⟨#[c]⟩) N0 (fun _ z => z.elim) fG (by omega) (fun _ => rfl) (fun c H9 _ k9 Q2 q => ?_) (fun c H9 _ _ k9 S' _ _ Q2 q => ?_) fun H10 out k10 hout hdn => ?_⟩
      · exact ⟨_, rfl, _, rfl, c, oS m1, rfl, rfl, _, rfl, q H9 Kp.refl⟩
      · exact ⟨_, rfl, q _ H9 Kp.refl (.str _)⟩
      rw [signs_map] at hdn
      have eo := hdn.strs_eq
      subst eo
      have small : (z.cps.toList.filter fun c => !sg (oS m1) c).length ≤ 8 := Nat.le_trans (List.length_filter_le _ _) zlen
      refine ⟨"", G, _, rfl, rfl, .inl (SqL.of hout), ?_, ?_⟩
      · rw [signs_sum, List.length_map]
        show _ + _ * 0 ≤ _
        omega
      rw [join_signs]
      have k11 : Kp (sB b l) H' H10 := k7.trans (k8.trans k10.up)
      have hB10 : Box H10 b l := hB8.kp k10
      have ah10 := k11.obj ah' ntl sh
      have aF10 := k11.obj aF' ntl sF
      refine ⟨_, rfl, .inl ⟨rfl, _, SqL.of aF10⟩, _, rfl, _, rfl, ⟨_, rfl, hh, _, rfl, .inl (SqL.of ah10), b, l, _, rfl, hB10, by rw [List.length_map]; omega, by rw [List.length_map]; omega, fun r6 H11 q6 q7 hB11 k12 => ?_⟩⟩
      rw [List.length_map] at q7
      have hi6 : r6.toNat < hd.length := by omega
      have hat6 : (hd.map V.str)[r6.toNat]? = some (V.str hd[r6.toNat]) := by simp [hi6]
      have hin6 : hd[r6.toNat] ∈ hd := List.getElem_mem hi6
      refine ⟨hh, _, r6, V.str hd[r6.toNat], rfl, rfl, SqL.of (k12.obj ah10 ntl sh), at_of (by omega) hat6, ?_⟩
      refine ⟨_, rfl, _, rfl, _, rfl, _, rfl, b, l, 3, rfl, hB11, by decide, by decide, fun r7 H12 q8 q9 hB12 k13 => ⟨_, _, rfl, rfl, b, l, _, 4 + r7, rfl, by rw [oS_cps]; omega, hB12, by omega, by omega, fun m2 H13 sub2 hB13 k14 => ?_⟩⟩
      rw [oS_cps] at sub2
      have k15 : Kp (sB b l) H' H13 := k11.trans (k12.trans (k13.trans k14))
      refine ⟨Nat.le_of_lt (by rw [sizeLine_eq]; exact (by decide : 3 < 16777216)), fun U fU => ?_⟩
      have kU : Kp (sB b l) H' (upd H13 U (.tup [V.str hd[r6.toNat], V.str (oS m1), V.str (oS m2)])) := k15.trans (Kp.new fU)
      have aU : (upd H13 U (.tup [V.str hd[r6.toNat], V.str (oS m1), V.str (oS m2)])) U = some (.tup [V.str hd[r6.toNat], V.str (oS m1), V.str (oS m2)]) := upd_same
      have U0 : H' U = none := k15.fresh fU
      have hBU := hB13.upd (o := .tup [V.str hd[r6.toNat], V.str (oS m1), V.str (oS m2)]) (p := U) fun z => hB'.on _ z U0
      generalize upd H13 U (.tup [V.str hd[r6.toNat], V.str (oS m1), V.str (oS m2)]) = H14 at kU aU hBU ⊢
      have aF14 := kU.obj aF' ntl sF
      have UF : U ≠ F := fun e => by rw [e, aF'] at U0; cases U0
      have xl : xs.length = rs.length := by rw [dn.len, List.length_map]
      refine ⟨F, xs, _, rfl, rfl, aF14, by rw [sizeLine_eq]; omega, ?_⟩
      have kF : Kp (sD (sB b l) F) H' (upd H14 F (.lst (xs ++ [.ref U]))) := (kU.mono fun a z => .inl z).trans (Kp.mutS (.inr rfl) aF14 ntl ntl)
      have aU2 : (upd H14 F (.lst (xs ++ [.ref U]))) U = some (.tup [V.str hd[r6.toNat], V.str (oS m1), V.str (oS m2)]) := by rw [upd_ne UF]; exact aU
      refine ⟨rs ++ [(hd[r6.toNat], oS m1, oS m2)], xs ++ [.ref U], _, _, _, rfl, hBU.upd sF, (k'.trans kU).mut F0, by rw [upd_ne hF]; exact kU.obj ah' ntl sh, upd_same, ?_, by rw [List.length_append]; exact Nat.succ_le_succ ln, fun r z => ?_⟩
      · rw [List.map_append]
        refine (dn.kp kF).app (.one (.tup (fun z => z.elim (fun q => hB'.on _ q U0) UF) aU2 (DnA.strs [hd[r6.toNat], oS m1, oS m2])))
      · rcases List.mem_append.mp z with q | q
        · exact ok r q
        · rw [List.mem_singleton.mp q]
          exact ⟨row_ok (hin _ hin6) (sub1.trans zs) (sub2.trans ((zs.filter _).trans (by
            have e : (fun c => !sg (oS m1) c) = fun c => !decide (c ∈ m1) := funext fun c => by unfold sg; rw [oS_cps]
            rw [e]
            exact List.Sublist.refl _))), hin6⟩
    · subst es
      exact ⟨_, rfl, k rs F H' ⟨by omega, fun r z => (ok r z).1, hd, hlt.2, fun r z => (ok r z).2⟩ (by omega) F0 hB' k' (.lst sF aF' (dn.weak fun a z => .inl z))⟩
end
end Fc
set_option maxHeartbeats 4000000
namespace Fc
open PySem PySem.Spec PyProof.Rows L2
section
variable {P : Program} {w : World} {K : PySem.W.Frag} {mg : Str → Option Value} {base : Heap}
theorem scPapersL : FnScope ["_law_box", "_law_most", "_law_names", "_law_found", "_law_turn", "_law_marks_here"] ["_law_box", "_law_most"] (defScope sPapersL) := ⟨rfl, rfl, rfl, by decide +kernel, rfl, by decide +kernel, by decide +kernel⟩
theorem ok_papersL (D : DefAt K mg "_law_papers" sPapersL) (C1 : C8.Cal P w K mg base 1 "_law_take" spTake []) (C2 : C8.Cal P w K mg base 2 "_law_marks" spMarks []) (gLen : mg "len" = none) (gRange : mg "range" = none) : C8.Cal P w K mg base 3 "_law_papers" spPapersL [] := by
  refine cal_mk D scPapersL (fun vs H Q E h => ?_) (fun _ _ _ _ _ _ us hl => match us, hl with | [_, _], _ => rfl) (fun A outer s H vs Q E hr h => ?_)
  · obtain ⟨b, l, most, rfl, _⟩ := h
    rfl
  · obtain ⟨b, l, most, rfl, m0, m12, hB, k⟩ := h
    refine ⟨_, pss_cons (ps_set (i := 2) scPapersL.nd rfl (Or.inl rfl) (pe_lst (pa_cons pe_str (pa_cons pe_str (pa_cons pe_str (pa_cons pe_str (pa_cons pe_str (pa_cons pe_str (pa_cons pe_str (pa_cons pe_str (pa_cons pe_str (pa_cons pe_str (pa_cons pe_str (pa_cons pe_str pa_nil))))))))))))))
      (pss_cons (ps_set (i := 3) scPapersL.nd rfl (Or.inl rfl) (pe_lst pa_nil))
      (pss_cons (ps_for PassesOwn.never rfl (pi_range1 (by rfl) gRange (pa_cons (C8.pe_c C1 hr (by decide) rfl (pa_cons (pv 0) (pa_cons (pe_op op_add (pv 1) pe_int) pa_nil))) pa_nil)) (pg_name (i := 4) scPapersL.nd rfl (Or.inl rfl))
        (pss_cons (ps_set (i := 5) scPapersL.nd rfl (Or.inl rfl) (C8.pe_c C2 hr (by decide) rfl (pa_cons (pv 0) (pa_cons pe_str (pa_cons (pe_op op_add pe_int (C8.pe_c C1 hr (by decide) rfl (pa_cons (pv 0) (pa_cons pe_int pa_nil)))) pa_nil)))))
        (pss_one (ps_expr (pe_bm PySem.F.plainAttrs_list PySem.F.slot_list_append PySem.F.type_list_append mt_append (pv 3) (pa_cons (pe_tup (pa_cons (pe_bm PySem.F.plainAttrs_list PySem.F.slot_list_pop PySem.F.type_list_pop mt_popAt (pv 2) (pa_cons (C8.pe_c C1 hr (by decide) rfl (pa_cons (pv 0) (pa_cons (pe_callB call_len_seq (by rfl) gLen PySem.boot_len (pa_cons (pv 2) pa_nil)) pa_nil))) pa_nil)) (pa_cons (pv 5) pa_nil))) pa_nil))))))
      (pss_one (ps_ret (pv 3))))), ?_⟩
    have sz : ∀ n : Nat, n ≤ 100 → n ≤ sizeLine := fun n h => by rw [sizeLine_eq]; omega
    refine ⟨sz 12 (by decide), fun L fL => ?_⟩
    have kL : Kp (sB b l) H (upd H L (.lst (nm0.map V.str))) := Kp.new fL
    have sL : ¬ sB b l L := fun z => hB.on _ z fL
    have hB0 : Box (upd H L (.lst (nm0.map V.str))) b l := hB.upd sL
    have aL0 : (upd H L (.lst (nm0.map V.str))) L = some (.lst (nm0.map V.str)) := upd_same
    unfold nm0 at kL hB0 aL0
    simp only [List.map_cons, List.map_nil] at kL hB0 aL0
    generalize upd H L _ = H0 at kL hB0 aL0 ⊢
    have aL1 : H0 L = some (.lst (nm0.map V.str)) := aL0
    refine ⟨Nat.zero_le _, fun F fF => ?_⟩
    have F0 : H F = none := kL.fresh fF
    have FL : L ≠ F := ne_of_none aL1 fF
    have sF : ¬ sB b l F := fun z => hB.on _ z F0
    have hB1 : Box (upd H0 F (.lst [])) b l := hB0.upd sF
    have k1 : Kp (sB b l) H (upd H0 F (.lst [])) := kL.trans (Kp.new fF)
    have aL : (upd H0 F (.lst [])) L = some (.lst (nm0.map V.str)) := by rw [upd_ne FL]; exact aL1
    have aF : (upd H0 F (.lst [])) F = some (.lst []) := upd_same
    generalize upd H0 F (.lst []) = H1 at hB1 k1 aL aF ⊢
    clear kL hB0 aL0 aL1 fF
    refine ⟨_, rfl, _, rfl, _, _, rfl, rfl, b, l, most + 1, rfl, hB1, by omega, by omega, fun r H2 r0 r1 hB2 k2 => ⟨r, rfl, by omega, by omega, for_range (fun i σ' H' => ∃ (ps : List P2) (xs : List V) (ns : List Str) (o4 o5 : Option V), σ' = [some (.ref b), some (.int most), some (.ref L), some (.ref F), o4, o5] ∧
      Box H' b l ∧ Kp (sB b l) H H' ∧ H' L = some (.lst (ns.map V.str)) ∧ H' F = some (.lst xs) ∧ DnA (sPL b l F L) H' xs (ps.map paperD) ∧ ps.length = i ∧ ns.length + i = 12 ∧ (ps.map (·.1) ++ ns).Perm nm0 ∧ ∀ p ∈ ps, isMarksM p.2 = true)
      ⟨[], [], nm0, none, none, rfl, hB2, k1.trans k2, k2.obj aL ntl sL, k2.obj aF ntl sF, .nil, rfl, rfl, List.Perm.refl _, fun p z => nomatch z⟩ (fun i σ' H' hi ⟨ps, xs, ns, o4, o5, es, hB', k', aL', aF', dn, lp, ln, pm, ok⟩ => ?_) fun σ' H' ⟨ps, xs, ns, o4, o5, es, hB', k', aL', aF', dn, lp, ln, pm, ok⟩ => ?_⟩⟩
    · subst es
      have hi12 : i < 12 := by omega
      have ev : a2h.cps.toList.length ≤ 100 := by decide
      refine ⟨_, rfl, _, rfl, b, l, 2, rfl, hB', by decide, by decide, fun r5 H7 q4 q5 hB7 k7 => ⟨_, _, rfl, rfl, b, l, a2h, 2 + r5, rfl, ev, hB7, by omega, by omega, fun m1 H8 sub1 hB8 k8 => ?_⟩⟩
      have k78 : Kp (sB b l) H' H8 := k7.trans k8
      have aL8 := k78.obj aL' ntl sL
      refine ⟨_, rfl, .inl ⟨rfl, _, SqL.of (k78.obj aF' ntl sF)⟩, _, rfl, .inl ⟨rfl, _, SqL.of aL8⟩, _, rfl, _, rfl, L, _, rfl, .inl (SqL.of aL8), b, l, _, rfl, hB8, by rw [List.length_map]; omega, by rw [List.length_map]; omega, fun r6 H9 q6 q7 hB9 k9 => ?_⟩
      rw [List.length_map] at q7
      have aL9 := k9.obj aL8 ntl sL
      have hj : r6.toNat < ns.length := by omega
      have hat : ns[r6.toNat]? = some ns[r6.toNat] := List.getElem?_eq_getElem hj
      have pl := perm_less hat
      generalize ns[r6.toNat] = nm at hat pl
      refine ⟨L, _, r6, r6.toNat, .str nm, rfl, rfl, aL9, by omega, by omega, ?_, by rw [List.getElem?_map, hat]; rfl, ?_⟩
      · rw [List.length_map]
        exact ix_in q6 (by omega)
      rw [map_less]
      have kM : Kp (sPL b l F L) H' (upd H9 L (.lst ((ns.eraseIdx r6.toNat).map V.str))) := ((k78.trans k9).mono fun a z => .inl z).trans (Kp.mutS (.inr (.inr rfl)) aL9 ntl ntl)
      have kM0 : Kp (sB b l) H (upd H9 L (.lst ((ns.eraseIdx r6.toNat).map V.str))) := (k'.trans (k78.trans k9)).mut fL
      have aLM : (upd H9 L (.lst ((ns.eraseIdx r6.toNat).map V.str))) L = some (.lst ((ns.eraseIdx r6.toNat).map V.str)) := upd_same
      have aFM : (upd H9 L (.lst ((ns.eraseIdx r6.toNat).map V.str))) F = some (.lst xs) := by
        rw [upd_ne FL.symm]
        exact (k78.trans k9).obj aF' ntl sF
      have hBM := hB9.upd (o := .lst ((ns.eraseIdx r6.toNat).map V.str)) sL
      have el : (ns.eraseIdx r6.toNat).length + (i + 1) = 12 := by
        have z := pl.length_eq
        rw [List.length_cons] at z
        omega
      generalize ns.eraseIdx r6.toNat = ns2 at pl kM kM0 aLM aFM hBM el ⊢
      generalize upd H9 L (.lst (ns2.map V.str)) = HM at kM kM0 aLM aFM hBM ⊢
      refine ⟨_, rfl, sz 2 (by decide), fun U fU => ?_⟩
      have kU : Kp (sPL b l F L) H' (upd HM U (.tup [V.str nm, V.str (oS m1)])) := kM.trans (Kp.new fU)
      have kU0 : Kp (sB b l) H (upd HM U (.tup [V.str nm, V.str (oS m1)])) := kM0.trans (Kp.new fU)
      have U0 : H' U = none := kM.fresh fU
      have UF : U ≠ F := fun e => by rw [e, aFM] at fU; cases fU
      have UL : U ≠ L := fun e => by rw [e, aLM] at fU; cases fU
      have sU : ¬ sB b l U := fun z => hB'.on _ z U0
      have hBU := hBM.upd (o := .tup [V.str nm, V.str (oS m1)]) sU
      have aFU : (upd HM U (.tup [V.str nm, V.str (oS m1)])) F = some (.lst xs) := by rw [upd_ne UF.symm]; exact aFM
      have aLU : (upd HM U (.tup [V.str nm, V.str (oS m1)])) L = some (.lst (ns2.map V.str)) := by rw [upd_ne UL.symm]; exact aLM
      have aU : (upd HM U (.tup [V.str nm, V.str (oS m1)])) U = some (.tup [V.str nm, V.str (oS m1)]) := upd_same
      generalize upd HM U (.tup [V.str nm, V.str (oS m1)]) = HU at kU kU0 hBU aFU aLU aU ⊢
      have xl : xs.length = ps.length := by rw [dn.len, List.length_map]
      refine ⟨F, xs, _, rfl, rfl, aFU, by rw [sizeLine_eq]; omega, ?_⟩
      have kF : Kp (sPL b l F L) H' (upd HU F (.lst (xs ++ [.ref U]))) := kU.trans (Kp.mutS (.inr (.inl rfl)) aFU ntl ntl)
      refine ⟨ps ++ [(nm, oS m1)], xs ++ [.ref U], ns2, _, _, rfl, hBU.upd sF, kU0.mut F0, by rw [upd_ne FL]; exact aLU, upd_same, ?_, by rw [List.length_append, lp]; rfl, el, ?_, fun p z => ?_⟩
      · rw [List.map_append]
        exact (dn.kp kF).app (.one (.tup (fun z => z.elim sU fun z => z.elim UF UL) (by rw [upd_ne UF]; exact aU) (DnA.strs [nm, oS m1])))
      · rw [List.map_append, List.append_assoc]
        exact (List.Perm.append_left _ pl).trans pm
      · rcases List.mem_append.mp z with q | q
        · exact ok p q
        · rw [List.mem_singleton.mp q]
          exact decide_eq_true (marks_of sub1)
    · subst es
      have nd := pm.nodup_iff.mpr nm0_ok.2
      exact ⟨_, rfl, k ps F H' ⟨by omega, fun p hp => ⟨nm0_ok.1 _ (pm.mem_iff.mp (List.mem_append_left _ (List.mem_map.mpr ⟨p, hp, rfl⟩))), ok p hp⟩, (List.nodup_append.mp nd).1⟩ (fun p hp => pm.mem_iff.mp (List.mem_append_left _ (List.mem_map.mpr ⟨p, hp, rfl⟩))) (by omega) F0 hB' k' (.lst sF aF' (dn.weak fun a z => .inl z))⟩
end
end Fc
set_option maxHeartbeats 8000000
/-! set(list): what its loop does is told once for all. -/
namespace Fc
open PySem PySem.Spec PyProof.Rows L2
def newSet (w : World) : Obj := { cls := .type "set", dict := none, data := .set #[] 0 (.fresh 0 0 (!w.params.followText "set-order")) }
section
variable {P : Program} {w : World} {A : Around} {E : Value → Shared → Prop} {s : Shared}
/-- where set.update's loop begins -/
def loopSt (w : World) (s : Shared) (l : Addr) : Shared := { s with heap := (s.heap.push (newSet w)).push { cls := .type "list_iterator", data := .fields #[.ref l, .int 0 0] } }
def LoopEnd (s : Shared) (PH : Heap → Prop) (s' : Shared) : Prop := ∃ h' tk, s' = { s with heap := h', toks := tk } ∧ PH h' ∧ ∀ b o, b < s.heap.objs.size → s.heap.get? b = some o → h'.get? b = some o
theorem set_by_loop {l : Addr} {items : Array Value} {Q : Value → Shared → Prop} (PH : Heap → Prop) (hl : s.heap.IsList l items)
    (hloop : ∀ R : Result → Shared → Prop, (∀ s', LoopEnd s PH s' → R (.ok (.ret .none)) s') → codeAny (model P w) A.in1.in1 (.builtin "set.update.loop" ⟨[.ref s.heap.objs.size, .ref (s.heap.push (newSet w)).objs.size], []⟩) R (loopSt w s l))
    (h : ∀ s', LoopEnd s PH s' → Q (.ref s.heap.objs.size) s') : wpAny (model P w) A (call (.type "set") [.ref l]) Q E s := by
  obtain ⟨c, tl, hmro⟩ := PySem.F.called_set.mro; have hmade := PySem.F.called_set.made; have hsub := PySem.F.called_set.sub
  refine wpAny_call (codeAny_of_tree (show wpAny _ _ (callAny (.type "set") _) _ _ _ from wpAny_pure ⟨Code.quiet_builtin _ (by decide +kernel), codeAny_builtin PySem.F.entry_type_call ?_⟩))
  rw [Around.under_plain (weight_type_call_type "set" [.ref l] []) rfl]
  have h1 := PySem.F.called_set.notType; have h2 := PySem.F.called_set.canCreate; have hct := PySem.F.typeCall_set_1 (.ref l)
  repeat (any_goals (first | assumption | wp_step))
  refine codeAny_mono (new_set1 (.ref l) (E := E) (Q1 := fun ob s1 => ob = .ref s.heap.objs.size ∧ s1 = { s with heap := s.heap.push (newSet w) }) ⟨rfl, rfl⟩) fun r s1 hr => ?_
  cases r with
  | error e => exact hr
  | ok fl =>
    cases fl with
    | ret ob =>
      obtain ⟨rfl, rfl⟩ := hr
      generalize hso : newSet w = so
      have hcl : so.cls = .type "set" := by rw [← hso]; rfl
      have atS : (s.heap.push so).get? s.heap.objs.size = some so := Heap.get?_push_size _ (by rw [← hso]; rfl)
      have hT : Shared.TypeIs { s with heap := s.heap.push so } (.ref s.heap.objs.size) "set" := ⟨_, atS, hcl⟩
      have hli := PySem.F.called_set.init.lookup; have hbi := PySem.F.called_set.init.bind (.ref s.heap.objs.size)
      repeat (any_goals (first | assumption | wp_step))
      refine codeAny_mono (codeAny_call_builtin (R := wants (fun r s2 => r = .none ∧ LoopEnd s PH s2) E) PySem.F.called_set.init.plain PySem.F.entry_set_init (check_set_init_1 hT ?_)) fun r2 s2 hr2 => ?_
      · subst hso
        obtain ⟨ol, hol, hcl2, nl, hdl⟩ := hl
        obtain ⟨ocls, odict, odata, oslots⟩ := ol
        simp only at hcl2 hdl; subst hcl2; subst hdl
        have hol' : (s.heap.push (newSet w)).get? l = some { cls := .type "list", dict := odict, data := .seq items nl, slots := oslots } := Heap.get?_push_of_some _ hol
        have hsls := PySem.F.sub_list_set; have hslf := PySem.F.sub_list_frozenset; have hne : (Value.type "list" == Value.type "dict") = false := by decide
        have hl1 : (s.heap.push (newSet w)).IsList l items := ⟨_, hol', rfl, nl, rfl⟩
        unfold Builtin.«set.__init__» noKeywords Builtin.Frozenset.updateFrom; generalize hPI : pyIter = PI; wp_walk; subst hPI
        refine wpAny_pyIter_list hl1 ?_; refine wpAny_bind (wpAny_runValue ?_)
        exact hloop _ fun s' q => wpAny_pure (wpAny_pure ⟨rfl, q⟩)
      · cases r2 with
        | error e => exact hr2
        | ok fl2 =>
          cases fl2 with
          | ret r =>
            obtain ⟨rfl, q⟩ := hr2
            obtain ⟨h', tk, rfl, ph, kp⟩ := q
            repeat (any_goals (first | assumption | wp_step))
            exact h _ ⟨h', tk, rfl, ph, kp⟩
          | _ => exact hr2.elim
    | _ => exact hr.elim
end
end Fc
set_option maxHeartbeats 8000000
/-! Sets of tuples of texts: the table's search and what is put in. -/
namespace Fc
open PySem PySem.Spec PyProof.Rows L2
/-- a tuple of texts and where it lies -/
abbrev TxA := Addr × List Str
abbrev txH (P : Program) (w : World) (k : List Str) : Int := tupleKeyHash (PySem.strKind P w) k
abbrev Txt (P : Program) (w : World) (h : Heap) (k : List Str) (b : Addr) : Prop := IsTupleKey (PySem.strKind P w) h k b
def entT (P : Program) (w : World) (p : TxA) : Int × Value := (txH P w p.2, Value.ref p.1)
section
variable {P : Program} {w : World} {A : Around} {E : Value → Shared → Prop} {s : Shared}
theorem txt_items {k : List Str} {vs : List Value} (h : ItemsAre (PySem.strKind P w) k vs) : ∀ v ∈ vs, ∃ x t, v = Value.str x t := by
  induction h with
  | nil => exact fun v hv => nomatch hv
  | cons h1 _ ih =>
    exact fun v hv => (List.mem_cons.mp hv).elim (fun e => by
      obtain ⟨t, z⟩ := Value.isStrOf_shape h1
      exact ⟨_, t, e.trans z⟩) (ih v)
theorem noClass_str (n : Nat) (x : Str) (t : Tok) : ofAClassStatement n (.str x t) = pure false := by cases n <;> rfl
theorem byHash_str (n : Nat) (x : Str) (t : Tok) : hashByValue n (.str x t) = pure false := by cases n <;> rfl
/-- a walk over the items of a tuple of texts that may leave with a word -/
theorem txt_walk {α : Type} {items : Array Value} (hi : ∀ v ∈ items.toList, ∃ x t, v = Value.str x t) (D : Option α × Unit → Prop) {f : Value → Option α × Unit → Sem (ForInStep (Option α × Unit))}
    (hf : ∀ x t s', ∀ Q : ForInStep (Option α × Unit) → Shared → Prop, ((∀ r, D r → Q (.done r) s') ∧ Q (.yield (none, ())) s') → wpAny (model P w) A (f (.str x t) (none, ())) Q E s')
    {Q : Option α × Unit → Shared → Prop} (h : ∀ r, D r ∨ r = (none, ()) → Q r s) : wpAny (model P w) A (forIn items (none, ()) f) Q E s := by
  rw [← Array.forIn_toList]
  refine wpAny_forIn_list _ (fun left r s' => s' = s ∧ r = (none, ()) ∧ ∀ v ∈ left, ∃ x t, v = Value.str x t) _ ?_ ?_ _ _ ⟨rfl, rfl, hi⟩
  · rintro v left r s' ⟨rfl, rfl, al⟩
    obtain ⟨x, t, rfl⟩ := al v List.mem_cons_self
    exact hf x t _ _ ⟨fun r d => h r (.inl d), rfl, rfl, fun u hu => al u (List.mem_cons_of_mem _ hu)⟩
  · rintro r s' ⟨rfl, rfl, _⟩
    exact h _ (.inr rfl)
theorem noClass_tx {k : List Str} {b : Addr} {Q : Bool → Shared → Prop} (hk : Txt P w s.heap k b) (h : Q false s) : wpAny (model P w) A (ofAClassStatement 8 (.ref b)) Q E s := by
  have ty := hk.typeIs
  obtain ⟨o, its, n, ho, _, hd, hi⟩ := hk
  unfold ofAClassStatement
  refine wpAny_bind (wpAny_typeOf ty ?_)
  dsimp only
  simp only [show (("tuple" : String) == "tuple") = true from by decide, if_true, Bool.not_true, Bool.false_eq_true, if_false]
  show wpAny _ _ (seqItems? (.ref b) >>= _) _ _ s
  refine wpAny_bind (wpAny_seqItems ho hd (wpAny_bind (txt_walk (txt_items hi) (fun _ => False) (fun x t s' Q' q => ?_) fun r hr => ?_)))
  · rw [noClass_str]
    refine wpAny_bind (wpAny_pure ?_)
    simp only [Bool.false_eq_true, if_false]
    exact wpAny_pure q.2
  · rcases hr with hr | rfl
    · exact hr.elim
    · exact wpAny_pure h
theorem byHash_tx {k : List Str} {b : Addr} {Q : Bool → Shared → Prop} (hk : Txt P w s.heap k b) (h : ∀ b, Q b s) : wpAny (model P w) A (hashByValue 8 (.ref b)) Q E s := by
  have ty := hk.typeIs
  obtain ⟨o, its, n, ho, _, hd, hi⟩ := hk
  unfold hashByValue
  refine wpAny_bind (wpAny_specialOf ty PySem.F.slot_tuple_hash.lookup ?_)
  show wpAny _ _ (seqItems? (.ref b) >>= _) _ _ s
  refine wpAny_bind (wpAny_seqItems ho hd (wpAny_bind (txt_walk (txt_items hi) (fun _ => True) (fun x t s' Q' q => ?_) fun r hr => ?_)))
  · rw [byHash_str]
    refine wpAny_bind (wpAny_pure ?_)
    simp only [Bool.not_false, if_true]
    exact wpAny_pure (q.1 _ trivial)
  · obtain ⟨r1, r2⟩ := r
    cases r1 with
    | none => exact wpAny_pure (h _)
    | some b => exact wpAny_pure (h _)
/-- nothing is seen of a search among such tuples -/
theorem unseen_tx {k : List Str} {b : Addr} {Q : Bool → Shared → Prop} (hk : Txt P w s.heap k b) {ys : List Value} (hy : ∀ y ∈ ys, ∃ k' c, y = Value.ref c ∧ Txt P w s.heap k' c) (h : Q false s) : wpAny (model P w) A (searchCouldBeSeen (.ref b) ys) Q E s := by
  unfold searchCouldBeSeen
  refine wpAny_bind (wpAny_forIn_list _ (fun left r s' => r.1 = none ∧ s' = s ∧ ∀ y ∈ left, ∃ k' c, y = Value.ref c ∧ Txt P w s.heap k' c) _ ?_ ?_ _ _ ⟨rfl, rfl, hy⟩)
  · rintro v left r s' ⟨hr, rfl, al⟩
    obtain ⟨k', c, rfl, hc⟩ := al v List.mem_cons_self
    have go : r.1 = none ∧ s' = s' ∧ ∀ y ∈ left, ∃ k' c, y = Value.ref c ∧ Txt P w s'.heap k' c := ⟨hr, rfl, fun u hu => al u (List.mem_cons_of_mem _ hu)⟩
    dsimp only
    by_cases hv : (b == c || (carriedByValue (.ref b) && carriedByValue (.ref c))) = true
    · exact wp_if_pos hv (wpAny_pure ⟨rfl, rfl, go.2.2⟩)
    · refine wp_if_neg hv (wpAny_bind (wpAny_eqIsQuiet_tuple hk ?_))
      simp only [Bool.not_true, Bool.false_eq_true, if_false]
      refine wpAny_bind (wpAny_eqIsQuiet_tuple hc ?_)
      simp only [Bool.not_true, Bool.false_eq_true, if_false]
      refine wpAny_bind (noClass_tx hk ?_)
      simp only [Bool.false_eq_true, if_false]
      refine wpAny_bind (noClass_tx hc ?_)
      simp only [Bool.false_eq_true, if_false]
      exact wpAny_pure ⟨rfl, rfl, go.2.2⟩
  · rintro ⟨r1, r2⟩ s' ⟨hr, rfl, _⟩
    cases hr
    exact wpAny_pure h
/-- at a a set: the tuples of L, as they lie in the table t -/
structure SetX (P : Program) (w : World) (h : Heap) (a : Addr) (L : List TxA) (es : Array (Int × Value)) (ep : Nat) (t : SetTable) : Prop where
  at_ : ∃ o, h.get? a = some o ∧ o.ExactSet ∧ o.data = .set es ep t
  ent : es.toList = L.map (entT P w)
  tab : TabOk t (L.map fun p => txH P w p.2)
  un : (L.map (·.2)).Nodup
  lie : ∀ p ∈ L, Txt P w h p.2 p.1
  ld : w.params.followText "set-order" = true ∨ t.led = true
  free : L.length * 5 < t.mask * 3
variable {a : Addr} {L : List TxA} {es : Array (Int × Value)} {ep : Nat} {t : SetTable}
theorem ents_len (e : es.toList = L.map (entT P w)) : es.size = L.length := by
  have z := congrArg List.length e
  rwa [List.length_map, Array.length_toList] at z
theorem mask_le (m : MaskOk t.mask) : t.mask ≤ 127 := by rcases m with e | e | e <;> omega
theorem SetX.low (R : SetX P w s.heap a L es ep t) : L.length < 77 := by
  have z := R.free
  have y := mask_le R.tab.mok
  omega
theorem fits_of (T : TabOk t (L.map fun p => txH P w p.2)) (n : es.size = L.length) (f : L.length ≤ t.mask) : t.fits es.size = true := by
  have z := T.sz
  rw [List.length_map] at z
  unfold SetTable.fits SetTable.fill
  rw [T.dm, Bool.and_eq_true, beq_iff_eq, decide_eq_true_eq]
  exact ⟨by omega, by show t.place.size + 0 ≤ t.mask; omega⟩
theorem SetX.fits (R : SetX P w s.heap a L es ep t) : t.fits es.size = true := fits_of R.tab (ents_len R.ent) (by have z := R.free; omega)
theorem ent_at (e : es.toList = L.map (entT P w)) {i : Nat} {p : TxA} (h : L[i]? = some p) : es[i]? = some (entT P w p) := by
  rw [← Array.getElem?_toList, e, List.getElem?_map, h]
  rfl
theorem dummy_nth (m : Nat) : ∀ (n : Nat) (p : SetTable.Probe), p.dummy = none → (nth m p n).dummy = none
  | 0, _, h => h
  | n + 1, p, h => dummy_nth m n (adv m p) (by unfold adv; split <;> exact h)
abbrev beg (P : Program) (w : World) (m : Nat) (k : List Str) : SetTable.Probe := runAt m (SetTable.bits (txH P w k) % (m + 1)) (SetTable.bits (txH P w k))
/-- a search, from a place of the way on which nothing equal was passed -/
theorem seek_tx (R : SetX P w s.heap a L es ep t) {x : Addr} {k : List Str} (hx : Txt P w s.heap k x) (hu : A.units < cLine) {K : Nat} (hKf : K < 10 * SetTable.turns t.mask) (hK : way t.mask (txH P w k) K ∉ t.place.toList) (hKb : ∀ c, c < K → way t.mask (txH P w k) c ∈ t.place.toList)
    {Q : SetFound → Shared → Prop} (yes : k ∈ L.map (·.2) → Q (.there none) s) (no : k ∉ L.map (·.2) → Q (.free (way t.mask (txH P w k) K) false) s) : ∀ (f c : Nat) (st : Option SetTable.Probe), st.getD (t.probeStart (txH P w k)) = nth t.mask (beg P w t.mask k) c → c ≤ K → K - c < f →
      (∀ (i : Nat) (p : TxA), L[i]? = some p → p.2 = k → ∃ d, c ≤ d ∧ d < K ∧ t.place.toList[i]? = some (way t.mask (txH P w k) d)) → wpAny (model P w) A (setSearchFrom a (.ref x) (txH P w k) true f st) Q E s := by
  intro f
  induction f with
  | zero => exact fun c st _ _ z => absurd z (Nat.not_lt_zero _)
  | succ f ih =>
    intro c st hst hc hf ahead
    obtain ⟨o, ho, hex, hd⟩ := R.at_
    rw [setSearchFrom_succ]
    refine wpAny_bind (wpAny_setState_of ho hd R.fits ?_)
    dsimp only
    refine wp_if_neg (by unfold SetTable.gaveWay; rw [mask_odd R.tab.mok]; decide) ?_
    have sh : ∀ q, nth t.mask (nth t.mask (beg P w t.mask k) c) q = nth t.mask (beg P w t.mask k) (c + q) := fun q => (nth_add t.mask c _ q).symm
    have wq : ∀ q, (nth t.mask (nth t.mask (beg P w t.mask k) c) q).j = way t.mask (txH P w k) (c + q) := fun q => congrArg SetTable.Probe.j (sh q)
    have hs : ∀ (i : Nat) (p : TxA), L[i]? = some p → (fun i => (es[i]?.map (·.1)).getD 0) i = txH P w p.2 := fun i p hp => by
      show (es[i]?.map (·.1)).getD 0 = _
      rw [ent_at R.ent hp]
      rfl
    rcases go_spec t R.tab.ris R.tab.dm (fun i => (es[i]?.map (·.1)).getD 0) (txH P w k) (10 * SetTable.turns t.mask) (K - c) _ (dummy_nth t.mask c _ rfl) (by omega) (fun q hq => by rw [wq]; exact hKb _ (by omega)) (by rw [wq, show c + (K - c) = K by omega]; exact hK) with ⟨q, i, hq, hi, hh, nb, pr⟩ | ⟨nb, pr⟩
    · rw [wq] at hi
      have il : i < L.length := by
        have z1 := (List.getElem?_eq_some_iff.mp hi).1
        have z2 := R.tab.sz
        rw [List.length_map] at z2
        rw [Array.length_toList] at z1
        omega
      have hp : L[i]? = some L[i] := List.getElem?_eq_getElem il
      have hm : L[i] ∈ L := List.getElem_mem il
      generalize L[i] = p at hp hm
      have sl : t.slot (way t.mask (txH P w k) (c + q)) = .live i := slot_live R.tab.ris hi
      have pr2 : t.probe (fun i => (es[i]?.map (·.1)).getD 0) (txH P w k) (st.getD (t.probeStart (txH P w k))) = some (.candidate (way t.mask (txH P w k) (c + q)) i (nth t.mask (beg P w t.mask k) (c + (q + 1)))) := by
        rw [hst, ← wq, ← sh]
        exact pr
      rw [pr2]
      dsimp only
      have go : wpAny (model P w) A (searchRest a (.ref x) (txH P w k) true f es t (way t.mask (txH P w k) (c + q)) i (nth t.mask (beg P w t.mask k) (c + (q + 1)))) Q E s := by
        unfold searchRest
        rw [ent_at R.ent hp]
        dsimp only [entT]
        refine wpAny_bind (wpAny_holding (wpAny_eqBool_tuple hu (R.lie p hm) hx (wpAny_bind (wpAny_setState_of ho hd R.fits ?_))))
        dsimp only
        by_cases e : p.2 = k
        · exact wp_if_pos (by simp [e]) (wpAny_pure (yes (List.mem_map.mpr ⟨p, hm, e⟩)))
        · refine wp_if_neg (by simp [e]) ?_
          rw [sameMem]
          dsimp only
          simp only [if_true, sl, ent_at R.ent hp, entT]
          refine wpAny_bind (wpAny_isSame_ref_self (wpAny_bind (wpAny_pure ?_)))
          simp only [if_true]
          refine wp_if_neg (by simp [e]) (ih (c + (q + 1)) _ rfl (by omega) (by omega) fun i0 p0 h0 e0 => ?_)
          obtain ⟨d, d1, d2, d3⟩ := ahead i0 p0 h0 e0
          refine ⟨d, ?_, d2, d3⟩
          rcases Nat.lt_trichotomy d (c + q) with z | z | z
          · exact (nb (d - c) i0 (by omega) (by rw [wq, show c + (d - c) = d by omega]; exact d3) ((hs i0 p0 h0).trans (by rw [e0]))).elim
          · rw [z] at d3
            have y := slot_live R.tab.ris d3
            rw [sl] at y
            cases y
            rw [hp] at h0
            cases h0
            exact (e e0).elim
          · omega
      by_cases hl : t.led = true
      · exact wp_if_neg (by simp [hl]) go
      · refine wp_if_pos (by simp [hl]) (wpAny_bind (unseen_tx hx (fun y hy => ?_) (wp_if_neg (by decide) go)))
        obtain ⟨e, he, ee⟩ := List.mem_map.mp hy
        have h1 : e ∈ es ∧ e.1 = txH P w k := by simpa using he
        have h2 : e ∈ es.toList := by simpa using h1.1
        rw [R.ent] at h2
        obtain ⟨p2, q2, rfl⟩ := List.mem_map.mp h2
        exact ⟨p2.2, p2.1, ee.symm, R.lie p2 q2⟩
    · have pr2 : t.probe (fun i => (es[i]?.map (·.1)).getD 0) (txH P w k) (st.getD (t.probeStart (txH P w k))) = some (.empty (way t.mask (txH P w k) K) none) := by
        have e2 : way t.mask (txH P w k) K = (nth t.mask (nth t.mask (beg P w t.mask k) c) (K - c)).j := by rw [wq, show c + (K - c) = K by omega]
        rw [hst, e2]
        exact pr
      rw [pr2]
      dsimp only
      refine wpAny_pure (no fun hm => ?_)
      obtain ⟨p0, m0, e0⟩ := List.mem_map.mp hm
      obtain ⟨i0, l0, g0⟩ := List.getElem_of_mem m0
      have h0 : L[i0]? = some p0 := by rw [List.getElem?_eq_getElem l0, g0]
      obtain ⟨d, d1, d2, d3⟩ := ahead i0 p0 h0 e0
      exact nb (d - c) i0 (by omega) (by rw [wq, show c + (d - c) = d by omega]; exact d3) ((hs i0 p0 h0).trans (by rw [e0]))
theorem find_tx (R : SetX P w s.heap a L es ep t) {x : Addr} {k : List Str} (hx : Txt P w s.heap k x) (hu : A.units < cLine) {Q : SetFound → Shared → Prop} (yes : k ∈ L.map (·.2) → Q (.there none) s)
    (no : ∀ K, k ∉ L.map (·.2) → way t.mask (txH P w k) K ∉ t.place.toList → (∀ c, c < K → way t.mask (txH P w k) c ∈ t.place.toList) → Q (.free (way t.mask (txH P w k) K) false) s) : wpAny (model P w) A (setSearch a (.ref x) (txH P w k) true) Q E s := by
  obtain ⟨K, hKf, hK, hKb⟩ := R.tab.first (by rw [List.length_map]; have z := R.free; omega) (txH P w k)
  have few : K < 100000 := by
    have z := mask_le R.tab.mok
    unfold SetTable.turns at hKf
    omega
  unfold setSearch
  refine seek_tx R hx hu hKf hK hKb yes (fun h => no K h hK hKb) 100000 0 none rfl (Nat.zero_le _) (by omega) fun i p hp e => ?_
  have il : i < t.place.toList.length := by
    have z1 := (List.getElem?_eq_some_iff.mp hp).1
    have z2 := R.tab.sz
    rw [List.length_map] at z2
    rw [Array.length_toList]
    omega
  have hj := List.getElem?_eq_getElem il
  obtain ⟨d, d1, d2⟩ := R.tab.before hK (show (L.map fun p => txH P w p.2)[i]? = some (txH P w k) from by rw [List.getElem?_map, hp, ← e]; rfl) hj
  exact ⟨d, Nat.zero_le _, d1, by rw [hj, d2]⟩
end
end Fc
set_option maxHeartbeats 8000000
/-! Sets of tuples of texts: a tuple is put in, the table laid anew. -/
namespace Fc
open PySem PySem.Spec PyProof.Rows L2
theorem filterMap_all {α : Type} (l : List α) : ∀ n, n ≤ l.length → (List.range n).filterMap (fun i => l[i]?) = l.take n
  | 0, _ => by simp
  | n + 1, h => by
    rw [List.range_succ, List.filterMap_append, filterMap_all l n (by omega), List.take_succ]
    simp [List.getElem?_eq_getElem h]
section
variable {P : Program} {w : World} {A : Around} {E : Value → Shared → Prop} {s : Shared} {a : Addr} {L : List TxA} {es : Array (Int × Value)} {ep : Nat} {t : SetTable}
/-- a tuple is not the set that is written -/
theorem tx_beside {h h' : Heap} {k : List Str} {b : Addr} {o : Obj} (hb : Txt P w h k b) (ho : h.get? a = some o) (hd : o.data = .set es ep t) (sb : Heap.SameBut a h h') : Txt P w h' k b := by
  obtain ⟨u, its, n, hu, hc, he, hi⟩ := hb
  refine ⟨u, its, n, (sb.2 b fun z => ?_).trans hu, hc, he, hi⟩
  rw [z, ho] at hu
  cases hu
  rw [hd] at he
  cases he
/-- the entries taken in another order -/
theorem ents_order (e : es.toList = L.map (entT P w)) {od : Array Nat} (pm : od.toList.Perm (List.range L.length)) :
    ∃ M : List TxA, (od.filterMap (es[·]?)).toList = M.map (entT P w) ∧ M.Perm L ∧ (M.map fun p => txH P w p.2) = od.toList.map fun i => (es.map (·.1)).getD i 0 := by
  have hl : ∀ i ∈ od.toList, i < L.length := fun i hi => List.mem_range.mp (pm.mem_iff.mp hi)
  refine ⟨od.toList.filterMap fun i => L[i]?, ?_, ?_, ?_⟩
  · rw [Array.toList_filterMap]
    generalize od.toList = l at hl
    clear pm
    induction l with
    | nil => rfl
    | cons i l ih =>
      have hi := List.getElem?_eq_getElem (hl i List.mem_cons_self)
      rw [List.filterMap_cons_some (ent_at e hi), List.filterMap_cons_some hi, List.map_cons, ih fun j hj => hl j (List.mem_cons_of_mem _ hj)]
  · have z := pm.filterMap fun i => L[i]?
    rw [filterMap_all L _ (Nat.le_refl _), List.take_length] at z
    exact z
  · generalize od.toList = l at hl
    clear pm
    induction l with
    | nil => rfl
    | cons i l ih =>
      have hi := List.getElem?_eq_getElem (hl i List.mem_cons_self)
      have g : (es.map (·.1)).getD i 0 = txH P w (L[i]'(hl i List.mem_cons_self)).2 := by
        have z : (es.map (·.1))[i]? = some (txH P w (L[i]'(hl i List.mem_cons_self)).2) := by
          rw [Array.getElem?_map, ent_at e hi]
          rfl
        simp [Array.getD_eq_getD_getElem?, z]
      rw [List.filterMap_cons_some hi, List.map_cons, List.map_cons, ih fun j hj => hl j (List.mem_cons_of_mem _ hj), g]
/-- the table, laid anew and larger -/
theorem relaid_tx {o : Obj} (ho : s.heap.get? a = some o) (hex : o.ExactSet) (hd : o.data = .set es ep t) (e : es.toList = L.map (entT P w)) (sz : t.place.size = es.size) (dm : t.dummies = #[]) (fl : es.size ≤ t.mask) (un : (L.map (·.2)).Nodup) (lie : ∀ p ∈ L, Txt P w s.heap p.2 p.1)
    (ld : w.params.followText "set-order" = true ∨ t.led = true) {n M : Nat} (hw : SetTable.sizeAbove n - 1 = M) (hM : MaskOk M) (hw2 : SetTable.sizeAbove n ≤ 128) (free : L.length * 5 < M * 3) {Q : Unit → Shared → Prop}
    (q : ∀ h' L' es' ep' t', Heap.SameBut a s.heap h' → SetX P w h' a L' es' ep' t' → L'.Perm L → Q () { s with heap := h' }) : wpAny (model P w) A (setRelay a n) Q E s := by
  have sl := ents_len e
  have M127 : M ≤ 127 := by rcases hM with z | z | z <;> omega
  have ft : t.fits es.size = true := by
    unfold SetTable.fits SetTable.fill
    rw [dm, Bool.and_eq_true, beq_iff_eq, decide_eq_true_eq]
    exact ⟨sz, by show t.place.size + 0 ≤ t.mask; omega⟩
  obtain ⟨u, od, er, pm, T, em, el, _, _⟩ := relaid_ok t (hs := es.map (·.1)) (wanted := n) hw hM (by rw [Array.size_map, sl]; omega)
  rw [Array.size_map, sl] at pm
  obtain ⟨N, r1, r2, r3⟩ := ents_order e pm
  rw [← r3] at T
  have nz : (od.filterMap (es[·]?)).size = es.size := by
    rw [ents_len r1, r2.length_eq, sl]
  rw [setRelay_eq]
  refine wpAny_bind (wpAny_setState_of ho hd ft ?_)
  dsimp only
  refine wp_if_neg (by rw [sizeLine_eq]; omega) ?_
  rw [er]
  dsimp only
  refine wpAny_bind (wp_if_neg (by rw [nz]; simp) (wpAny_pure ?_))
  dsimp only
  refine wpAny_storeSet_of ho hd ?_ (by rw [nz, sl, sizeLine_eq]; omega)
  have sb : Heap.SameBut a s.heap (s.heap.update a (Obj.putSet (od.filterMap (es[·]?)) u)) := Heap.SameBut.update ..
  exact q _ N _ (ep + 1) u sb ⟨⟨_, store_at ho hd, ⟨hex.1, hex.2.1, hex.2.2⟩, rfl⟩, r1, T, (r2.map (·.2)).nodup_iff.mpr un, fun p hp => tx_beside (lie p (r2.mem_iff.mp hp)) ho hd sb, by rw [el]; exact ld, by rw [r2.length_eq, em]; exact free⟩ r2
/-- a tuple of texts is put in -/
theorem put_tx (R : SetX P w s.heap a L es ep t) {x : Addr} {k : List Str} (hx : Txt P w s.heap k x) (hu : A.units < cLine) (few : k ∉ L.map (·.2) → L.length + 1 < 64) {Q : Bool → Shared → Prop}
    (q : ∀ b h' L' es' ep' t', Heap.SameBut a s.heap h' → SetX P w h' a L' es' ep' t' → (k ∈ L.map (·.2) → L' = L) → (k ∉ L.map (·.2) → L'.Perm ((x, k) :: L)) → Q b { s with heap := h' }) : wpAny (model P w) A (setAddHashed a (.ref x) (txH P w k)) Q E s := by
  obtain ⟨o, ho, hex, hd⟩ := R.at_
  have sl := ents_len R.ent
  have fr := R.free
  unfold setAddHashed
  refine wpAny_holding ?_
  rw [show (100000 : Nat) = 99999 + 1 from rfl, setAddHashedIn_succ]
  refine wpAny_bind (wpAny_setState_of ho hd R.fits ?_)
  dsimp only
  refine wp_if_neg (by simp [byScan, Value.scannable]) (wpAny_bind (find_tx R hx hu (fun hm => ?_) fun K hm hK hb => ?_))
  · dsimp only
    exact wpAny_pure (q false s.heap L es ep t (Heap.SameBut.refl a s.heap) R (fun _ => rfl) fun z => (z hm).elim)
  · have few := few hm
    dsimp only
    refine wpAny_bind (wpAny_setState_of ho hd R.fits ?_)
    dsimp only
    obtain ⟨z1, z2, z3, z4, z5, z6, z7, z8, z9⟩ := R.tab.put hK hb
    generalize t.put (way t.mask (txH P w k) K) = pt at z1 z3 z4 z5 z6 z7 z8 z9 ⊢
    obtain ⟨t0, p⟩ := pt
    dsimp only at z1 z3 z4 z5 z6 z7 z8 z9 ⊢
    subst z1
    have en : (SetTable.insertAt es (SetTable.below t.place (way t.mask (txH P w k) K)) (txH P w k, Value.ref x)).toList = (L.take (SetTable.below t.place (way t.mask (txH P w k) K)) ++ (x, k) :: L.drop (SetTable.below t.place (way t.mask (txH P w k) K))).map (entT P w) := by
      rw [SetTable.toList_insertAt, R.ent, List.map_append, List.map_cons, List.map_take, List.map_drop]
      rfl
    generalize SetTable.below t.place (way t.mask (txH P w k) K) = p at z2 z3 en ⊢
    have pm := put_perm L p (x, k)
    have ln : (L.take p ++ (x, k) :: L.drop p).length = L.length + 1 := pm.length_eq
    have hh : (L.take p ++ (x, k) :: L.drop p).map (fun p => txH P w p.2) = (L.map fun p => txH P w p.2).take p ++ txH P w k :: (L.map fun p => txH P w p.2).drop p := by rw [List.map_append, List.map_cons, List.map_take, List.map_drop]
    rw [← hh] at z3
    have un1 : ((L.take p ++ (x, k) :: L.drop p).map (·.2)).Nodup := (pm.map (·.2)).nodup_iff.mpr (by rw [List.map_cons]; exact List.nodup_cons.mpr ⟨hm, R.un⟩)
    have n1 := ents_len en
    generalize SetTable.insertAt es p (txH P w k, Value.ref x) = es1 at en n1 ⊢
    generalize L.take p ++ (x, k) :: L.drop p = L1 at pm ln z3 un1 en n1
    have fin : ∀ t1 : SetTable, t1.mask = t0.mask → t1.led = t0.led → t1.place = t0.place → t1.dummies = t0.dummies →
        wpAny (model P w) A (do
          storeSet a es1 t1
          if !false && t1.tooFull then setRelay a (SetTable.grown (es.size + 1))
          return true) Q E s := by
      intro t1 e1 e2 e3 e4
      have T1 : TabOk t1 (L1.map fun p => txH P w p.2) := ⟨by rw [e3]; exact z3.ris, by rw [e4]; exact z3.dm, by rw [e3]; exact z3.sz, by rw [e1]; exact z3.mok, by rw [e3, e1]; exact z3.bd, by rw [e3, e1]; exact z3.reach⟩
      refine wpAny_bind (wpAny_storeSet_of ho hd ?_ (by rw [n1, ln, sizeLine_eq]; omega))
      have sb : Heap.SameBut a s.heap (s.heap.update a (Obj.putSet es1 t1)) := Heap.SameBut.update ..
      have ho1 := store_at (es' := es1) (t' := t1) ho hd
      generalize s.heap.update a (Obj.putSet es1 t1) = h1 at sb ho1 ⊢
      have lie1 : ∀ p ∈ L1, Txt P w h1 p.2 p.1 := fun p hp => by
        rcases List.mem_cons.mp (pm.mem_iff.mp hp) with e | hp
        · rw [e]
          exact tx_beside hx ho hd sb
        · exact tx_beside (R.lie p hp) ho hd sb
      have ld1 : w.params.followText "set-order" = true ∨ t1.led = true := by rw [e2, z5]; exact R.ld
      have fill1 : t1.fill = L.length + 1 := by
        have y : t1.fill = t0.fill := by unfold SetTable.fill; rw [e3, e4]
        rw [y, z9, List.length_map]
      by_cases full : t1.tooFull = true
      · have fl : t1.mask * 3 ≤ (L.length + 1) * 5 := by
          have y := full
          unfold SetTable.tooFull at y
          rw [decide_eq_true_eq, fill1] at y
          exact y
        have em : t1.mask = t.mask := e1.trans z4
        have two : (t.mask = 7 ∧ L.length = 4) ∨ (t.mask = 31 ∧ L.length = 18) := by
          rw [em] at fl
          rcases R.tab.mok with e | e | e
          · exact .inl ⟨e, by rw [e] at fl fr; omega⟩
          · exact .inr ⟨e, by rw [e] at fl fr; omega⟩
          · exfalso
            rw [e] at fl
            omega
        rw [sl]
        have go : ∀ M, SetTable.sizeAbove (SetTable.grown (L.length + 1)) - 1 = M → MaskOk M → SetTable.sizeAbove (SetTable.grown (L.length + 1)) ≤ 128 → (L.length + 1) * 5 < M * 3 →
            wpAny (model P w) A (setRelay a (SetTable.grown (L.length + 1))) (fun _ s' => wpAny (model P w) A (pure true) Q E s') E { s with heap := h1 } := fun M a1 a2 a3 a4 =>
          relaid_tx (s := { s with heap := h1 }) ho1 ⟨hex.1, hex.2.1, hex.2.2⟩ rfl en (by have y := T1.sz; rw [List.length_map] at y; rw [y, n1]) T1.dm (by rw [n1, ln, em]; rcases two with ⟨y1, y2⟩ | ⟨y1, y2⟩ <;> omega) un1 lie1 ld1 a1 a2 a3 (by rw [ln]; exact a4)
            fun h2 L2 es2 ep2 t2 sb2 R2 pm2 => wpAny_pure (q true h2 L2 es2 ep2 t2 (sb.trans sb2) R2 (fun z => (hm z).elim) fun _ => pm2.trans pm)
        first
          | (refine wpAny_bind (wp_if_pos (by simp [full]) ?_)
             rcases two with ⟨_, e⟩ | ⟨_, e⟩
             · exact go 31 (by rw [e, size_20]) (.inr (.inl rfl)) (by rw [e, size_20]; decide) (by omega)
             · exact go 127 (by rw [e, size_76]) (.inr (.inr rfl)) (by rw [e, size_76]; decide) (by omega))
          | (refine wp_if_pos (by simp [full]) (wpAny_bind ?_)
             rcases two with ⟨_, e⟩ | ⟨_, e⟩
             · exact go 31 (by rw [e, size_20]) (.inr (.inl rfl)) (by rw [e, size_20]; decide) (by omega)
             · exact go 127 (by rw [e, size_76]) (.inr (.inr rfl)) (by rw [e, size_76]; decide) (by omega))
      · have ok : SetX P w h1 a L1 es1 (ep + 1) t1 := ⟨⟨_, ho1, ⟨hex.1, hex.2.1, hex.2.2⟩, rfl⟩, en, T1, un1, lie1, ld1, by
          have y := full
          unfold SetTable.tooFull at y
          rw [decide_eq_true_eq, fill1] at y
          rw [ln]
          omega⟩
        first
          | exact wp_if_neg (by simp [full]) (wpAny_pure (q true h1 L1 es1 (ep + 1) t1 sb ok (fun z => (hm z).elim) fun _ => pm))
          | exact wpAny_bind (wp_if_neg (by simp [full]) (wpAny_pure (wpAny_pure (q true h1 L1 es1 (ep + 1) t1 sb ok (fun z => (hm z).elim) fun _ => pm))))
    by_cases hp : t0.plain = true
    · first
        | refine wpAny_bind (wp_if_pos hp (byHash_tx hx fun b => ?_))
        | refine wp_if_pos hp (wpAny_bind (byHash_tx hx fun b => ?_))
      cases b with
      | true => exact fin t0 rfl rfl rfl rfl
      | false => exact fin { t0 with plain := false } rfl rfl rfl rfl
    · first
        | exact wpAny_bind (wp_if_neg hp (wpAny_pure (fin t0 rfl rfl rfl rfl)))
        | exact wp_if_neg hp (wpAny_bind (wpAny_pure (fin t0 rfl rfl rfl rfl)))
end
end Fc
set_option maxHeartbeats 4000000
/-! The order in which is looked; cabinets as dicts. -/
namespace Fc
open PySem PySem.Spec PyProof.Rows L2
theorem srtd_uniq {l m : List I2} (hl : SrtO.Srtd (fun v u => lexI v u) l) (hm : SrtO.Srtd (fun v u => lexI v u) m) (p : l.Perm m) : l = m := by
  refine List.Perm.eq_of_pairwise (le := fun a b => lexI b a = false) (fun a b _ _ h1 h2 => ?_) hl hm p
  rcases lexI_tri a b with z | z | z
  · rw [z] at h2
    cases h2
  · exact z
  · rw [z] at h1
    cases h1
theorem orderM_uniq {rs : List Row} {m : Str} {a b : List Str} (ha : orderM rs m a) (hb : orderM rs m b) : a = b := by
  obtain ⟨r1, s1, n1, k1, rfl⟩ := ha
  obtain ⟨r2, s2, n2, k2, rfl⟩ := hb
  have nd : ∀ {r : List I2}, (r.map (·.2)).Nodup → r.Nodup := fun h => (List.pairwise_map.mp h).imp fun z e => z (by rw [e])
  have p : r1.Perm r2 := (List.perm_ext_iff_of_nodup (nd n1) (nd n2)).mpr fun ⟨c, h⟩ => (k1 c h).trans (k2 c h).symm
  rw [srtd_uniq s1 s2 p]
open Classical in
noncomputable def orderF (rs : List Row) (m : Str) : List Str := if h : ∃ out, orderM rs m out then h.choose else []
theorem orderF_eq {rs : List Row} {m : Str} {out : List Str} (h : orderM rs m out) : out = orderF rs m := by
  have e : ∃ out, orderM rs m out := ⟨out, h⟩
  unfold orderF
  rw [dif_pos e]
  exact orderM_uniq h e.choose_spec
theorem orderM_mem {rs : List Row} {m : Str} {out : List Str} (h : orderM rs m out) (x : Str) : x ∈ out ↔ x ∈ ruleHeadsM rs := by
  obtain ⟨r, s, n, k, rfl⟩ := h
  rw [List.mem_append]
  constructor
  · rintro (z | z)
    · obtain ⟨⟨c, y⟩, hq, e⟩ := List.mem_map.mp z
      obtain ⟨n', _, e2⟩ := (k c y).mp hq
      have e' : y = x := e
      subst e'
      exact slipsM_in e2
    · exact (List.mem_filter.mp z).1
  · intro z
    cases c : slipsM rs m x with
    | none => exact .inr (List.mem_filter.mpr ⟨z, by rw [c]; rfl⟩)
    | some n' => exact .inl (List.mem_map.mpr ⟨((n' : Int), x), (k _ _).mpr ⟨n', rfl, c⟩, rfl⟩)
theorem ruleHeads_nd (rs : List Row) : (ruleHeadsM rs).Nodup := (riseS_rs _).nd
theorem orderM_nd {rs : List Row} {m : Str} {out : List Str} (h : orderM rs m out) : out.Nodup := by
  obtain ⟨r, s, n, k, rfl⟩ := h
  refine List.nodup_append.mpr ⟨n, (ruleHeads_nd rs).filter _, fun x hx y hy e => ?_⟩
  subst e
  obtain ⟨⟨c, y⟩, hq, e⟩ := List.mem_map.mp hx
  obtain ⟨n', _, e2⟩ := (k c y).mp hq
  have e' : y = x := e
  subst e'
  have z := (List.mem_filter.mp hy).2
  rw [e2] at z
  cases z
theorem orderM_len {rs : List Row} {m : Str} {out : List Str} (h : orderM rs m out) : out.length = (ruleHeadsM rs).length :=
  ((List.perm_ext_iff_of_nodup (orderM_nd h) (ruleHeads_nd rs)).mpr fun x => orderM_mem h x).length_eq
/-- those that are looked at, up to the first that does -/
def upTo (p : Str → Bool) : List Str → List Str
  | [] => []
  | x :: r => if p x = true then [x] else x :: upTo p r
theorem upTo_none {p : Str → Bool} : ∀ {l : List Str}, (∀ x ∈ l, p x = false) → upTo p l = l
  | [], _ => rfl
  | x :: r, h => by
    unfold upTo
    rw [h x List.mem_cons_self, if_neg Bool.false_ne_true, upTo_none fun y hy => h y (List.mem_cons_of_mem _ hy)]
theorem upTo_at {p : Str → Bool} : ∀ {l : List Str} {i : Nat} {x : Str}, l[i]? = some x → (∀ y ∈ l.take i, p y = false) → p x = true → upTo p l = l.take i ++ [x] ∧ l.find? p = some x
  | [], _, _, h, _, _ => by simp at h
  | a :: r, 0, x, h, _, hx => by
    have e : a = x := by simpa using h
    subst e
    unfold upTo
    rw [if_pos hx, List.find?_cons, hx]
    exact ⟨rfl, rfl⟩
  | a :: r, i + 1, x, h, hn, hx => by
    have e : r[i]? = some x := by simpa using h
    have ha : p a = false := hn a (by simp)
    obtain ⟨i1, i2⟩ := upTo_at e (fun y hy => hn y (by rw [List.take_succ_cons]; exact List.mem_cons_of_mem _ hy)) hx
    unfold upTo
    rw [ha, if_neg Bool.false_ne_true, i1, List.find?_cons, ha]
    exact ⟨rfl, i2⟩
def optV (o : Option Str) : V := (o.map V.str).getD .non
/-- the drawers of a cabinet, as pairs and lists -/
theorem cab_ex {S : Addr → Prop} {H : Hp} {f : Str → List Str} : ∀ {hs : List Str} {xs : List V}, DnA S H xs (hs.map fun h => .tuple [.str h, .list ((f h).map PyData.str)]) →
    ∃ ts as : List Addr, xs = ts.map V.ref ∧ ts.length = hs.length ∧ as.length = hs.length ∧ (∀ t ∈ ts, ¬ S t) ∧ (∀ a ∈ as, ¬ S a) ∧ ∀ (j : Nat) (t a : Addr) (h : Str), ts[j]? = some t → as[j]? = some a → hs[j]? = some h → H t = some (.tup [.str h, .ref a]) ∧ H a = some (.lst ((f h).map V.str))
  | [], _, h => by
    cases h
    exact ⟨[], [], rfl, rfl, rfl, (fun _ z => nomatch z), (fun _ z => nomatch z), fun j t a h e => by simp at e⟩
  | h :: hs, _, d => by
    cases d with
    | cons d r =>
      obtain ⟨ts, as, rfl, l1, l2, s1, s2, k⟩ := cab_ex r
      obtain ⟨t, a, rfl, n1, n2, e1, e2⟩ := drawD_ex d
      refine ⟨t :: ts, a :: as, rfl, by simp [l1], by simp [l2], fun x hx => ?_, fun x hx => ?_, fun j t' a' h' q1 q2 q3 => ?_⟩
      · rcases List.mem_cons.mp hx with z | z
        · rw [z]; exact n1
        · exact s1 x z
      · rcases List.mem_cons.mp hx with z | z
        · rw [z]; exact n2
        · exact s2 x z
      · cases j with
        | zero =>
          simp at q1 q2 q3
          subst q1 q2 q3
          exact ⟨e1, e2⟩
        | succ j => exact k j t' a' h' (by simpa using q1) (by simpa using q2) (by simpa using q3)
theorem cab_paired {K : PySem.W.Frag} {H : Hp} : ∀ {hs : List Str} {ts as : List Addr}, ts.length = hs.length → as.length = hs.length → (∀ (j : Nat) (t a : Addr) (h : Str), ts[j]? = some t → as[j]? = some a → hs[j]? = some h → H t = some (.tup [.str h, .ref a])) →
    Paired (fun (p : Addr) (kv : Key × V) => SqT K H p [kV kv.1, kv.2]) ts (dkv hs as)
  | [], [], as, _, _, _ => by
    cases as <;> exact .nil
  | [], t :: ts, _, h, _, _ => by cases h
  | h :: hs, [], _, e, _, _ => by cases e
  | h :: hs, t :: ts, [], _, e, _ => by cases e
  | h :: hs, t :: ts, a :: as, l1, l2, k => by
    refine .cons (SqT.of (k 0 t a h rfl rfl rfl)) (cab_paired (Nat.succ.inj l1) (Nat.succ.inj l2) fun j t a h e1 e2 e3 => k (j + 1) t a h (by simpa using e1) (by simpa using e2) (by simpa using e3))
theorem dkv_merge : ∀ (hs : List Str) (as : List Addr) (kvs : List (Key × V)), hs.Nodup → (∀ h ∈ hs, valV kvs (.inr h) = none) → mergeK kvs (dkv hs as) = kvs ++ dkv hs as
  | [], as, kvs, _, _ => by
    cases as <;> exact (List.append_nil kvs).symm
  | _ :: _, [], kvs, _, _ => (List.append_nil kvs).symm
  | h :: hs, a :: as, kvs, nd, k => by
    obtain ⟨n1, n2⟩ := List.nodup_cons.mp nd
    have kh := k h List.mem_cons_self
    show mergeK (putK kvs (.inr h) (.ref a)) (dkv hs as) = kvs ++ ((.inr h, .ref a) :: dkv hs as)
    rw [putK_new _ kh, dkv_merge hs as _ n2 fun x hx => ?_, List.append_assoc]
    · rfl
    · rw [valV_snoc _ _ _ _ kh, if_neg (fun z => n1 (by rw [← Sum.inr.inj z]; exact hx))]
      exact k x (List.mem_cons_of_mem _ hx)
/-- search(rule, cabinet, name, marks) -/
def spSearch (T : List Addr) : Sp := fun vs H Q _ => ∃ (v u : V) (rs : List Row) (f : Str → List Str) (n m : Str), vs = [v, u, .str n, .str m] ∧ Dn N0 H v (ruleD rs) ∧ Dn N0 H u (drawD (ruleHeadsM rs) f) ∧ GoodR rs ∧ GoodC rs f ∧ isMarksM m = true ∧ Tbs T H ∧
  ∀ t l H', H t = none → H l = none → Kp N0 H H' → orderM rs m (orderF rs m) → H' l = some (.lst ((upTo (fun h => decide (n ∈ f h)) (orderF rs m)).map V.str)) → H' t = some (.tup [.ref l, optV ((orderF rs m).find? fun h => decide (n ∈ f h))]) → Q (.ref t) H'
end Fc
set_option maxHeartbeats 4000000
/-! The law's own order. -/
namespace Fc
open PySem PySem.Spec PyProof.Rows L2
def nOf (rs : List Row) (m h : Str) : Nat := lawMin rs m (namedM rs) h 99 (subsTo [[]] (namedM rs))
theorem nOf_eq {rs : List Row} (g : GoodR rs) (m h : Str) : nOf rs m h = (slipsM rs m h).getD 99 := by
  unfold nOf
  rw [lawMin_eq g]
  cases slipsM rs m h <;> rfl
theorem pw_split {α : Type} (p : α → Bool) : ∀ {l : List α}, l.Pairwise (fun a b => p b = true → p a = true) → l = l.filter p ++ l.filter (fun x => !p x)
  | [], _ => rfl
  | a :: r, h => by
    obtain ⟨h1, h2⟩ := List.pairwise_cons.mp h
    have ih := pw_split p h2
    cases c : p a with
    | true =>
      rw [List.filter_cons, if_pos c, List.filter_cons, if_neg (by rw [c]; exact Bool.false_ne_true), List.cons_append, ← ih]
    | false =>
      have z : r.filter p = [] := List.filter_eq_nil_iff.mpr fun x hx q => by
        have y := h1 x hx q
        rw [c] at y
        cases y
      rw [z, List.nil_append] at ih
      rw [List.filter_cons, if_neg (by rw [c]; exact Bool.false_ne_true), List.filter_cons, if_pos (by rw [c]; rfl), z, List.nil_append, ← ih]
theorem order_of99 {rs : List Row} (g : GoodR rs) {m : Str} {ys : List I2} (so : SrtO.Srtd (fun v u => lexI v u) ys) (pq : ys.Perm ((ruleHeadsM rs).map fun h => ((nOf rs m h : Nat), h))) : orderM rs m (ys.map (·.2)) := by
  have nd : (ys.map (·.2)).Nodup := by
    refine (pq.map (·.2)).nodup_iff.mpr ?_
    rw [List.map_map]
    have e : (ruleHeadsM rs).map ((fun q : I2 => q.2) ∘ fun h => (((nOf rs m h : Nat) : Int), h)) = ruleHeadsM rs := List.map_id _
    rw [e]
    exact ruleHeads_nd rs
  have mem : ∀ c h, (c, h) ∈ ys ↔ h ∈ ruleHeadsM rs ∧ c = (((slipsM rs m h).getD 99 : Nat) : Int) := fun c h => by
    refine pq.mem_iff.trans ⟨fun z => ?_, fun ⟨z1, z2⟩ => ?_⟩
    · obtain ⟨x, hx, e⟩ := List.mem_map.mp z
      obtain ⟨e1, e2⟩ := Prod.mk.inj e
      subst e2
      rw [nOf_eq g] at e1
      exact ⟨hx, e1.symm⟩
    · exact List.mem_map.mpr ⟨h, z1, by rw [nOf_eq g, z2]⟩
  have lt : ∀ {h : Str} {n : Nat}, slipsM rs m h = some n → ((n : Int) ≠ 99) := fun h => by
    have := slipsM_le h
    omega
  let p : I2 → Bool := fun q => decide (q.1 ≠ 99)
  have le : ∀ q ∈ ys, q.1 ≤ 99 := fun ⟨c, h⟩ hq => by
    obtain ⟨_, e⟩ := (mem c h).mp hq
    show c ≤ 99
    rw [e]
    cases z : slipsM rs m h with
    | none => exact Int.le_refl _
    | some n =>
      have := slipsM_le z
      show (n : Int) ≤ 99
      omega
  have sp : ys.Pairwise (fun a b => p b = true → p a = true) := by
    refine List.Pairwise.imp_of_mem (fun {a b} ha hb (h : lexI b a = false) z => ?_) so
    refine decide_eq_true fun e => ?_
    have z1 : b.1 ≠ 99 := of_decide_eq_true z
    have z2 := le b hb
    unfold lexI at h
    rw [if_neg (by omega)] at h
    exact absurd (of_decide_eq_false h) (by simp; omega)
  have split := pw_split p sp
  refine ⟨ys.filter p, so.filter _, ?_, fun c h => ?_, ?_⟩
  · exact nd.sublist (List.filter_sublist.map _)
  · rw [List.mem_filter, mem c h]
    constructor
    · rintro ⟨⟨z1, z2⟩, z3⟩
      have z3 : c ≠ 99 := of_decide_eq_true z3
      cases q : slipsM rs m h with
      | none =>
        rw [q] at z2
        exact (z3 z2).elim
      | some n =>
        rw [q] at z2
        exact ⟨n, z2, rfl⟩
    · rintro ⟨n, e, z⟩
      exact ⟨⟨slipsM_in z, by rw [z, e]; rfl⟩, decide_eq_true (by show c ≠ 99; rw [e]; exact lt z)⟩
  · conv => lhs; rw [split]
    rw [List.map_append]
    congr 1
    have hr : Rs ((ys.filter fun x => !p x).map (·.2)) := by
      refine List.pairwise_map.mpr ?_
      have s2 : (ys.filter fun x => !p x).Pairwise (fun a b => lexI b a = false) := so.filter _
      have n2 : (ys.filter fun x => !p x).Pairwise (fun a b => a.2 ≠ b.2) := List.pairwise_map.mp (nd.sublist (List.filter_sublist.map _))
      refine List.Pairwise.imp_of_mem (fun {a b} ha hb h => ?_) (s2.and n2)
      have e : ∀ {q : I2}, q ∈ ys.filter (fun x => !p x) → q.1 = 99 := fun {q} hq => by
        have z := (List.mem_filter.mp hq).2
        have z : decide (q.1 ≠ 99) = false := by simpa [p] using z
        exact Decidable.not_not.mp (of_decide_eq_false z)
      obtain ⟨h1, h2⟩ := h
      unfold lexI at h1
      rw [e ha, e hb, if_pos rfl] at h1
      rcases ltS_tri a.2 b.2 with z | z | z
      · exact z
      · exact (h2 z).elim
      · rw [z] at h1
        cases h1
    refine Rs.uniq hr ((riseS_rs _).filter _) fun x => ?_
    rw [List.mem_map, List.mem_filter]
    constructor
    · rintro ⟨⟨c, y⟩, hq, e⟩
      have e' : y = x := e
      subst e'
      obtain ⟨z1, z2⟩ := List.mem_filter.mp hq
      obtain ⟨z3, z4⟩ := (mem c y).mp z1
      refine ⟨z3, ?_⟩
      cases q : slipsM rs m y with
      | none => rfl
      | some n =>
        rw [q] at z4
        have z2 : decide (c ≠ 99) = false := by simpa [p] using z2
        exact absurd (show c ≠ 99 by rw [z4]; exact lt q) (of_decide_eq_false z2)
    · rintro ⟨z1, z2⟩
      have q : slipsM rs m x = none := Option.isNone_iff_eq_none.mp z2
      refine ⟨((99 : Int), x), List.mem_filter.mpr ⟨(mem _ _).mpr ⟨z1, by rw [q]; rfl⟩, by simp [p]⟩, rfl⟩
/-- _law_order(rule, marks) -/
def spOrderL : Sp := fun vs H Q _ => ∃ (v : V) (rs : List Row) (m : Str), vs = [v, .str m] ∧ Dn N0 H v (ruleD rs) ∧ GoodR rs ∧ m.cps.toList.length ≤ 100 ∧ ∀ p H', H p = none → Kp N0 H H' → orderM rs m (orderF rs m) → H' p = some (.lst ((orderF rs m).map V.str)) → Q (.ref p) H'
end Fc
set_option maxHeartbeats 4000000
/-! sorted of a list of unlike texts, however many; list.remove of a text. -/
namespace Fc
open PySem PySem.Spec PyProof.Rows L2
theorem vals_str : ∀ {l : List Str} {us : List Value}, Vals (l.map V.str) us → us.map strOf = l ∧ ∀ v ∈ us, ∃ x t, v = Value.str x t
  | [], _, r => by
    cases r
    exact ⟨rfl, fun v z => nomatch z⟩
  | x :: l, _, r => by
    cases r with
    | cons h t =>
      obtain ⟨k, rfl⟩ := h
      obtain ⟨e1, e2⟩ := vals_str t
      refine ⟨by rw [List.map_cons, e1]; rfl, fun v hv => ?_⟩
      rcases List.mem_cons.mp hv with z | z
      · exact ⟨x, k, z⟩
      · exact e2 v z
theorem vals_of_str : ∀ {us : List Value}, (∀ v ∈ us, ∃ x t, v = Value.str x t) → Vals ((us.map strOf).map V.str) us
  | [], _ => .nil
  | v :: us, h => by
    obtain ⟨x, t, e⟩ := h v List.mem_cons_self
    subst e
    exact .cons ⟨t, rfl⟩ (vals_of_str fun u hu => h u (List.mem_cons_of_mem _ hu))
theorem eqS_gives {k : Str} {t : Tok} {us : List Value} (h : ∀ v ∈ us, ∃ x t, v = Value.str x t) : ∀ y ∈ us, MeetsSeq.EqGives y (.str k t) (decide (strOf y = k)) := fun y hy => by
  obtain ⟨x, u, e⟩ := h y hy
  subst e
  have z := SeqRoads2.EqGives.str x k u t
  have e : (x.cps.toList == k.cps.toList) = decide (strOf (Value.str x u) = k) := by
    show _ = decide (x = k)
    rw [Bool.eq_iff_iff, beq_iff_eq, decide_eq_true_eq]
    exact ⟨fun q => str_ext q, fun q => by rw [q]⟩
  rw [e] at z
  exact z
theorem erase_mapS : ∀ (l : List Str) (j : Nat), (l.map V.str).eraseIdx j = (l.eraseIdx j).map V.str
  | [], j => by simp
  | a :: r, 0 => by simp
  | a :: r, j + 1 => by
    have ih := erase_mapS r j
    simp [ih]
section
variable {X : Cx} {K : PySem.W.Frag}
/-- sorted(list of unlike texts) -/
def rSortSL (K : PySem.W.Frag) : List V → Hp → VK → Prop := fun vs H Q => ∃ (a : Addr) (l : List Str), vs = [.ref a] ∧ SqL K H a (l.map V.str) ∧ l.Nodup ∧ ∀ p, H p = none → Q (.ref p) (upd H p (.lst ((riseS l).map V.str)))
theorem cr_sortSL : CallR X (.builtin "sorted") (rSortSL X.K) := by
  intro pins s σ H vs us Q I r h
  obtain ⟨a, l, rfl, hs, nd, q⟩ := h
  obtain ⟨its, rv, hl, hz⟩ := I.list hs
  rw [Vals.ref1 r]
  obtain ⟨e1, e2⟩ := vals_str rv
  refine SrtO.sorted_ord (swo_txt strOf) hl.isList (by rw [← rv.length]; exact hz) (fun h2 h₁ b hb kk => ?_) fun out hs hb => ?_
  · exact txt_sortable h2 e2
  · have h3 : ∀ u ∈ out, ∃ x t, u = Value.str x t := fun u hu => e2 u (hb.perm.mem_iff.mp hu)
    obtain ⟨n, hn⟩ := sortedAll_at s.heap its out.toArray
    have ps : (out.map strOf).Perm l := by
      rw [← e1]
      exact hb.perm.map strOf
    have rs : Rs (out.map strOf) := rs_of_srt (vs := its) hs (ps.nodup_iff.mpr nd)
    have er : out.map strOf = riseS l := riseS_of rs fun x => ps.mem_iff
    have vals := vals_of_str h3
    rw [er] at vals
    refine ⟨.ref _, upd H (s.heap.objs.size + 1) (.lst ((riseS l).map V.str)), I.laid (t' := s.toks) (fun _ _ => sortedAll_old) (Nat.le_succ _) ⟨?_, out, n, vals, hn⟩, rfl, q _ (I.hok.fresh (Nat.le_succ _))⟩
    rw [List.length_map, ← er, List.length_map, hb.perm.length_eq, ← rv.length]
    exact hz
/-- list.remove(text) -/
def rRemS : V → List V → Hp → VK → Prop := fun x xs H Q => ∃ (l : Addr) (ns : List Str) (k : Str) (j : Nat), x = .ref l ∧ xs = [.str k] ∧ H l = some (.lst (ns.map V.str)) ∧ ns[j]? = some k ∧ (∀ m : Nat, m < j → ns[m]? ≠ some k) ∧ Q .non (upd H l (.lst ((ns.eraseIdx j).map V.str)))
theorem mt_removeS : MtM X "list.remove" rRemS := by
  intro pins s σ H x xs v us Q I rx rxs h
  obtain ⟨l, ns, k, j, rfl, rfl, hH, hj, hno, q⟩ := h
  cases rx
  obtain ⟨u, rfl, ru⟩ := rxs.one
  obtain ⟨t, rfl⟩ := ru
  obtain ⟨z, its, n, r, hl, e⟩ := I.lstM hH
  obtain ⟨e1, e2⟩ := vals_str r
  rw [List.length_map] at hl z
  have hjn : j < ns.length := (List.getElem?_eq_some_iff.mp hj).1
  have hjl : j < its.toArray.size := by rw [List.size_toArray]; omega
  have at' : ∀ (m : Nat) (hm : m < its.length), ns[m]? = some (strOf its[m]) := fun m hm => by
    rw [← e1, List.getElem?_map, List.getElem?_eq_getElem hm]
    rfl
  refine call_meets PySem.F.slot_list_remove ⟨_, e, rfl⟩ PySem.F.entry_list_remove (PySem.F.args_list_remove_2 _ _)
    (MeetsSeq.list_remove l its.toArray n (.str k t) (fun y => decide (strOf y = k)) (fun y hy => eqS_gives e2 y (by simpa using hy)) j hjl ?_ ?_ (by rw [List.size_toArray]; omega)) ⟨e, ?_⟩
  · have z := at' j (by simpa using hjl)
    rw [hj] at z
    have z := Option.some.inj z
    show decide (strOf its.toArray[j] = k) = true
    simpa using z.symm
  · intro m hm hmj
    have z := at' m (by simpa using hm)
    refine decide_eq_false fun c => hno m hmj ?_
    rw [z]
    exact congrArg some (by simpa using c)
  · have rr := r.eraseIdx j
    rw [erase_mapS] at rr
    refine ⟨.non, _, I.lset (its' := its.eraseIdx j) (t' := s.toks) hH e ?_ rr ?_, rfl, q⟩
    · show its.toArray.eraseIdxIfInBounds j = (its.eraseIdx j).toArray
      rw [List.eraseIdxIfInBounds_toArray]
    · have z2 := List.length_eraseIdx_le ns j
      rw [List.length_map]
      omega
theorem cr_setSw {w : World} (hc : X.calm = true) (hK : X.K = K := by rfl) (hw : X.w = w := by rfl) : CallR X (.type "set") (rSetS K w) := by
  subst hK
  subst hw
  exact cr_setS hc
theorem cr_sortSAw {w : World} (hc : X.calm = true) (hw : X.w = w := by rfl) : CallR X (.builtin "sorted") (rSortSA w) := by
  subst hw
  exact cr_sortSA hc
theorem call_list_ofK (h : X.K = K := by rfl) : CallR X (.type "list") (fun xs H Q => ∃ p ys, xs = [.ref p] ∧ (SqL K H p ys ∨ SqT K H p ys) ∧ ∀ l, H l = none → Q (.ref l) (upd H l (.lst ys))) := by
  subst h
  exact call_list_of
end
end Fc
set_option maxHeartbeats 4000000
/-! Cabinets copied, cabinets as a dict of new lists. -/
namespace Fc
open PySem PySem.Spec PyProof.Rows L2
section
variable {K : PySem.W.Frag}
/-- over a cabinet: a new pair of the head and a new list, for each drawer -/
theorem lc_copy {a D : Addr} {te : TE} {vs : List Nat} {σ : L2.St} {H1 : Hp} {Qd : Hp → Prop} {i1 i2 : Nat} {hs : List Str} {f : Str → List Str} {ts0 as0 : List Addr}
    (ha : H1 a = some (.lst (ts0.map V.ref))) (l1 : ts0.length = hs.length) (l2 : as0.length = hs.length)
    (kk : ∀ (j : Nat) (t b : Addr) (h : Str), ts0[j]? = some t → as0[j]? = some b → hs[j]? = some h → H1 t = some (.tup [.str h, .ref b]) ∧ H1 b = some (.lst ((f h).map V.str)))
    (hD : H1 D = none) (few : hs.length ≤ 1000) (hw : ∀ x y, wipe (((wipe σ vs).set i1 (some x)).set i2 (some y)) vs = wipe σ vs)
    (he : ∀ (h : Str) (b : Addr) (H : Hp), h ∈ hs → Kp N0 H1 H → H b = some (.lst ((f h).map V.str)) → ∀ Q : VK, (∀ q U, H q = none → (upd H q (.lst ((f h).map V.str))) U = none → Q (.ref U) (upd (upd H q (.lst ((f h).map V.str))) U (.tup [.str h, .ref q]))) → te (((wipe σ vs).set i1 (some (.str h))).set i2 (some (.ref b))) H Q)
    (hd : ∀ (H' : Hp) (ts as : List Addr), Kp N0 H1 H' → H' D = some (.lst (ts.map V.ref)) → ts.length = hs.length → as.length = hs.length → as.Nodup → (∀ c ∈ ts, H1 c = none) → (∀ c ∈ as, H1 c = none ∧ c ≠ D) → (∀ (j : Nat) (t c : Addr) (h : Str), ts[j]? = some t → as[j]? = some c → hs[j]? = some h → H' t = some (.tup [.str h, .ref c]) ∧ H' c = some (.lst ((f h).map V.str))) → Qd H') :
    ∃ W : Nat → Nat → Hp → Prop, (∃ m, W 0 m (upd H1 D (.lst []))) ∧ ∀ i m H, W i m H → ((Itl K a).stop i H ∧ Qd H) ∨ ((Itl K a).go i H ∧ ∃ Nx : Hp → Prop, (∀ H', Nx H' → ∃ m', m' < m ∧ W (i + 1) m' H') ∧ ∀ x H', (Itl K a).yld i H x H' → gTup K 2 (gCons (gName i1) (gCons (gName i2) gNil)) x (wipe σ vs) H' fun σ2 H2 => wipe σ2 vs = wipe σ vs ∧ tYes σ2 H2 fun b H3 =>
      if b = true then te σ2 H3 fun y H4 => ∃ acc, H4 D = some (.lst acc) ∧ acc.length < sizeLine ∧ Nx (upd H4 D (.lst (acc ++ [y]))) else Nx H3) := by
  refine lc_it (walk_list (xs := ts0.map V.ref)) (Pv := fun i H' => ∃ ts as : List Addr, Kp N0 H1 H' ∧ H' D = some (.lst (ts.map V.ref)) ∧ ts.length = i ∧ as.length = i ∧ as.Nodup ∧ (∀ c ∈ ts, H1 c = none ∧ c ≠ D) ∧ (∀ c ∈ as, H1 c = none ∧ c ≠ D) ∧ ∀ (j : Nat) (t c : Addr) (h : Str), ts[j]? = some t → as[j]? = some c → hs[j]? = some h → H' t = some (.tup [.str h, .ref c]) ∧ H' c = some (.lst ((f h).map V.str)))
    ⟨[], [], Kp.new hD, upd_same, rfl, rfl, List.nodup_nil, (fun _ z => nomatch z), (fun _ z => nomatch z), fun j t c h e => by simp at e⟩ (fun i H' _ ⟨_, _, k, _⟩ => SqL.of (k.obj ha ntl nn)) (fun i x H' H'' hi ⟨ts, as, k, aD, e1, e2, nd, n1, n2, kn⟩ y => ?_) fun H' ⟨ts, as, k, aD, e1, e2, nd, n1, n2, kn⟩ => ?_
  · obtain ⟨rfl, hx⟩ := y
    rw [List.length_map] at hi
    have hih : i < hs.length := by rw [← l1]; exact hi
    have q1 : ts0[i]? = some ts0[i] := List.getElem?_eq_getElem hi
    have q2 : as0[i]? = some (as0[i]'(by omega)) := List.getElem?_eq_getElem (by omega)
    have q3 : hs[i]? = some hs[i] := List.getElem?_eq_getElem hih
    rw [List.getElem?_map, q1] at hx
    have ex : V.ref ts0[i] = x := Option.some.inj hx
    subst ex
    obtain ⟨z1, z2⟩ := kk i _ _ _ q1 q2 q3
    generalize as0[i]'(by omega) = b at q2 z1 z2
    have hin : hs[i] ∈ hs := List.getElem_mem hih
    generalize hs[i] = h at q3 z1 z2 hin
    refine ⟨_, _, rfl, SqT.of (k.obj z1 ntt nn), rfl, _, _, rfl, _, _, rfl, rfl, hw _ _, ?_⟩
    refine he h b H'' hin k (k.obj z2 ntl nn) _ fun q U fq fU => ?_
    have kq : Kp N0 H'' (upd H'' q (.lst ((f h).map V.str))) := Kp.new fq
    have kU : Kp N0 H'' (upd (upd H'' q (.lst ((f h).map V.str))) U (.tup [.str h, .ref q])) := kq.trans (Kp.new fU)
    have qU : q ≠ U := fun e => by rw [← e, upd_same] at fU; cases fU
    have aq : (upd (upd H'' q (.lst ((f h).map V.str))) U (.tup [.str h, .ref q])) q = some (.lst ((f h).map V.str)) := by rw [upd_ne qU, upd_same]
    have aU : (upd (upd H'' q (.lst ((f h).map V.str))) U (.tup [.str h, .ref q])) U = some (.tup [.str h, .ref q]) := upd_same
    have aD2 := kU.obj aD ntl nn
    have U0 : H'' U = none := kq.fresh fU
    generalize upd (upd H'' q (.lst ((f h).map V.str))) U (.tup [.str h, .ref q]) = H2 at kU aq aU aD2 ⊢
    have qD : q ≠ D := fun e => by rw [e, aD] at fq; cases fq
    have UD : U ≠ D := fun e => by rw [e, aD] at U0; cases U0
    refine ⟨_, aD2, by rw [List.length_map, e1, sizeLine_eq]; omega, ts ++ [U], as ++ [q], (k.trans kU).mut hD, ?_, by rw [List.length_append, e1]; rfl, by rw [List.length_append, e2]; rfl, ?_, fun c hc => ?_, fun c hc => ?_, fun j t c h' x1 x2 x3 => ?_⟩
    · rw [upd_same, List.map_append]
      rfl
    · refine List.nodup_append.mpr ⟨nd, List.pairwise_singleton _ _, fun c hc d hd' e => ?_⟩
      rw [List.mem_singleton.mp hd'] at e
      subst e
      obtain ⟨j, hj, ej⟩ := List.getElem_of_mem hc
      have z := (kn j (ts[j]'(by omega)) c (hs[j]'(by omega)) (List.getElem?_eq_getElem _) (by rw [List.getElem?_eq_getElem hj, ej]) (List.getElem?_eq_getElem _)).2
      rw [z] at fq
      cases fq
    · rcases List.mem_append.mp hc with z | z
      · exact n1 c z
      · rw [List.mem_singleton.mp z]
        exact ⟨k.fresh U0, UD⟩
    · rcases List.mem_append.mp hc with z | z
      · exact n2 c z
      · rw [List.mem_singleton.mp z]
        exact ⟨k.fresh fq, qD⟩
    · rcases Nat.lt_or_ge j i with lt | ge
      · rw [List.getElem?_append_left (by omega)] at x1 x2
        obtain ⟨y1, y2⟩ := kn j t c h' x1 x2 x3
        have tD := (n1 t (List.mem_of_getElem? x1)).2
        have cD := (n2 c (List.mem_of_getElem? x2)).2
        rw [upd_ne tD, upd_ne cD]
        exact ⟨kU.obj y1 ntt nn, kU.obj y2 ntl nn⟩
      · have ej : j = i := by
          have z := (List.getElem?_eq_some_iff.mp x1).1
          rw [List.length_append, e1] at z
          have z' : j < i + 1 := z
          omega
        subst ej
        rw [List.getElem?_append_right (by omega), e1, Nat.sub_self] at x1
        rw [List.getElem?_append_right (by omega), e2, Nat.sub_self] at x2
        have x1' : U = t := by simpa using x1
        have x2' : q = c := by simpa using x2
        rw [q3] at x3
        have x3' := Option.some.inj x3
        subst x1' x2' x3'
        rw [upd_ne UD, upd_ne qD]
        exact ⟨aU, aq⟩
  · rw [List.length_map, l1] at e1 e2
    exact hd H' ts as k aD e1 e2 nd (fun c hc => (n1 c hc).1) n2 kn
end
/-- over heads: a new pair of the head and its list, each -/
theorem lc_back {K : PySem.W.Frag} {a R : Addr} {te : TE} {vs : List Nat} {σ : L2.St} {H1 : Hp} {Qd : Hp → Prop} {i1 : Nat} {hs : List Str} {as : List Addr}
    (ha : H1 a = some (.lst (hs.map V.str))) (hR : H1 R = none) (few : hs.length ≤ 1000) (l : as.length = hs.length) (hw : ∀ x, wipe ((wipe σ vs).set i1 (some x)) vs = wipe σ vs)
    (he : ∀ (j : Nat) (h : Str) (c : Addr) (H : Hp), hs[j]? = some h → as[j]? = some c → Kp N0 H1 H → ∀ Q : VK, (∀ U, H U = none → Q (.ref U) (upd H U (.tup [.str h, .ref c]))) → te ((wipe σ vs).set i1 (some (.str h))) H Q)
    (hd : ∀ (H' : Hp) (ts : List Addr), Kp N0 H1 H' → H' R = some (.lst (ts.map V.ref)) → ts.length = hs.length → (∀ t ∈ ts, H1 t = none ∧ t ≠ R) → (∀ (j : Nat) (t c : Addr) (h : Str), ts[j]? = some t → as[j]? = some c → hs[j]? = some h → H' t = some (.tup [.str h, .ref c])) → Qd H') :
    ∃ W : Nat → Nat → Hp → Prop, (∃ m, W 0 m (upd H1 R (.lst []))) ∧ ∀ i m H, W i m H → ((Itl K a).stop i H ∧ Qd H) ∨ ((Itl K a).go i H ∧ ∃ Nx : Hp → Prop, (∀ H', Nx H' → ∃ m', m' < m ∧ W (i + 1) m' H') ∧ ∀ x H', (Itl K a).yld i H x H' → gName i1 x (wipe σ vs) H' fun σ2 H2 => wipe σ2 vs = wipe σ vs ∧ tYes σ2 H2 fun b H3 =>
      if b = true then te σ2 H3 fun y H4 => ∃ acc, H4 R = some (.lst acc) ∧ acc.length < sizeLine ∧ Nx (upd H4 R (.lst (acc ++ [y]))) else Nx H3) := by
  refine lc_it (walk_list (xs := hs.map V.str)) (Pv := fun i H' => ∃ ts : List Addr, Kp N0 H1 H' ∧ H' R = some (.lst (ts.map V.ref)) ∧ ts.length = i ∧ (∀ t ∈ ts, H1 t = none ∧ t ≠ R) ∧ ∀ (j : Nat) (t c : Addr) (h : Str), ts[j]? = some t → as[j]? = some c → hs[j]? = some h → H' t = some (.tup [.str h, .ref c]))
    ⟨[], Kp.new hR, upd_same, rfl, (fun _ z => nomatch z), fun j t c h e => by simp at e⟩ (fun i H' _ ⟨_, k, _⟩ => SqL.of (k.obj ha ntl nn)) (fun i x H' H'' hi ⟨ts, k, aR, e1, n1, kn⟩ y => ?_) fun H' ⟨ts, k, aR, e1, n1, kn⟩ => ?_
  · obtain ⟨rfl, hx⟩ := y
    rw [List.length_map] at hi
    have q1 : hs[i]? = some hs[i] := List.getElem?_eq_getElem hi
    have q2 : as[i]? = some (as[i]'(by omega)) := List.getElem?_eq_getElem (by omega)
    generalize as[i]'(by omega) = b at q2
    generalize hs[i] = h at q1
    rw [List.getElem?_map, q1] at hx
    have ex : V.str h = x := Option.some.inj hx
    subst ex
    refine ⟨hw _, ?_⟩
    refine he i h b H'' q1 q2 k _ fun U fU => ?_
    have kU : Kp N0 H'' (upd H'' U (.tup [.str h, .ref b])) := Kp.new fU
    have aU : (upd H'' U (.tup [.str h, .ref b])) U = some (.tup [.str h, .ref b]) := upd_same
    have aR2 := kU.obj aR ntl nn
    generalize upd H'' U (.tup [.str h, .ref b]) = H2 at kU aU aR2 ⊢
    have UR : U ≠ R := fun e => by rw [e, aR] at fU; cases fU
    refine ⟨_, aR2, by rw [List.length_map, e1, sizeLine_eq]; omega, ts ++ [U], (k.trans kU).mut hR, ?_, by rw [List.length_append, e1]; rfl, fun c hc => ?_, fun j t c h' x1 x2 x3 => ?_⟩
    · rw [upd_same, List.map_append]
      rfl
    · rcases List.mem_append.mp hc with z | z
      · exact n1 c z
      · rw [List.mem_singleton.mp z]
        exact ⟨k.fresh fU, UR⟩
    · rcases Nat.lt_or_ge j i with lt | ge
      · rw [List.getElem?_append_left (by omega)] at x1
        rw [upd_ne (n1 t (List.mem_of_getElem? x1)).2]
        exact kU.obj (kn j t c h' x1 x2 x3) ntt nn
      · have ej : j = i := by
          have z := (List.getElem?_eq_some_iff.mp x1).1
          rw [List.length_append, e1] at z
          have z' : j < i + 1 := z
          omega
        subst ej
        rw [List.getElem?_append_right (by omega), e1, Nat.sub_self] at x1
        have x1' : U = t := by simpa using x1
        rw [q2] at x2
        rw [q1] at x3
        have x2' := Option.some.inj x2
        have x3' := Option.some.inj x3
        subst x1' x2' x3'
        rw [upd_ne UR]
        exact aU
  · rw [List.length_map] at e1
    exact hd H' ts k aR e1 n1 kn
theorem cab_dn {S : Addr → Prop} {H : Hp} {f : Str → List Str} : ∀ {hs : List Str} {ts as : List Addr}, ts.length = hs.length → as.length = hs.length → (∀ t ∈ ts, ¬ S t) → (∀ a ∈ as, ¬ S a) → (∀ (j : Nat) (t c : Addr) (h : Str), ts[j]? = some t → as[j]? = some c → hs[j]? = some h → H t = some (.tup [.str h, .ref c]) ∧ H c = some (.lst ((f h).map V.str))) →
    DnA S H (ts.map V.ref) (hs.map fun h => .tuple [.str h, .list ((f h).map PyData.str)])
  | [], [], as, _, _, _, _, _ => .nil
  | [], t :: ts, _, h, _, _, _, _ => by cases h
  | h :: hs, [], _, e, _, _, _, _ => by cases e
  | h :: hs, t :: ts, [], _, e, _, _, _ => by cases e
  | h :: hs, t :: ts, a :: as, l1, l2, s1, s2, k => by
    obtain ⟨z1, z2⟩ := k 0 t a h rfl rfl rfl
    exact .cons (.tup (s1 t List.mem_cons_self) z1 (.cons (.str h) (.cons (.lst (s2 a List.mem_cons_self) z2 (DnA.strs _)) .nil))) (cab_dn (Nat.succ.inj l1) (Nat.succ.inj l2) (fun x hx => s1 x (List.mem_cons_of_mem _ hx)) (fun x hx => s2 x (List.mem_cons_of_mem _ hx)) fun j t c h e1 e2 e3 => k (j + 1) t c h (by simpa using e1) (by simpa using e2) (by simpa using e3))
/-- at D a dict of heads, a list each; the lists are new since H0 -/
structure Lies (H0 H : Hp) (D : Addr) (hs : List Str) (g : Str → List Str) (as : List Addr) : Prop where
  dict : H D = some (.dK (dkv hs as))
  len : as.length = hs.length
  nd : as.Nodup
  new : ∀ a ∈ as, H0 a = none
  lst : ∀ (j : Nat) (a : Addr) (h : Str), as[j]? = some a → hs[j]? = some h → H a = some (.lst ((g h).map V.str))
theorem Lies.ne {H0 H : Hp} {D : Addr} {hs : List Str} {g : Str → List Str} {as : List Addr} (z : Lies H0 H D hs g as) : D ∉ as := fun m => by
  obtain ⟨j, hj, e⟩ := List.getElem_of_mem m
  have l := z.len
  have y := z.lst j D (hs[j]'(by omega)) (by rw [List.getElem?_eq_getElem hj, e]) (List.getElem?_eq_getElem _)
  rw [z.dict] at y
  cases y
theorem Lies.kp {S : Addr → Prop} {H0 H H' : Hp} {D : Addr} {hs : List Str} {g : Str → List Str} {as : List Addr} (z : Lies H0 H D hs g as) (k : Kp S H H') (hD : ¬ S D) (ha : ∀ a ∈ as, ¬ S a) : Lies H0 H' D hs g as :=
  ⟨k.obj z.dict ntd hD, z.len, z.nd, z.new, fun j a h e1 e2 => k.obj (z.lst j a h e1 e2) ntl (ha a (List.mem_of_getElem? e1))⟩
theorem Lies.get {H0 H : Hp} {D : Addr} {hs : List Str} {g : Str → List Str} {as : List Addr} (z : Lies H0 H D hs g as) (hn : hs.Nodup) {h : Str} (hh : h ∈ hs) :
    ∃ (j : Nat) (a : Addr), as[j]? = some a ∧ hs[j]? = some h ∧ DGet H D (.str h) (some (.ref a)) ∧ H a = some (.lst ((g h).map V.str)) := by
  obtain ⟨j, hj⟩ := List.getElem?_of_mem hh
  have jl : j < as.length := by
    rw [z.len]
    exact (List.getElem?_eq_some_iff.mp hj).1
  have e1 : as[j]? = some as[j] := List.getElem?_eq_getElem jl
  have g := DGet.k (k := .inr h) z.dict
  rw [dkv_at hs as j h as[j] hn hj e1] at g
  exact ⟨j, as[j], e1, hj, g, z.lst j _ _ e1 hj⟩
theorem nd_at {α : Type} {l : List α} (nd : l.Nodup) {i j : Nat} {x : α} (h1 : l[i]? = some x) (h2 : l[j]? = some x) : i = j := by
  obtain ⟨a1, b1⟩ := List.getElem?_eq_some_iff.mp h1
  obtain ⟨a2, b2⟩ := List.getElem?_eq_some_iff.mp h2
  rcases Nat.lt_trichotomy i j with c | c | c
  · exact (List.pairwise_iff_getElem.mp nd i j a1 a2 c (b1.trans b2.symm)).elim
  · exact c
  · exact (List.pairwise_iff_getElem.mp nd j i a2 a1 c (b2.trans b1.symm)).elim
theorem Lies.mutL {H0 H : Hp} {D : Addr} {hs : List Str} {g : Str → List Str} {as : List Addr} (z : Lies H0 H D hs g as) (hn : hs.Nodup) {j : Nat} {a : Addr} {h : Str} (e1 : as[j]? = some a) (e2 : hs[j]? = some h) (l : List Str) :
    Lies H0 (upd H a (.lst (l.map V.str))) D hs (fun x => if x = h then l else g x) as := by
  have am := List.mem_of_getElem? e1
  have aD : D ≠ a := fun e => z.ne (by rw [e]; exact am)
  refine ⟨by rw [upd_ne aD]; exact z.dict, z.len, z.nd, z.new, fun i c x q1 q2 => ?_⟩
  by_cases c1 : c = a
  · subst c1
    have ij := nd_at z.nd q1 e1
    subst ij
    rw [e2] at q2
    have q3 := Option.some.inj q2
    subst q3
    rw [upd_same, if_pos rfl]
  · rw [upd_ne c1, if_neg]
    · exact z.lst i c x q1 q2
    · intro q3
      subst q3
      have ij := nd_at hn q2 e2
      subst ij
      rw [e1] at q1
      exact c1 (Option.some.inj q1).symm
theorem dkv_put : ∀ (hs : List Str) (as : List Addr) (j : Nat) (h : Str) (q : Addr), hs.Nodup → as.length = hs.length → hs[j]? = some h → putK (dkv hs as) (.inr h) (.ref q) = dkv hs (as.set j q) := fun hs as j h q nd l e => by
  have hv : valV (dkv hs as) (.inr h) = some (.ref (as[j]'(by have := (List.getElem?_eq_some_iff.mp e).1; omega))) := dkv_at hs as j h _ nd e (List.getElem?_eq_getElem _)
  unfold putK
  rw [if_pos (by rw [valV_any, hv]; rfl)]
  have key : ∀ (hs : List Str) (as : List Addr) (j : Nat), hs.Nodup → as.length = hs.length → hs[j]? = some h → (dkv hs as).map (fun kv => if kv.1 = (.inr h : Key) then (kv.1, V.ref q) else kv) = dkv hs (as.set j q) := by
    intro hs
    induction hs with
    | nil => intro as j _ _ e; simp at e
    | cons x hs ih =>
      intro as j nd l e
      obtain ⟨n1, n2⟩ := List.nodup_cons.mp nd
      cases as with
      | nil => cases l
      | cons a as =>
        have l' : as.length = hs.length := Nat.succ.inj l
        cases j with
        | zero =>
          have e' : x = h := by simpa using e
          subst e'
          have rest : (dkv hs as).map (fun kv => if kv.1 = (.inr x : Key) then (kv.1, V.ref q) else kv) = dkv hs as := by
            have : (dkv hs as).map (fun kv => if kv.1 = (.inr x : Key) then (kv.1, V.ref q) else kv) = (dkv hs as).map id := by
              refine List.map_congr_left fun kv hk => ?_
              unfold dkv at hk
              obtain ⟨p, hp, ep⟩ := List.mem_map.mp hk
              have hm := (List.of_mem_zip hp).1
              rw [if_neg]
              · rfl
              · intro c
                rw [← ep] at c
                exact n1 (by rw [← Sum.inr.inj c]; exact hm)
            rw [this, List.map_id]
          show (if (Sum.inr x : Key) = .inr x then ((.inr x : Key), V.ref q) else (.inr x, .ref a)) :: (dkv hs as).map _ = _
          rw [if_pos rfl, rest]
          rfl
        | succ j =>
          have e' : hs[j]? = some h := by simpa using e
          have ne : ¬ (Sum.inr x : Key) = .inr h := fun c => n1 (by rw [Sum.inr.inj c]; exact List.mem_of_getElem? e')
          show (if (Sum.inr x : Key) = .inr h then ((.inr x : Key), V.ref q) else (.inr x, .ref a)) :: (dkv hs as).map _ = _
          rw [if_neg ne, ih as j n2 l' e']
          rfl
  exact key hs as j nd l e
theorem Lies.putD {H0 H : Hp} {D : Addr} {hs : List Str} {g : Str → List Str} {as : List Addr} (z : Lies H0 H D hs g as) (hn : hs.Nodup) {j : Nat} {h : Str} (e2 : hs[j]? = some h) {l : List Str} {q : Addr} (q0 : H0 q = none) (hq : H q = some (.lst (l.map V.str))) (qn : q ∉ as) :
    Lies H0 (upd H D (.dK (putK (dkv hs as) (.inr h) (.ref q)))) D hs (fun x => if x = h then l else g x) (as.set j q) := by
  have qD : q ≠ D := fun e => by rw [e, z.dict] at hq; cases hq
  have jl : j < as.length := by
    rw [z.len]
    exact (List.getElem?_eq_some_iff.mp e2).1
  refine ⟨by rw [upd_same, dkv_put hs as j h q hn z.len e2], by rw [List.length_set]; exact z.len, ?_, fun c hc => ?_, fun i c x q1 q2 => ?_⟩
  · refine List.pairwise_iff_getElem.mpr fun i k hi hk lt => ?_
    rw [List.length_set] at hi hk
    rw [List.getElem_set, List.getElem_set]
    split
    · split
      · omega
      · intro e
        exact qn (by rw [e]; exact List.getElem_mem _)
    · split
      · intro e
        exact qn (by rw [← e]; exact List.getElem_mem _)
      · exact List.pairwise_iff_getElem.mp z.nd i k hi hk lt
  · rcases List.mem_or_eq_of_mem_set hc with y | y
    · exact z.new c y
    · rw [y]
      exact q0
  · by_cases ij : i = j
    · subst ij
      rw [List.getElem?_set_self jl] at q1
      have e := Option.some.inj q1
      subst e
      rw [e2] at q2
      have e := Option.some.inj q2
      subst e
      rw [upd_ne qD, if_pos rfl]
      exact hq
    · rw [List.getElem?_set_ne (fun e => ij e.symm)] at q1
      have cD : c ≠ D := fun e => z.ne (by rw [← e]; exact List.mem_of_getElem? q1)
      rw [upd_ne cD, if_neg]
      · exact z.lst i c x q1 q2
      · intro e
        subst e
        exact ij (nd_at hn q2 e2)
end Fc
set_option maxHeartbeats 4000000
/-! A cabinet with some sheets that lie otherwise. -/
namespace Fc
open PySem PySem.Spec PyProof.Rows L2
def odd3 : List Str := ["odd", "o", "dee"]
def nmW : List Str := nm0 ++ odd3
def ten : Str := "abcdefghij"
def qn (k : Nat) : Str := (("q" : Str) ++ signS (97 + k / 10)) ++ signS (97 + k % 10)
def qAll : List Str := (List.range 60).map qn
def wAll : List Str := nmW ++ qAll
theorem wAll_ok : ∀ x ∈ wAll, isWordM x = true := by decide +kernel
theorem wAll_nd : wAll.Nodup := by decide +kernel
theorem ten_at : ∀ k < 10, ten.cps[k]? = some (97 + k) := by decide
/-- rising lists of names of W -/
def FG (W hs : List Str) (g : Str → List Str) : Prop := ∀ h ∈ hs, Rs (g h) ∧ ∀ x ∈ g h, x ∈ W
theorem FG.mono {W W' hs : List Str} {g : Str → List Str} (z : FG W hs g) (k : ∀ x ∈ W, x ∈ W') : FG W' hs g := fun h hh => ⟨(z h hh).1, fun x hx => k x ((z h hh).2 x hx)⟩
theorem FG.len {W hs : List Str} {g : Str → List Str} (z : FG W hs g) {h : Str} (hh : h ∈ hs) : (g h).length ≤ W.length := nodup_le (z h hh).1.nd (z h hh).2
theorem FG.add {W hs : List Str} {g : Str → List Str} (z : FG W hs g) {t x : Str} (ht : t ∈ hs) (hx : x ∈ W) : FG W hs (fun y => if y = t then riseS (g t ++ [x]) else g y) := fun h hh => by
  show Rs (if h = t then _ else _) ∧ ∀ y ∈ (if h = t then _ else _), y ∈ W
  split
  · refine ⟨riseS_rs _, fun y hy => ?_⟩
    rcases List.mem_append.mp ((riseS_mem _ _).mp hy) with q | q
    · exact (z t ht).2 y q
    · rw [List.mem_singleton.mp q]
      exact hx
  · exact z h hh
theorem FG.less {W hs : List Str} {g : Str → List Str} (z : FG W hs g) {t : Str} (ht : t ∈ hs) (i : Nat) : FG W hs (fun y => if y = t then (g t).eraseIdx i else g y) := fun h hh => by
  show Rs (if h = t then _ else _) ∧ ∀ y ∈ (if h = t then _ else _), y ∈ W
  split
  · refine ⟨List.Pairwise.sublist (List.eraseIdx_sublist ..) (z t ht).1, fun y hy => (z t ht).2 y ((List.eraseIdx_sublist ..).subset hy)⟩
  · exact z h hh
theorem FG.good {rs : List Row} {g : Str → List Str} (z : FG wAll (ruleHeadsM rs) g) : GoodC rs g :=
  ⟨fun h hh x hx => wAll_ok x ((z h hh).2 x hx), fun h hh => (z h hh).1, fun h hh => Nat.le_trans (z.len hh) (by decide +kernel)⟩
theorem FG.more {hs : List Str} {g : Str → List Str} (z : FG nmW hs g) {t : Str} (ht : t ∈ hs) {n : Nat} (hn : n ≤ 60) : FG wAll hs (fun y => if y = t then riseS (g t ++ (List.range n).map qn) else g y) := fun h hh => by
  show Rs (if h = t then _ else _) ∧ ∀ y ∈ (if h = t then _ else _), y ∈ wAll
  split
  · refine ⟨riseS_rs _, fun y hy => ?_⟩
    rcases List.mem_append.mp ((riseS_mem _ _).mp hy) with q | q
    · exact List.mem_append_left _ ((z t ht).2 y q)
    · obtain ⟨k, hk, e⟩ := List.mem_map.mp q
      exact List.mem_append_right _ (List.mem_map.mpr ⟨k, by rw [List.mem_range] at hk ⊢; omega, e⟩)
  · exact ⟨(z h hh).1, fun x hx => List.mem_append_left _ ((z h hh).2 x hx)⟩
theorem more_nd {hs : List Str} {g : Str → List Str} (z : FG nmW hs g) {t : Str} (ht : t ∈ hs) {n : Nat} (hn : n ≤ 60) : (g t ++ (List.range n).map qn).Nodup := by
  obtain ⟨n1, n2, n3⟩ := List.nodup_append.mp wAll_nd
  refine List.nodup_append.mpr ⟨(z t ht).1.nd, ?_, fun x hx y hy => n3 x ((z t ht).2 x hx) y ?_⟩
  · refine List.Nodup.sublist ?_ n2
    have e : (List.range n).map qn = (qAll).take n := by
      unfold qAll
      rw [← List.map_take, List.take_range, Nat.min_eq_left hn]
    rw [e]
    exact List.take_sublist _ _
  · obtain ⟨k, hk, e⟩ := List.mem_map.mp hy
    exact List.mem_map.mpr ⟨k, by rw [List.mem_range] at hk ⊢; omega, e⟩
theorem FG.ok {hs : List Str} {g : Str → List Str} {W : List Str} (z : FG W hs g) (hw : ∀ x ∈ W, x ∈ wAll) {h : Str} (hh : h ∈ hs) : ∀ x ∈ g h, PyData.strOk x = true := fun x hx => isWordM_ok (wAll_ok x (hw x ((z h hh).2 x hx)))
/-- _law_foul(box, rule, cabinet) -/
def spFoul (W : List Str) : Sp := fun vs H Q _ => ∃ (b l : Addr) (v u : V) (rs : List Row) (f : Str → List Str), vs = [.ref b, v, u] ∧ Box H b l ∧ Dn N0 H v (ruleD rs) ∧ GoodR rs ∧ Dn N0 H u (drawD (ruleHeadsM rs) f) ∧ FG nm0 (ruleHeadsM rs) f ∧
  ∀ (g : Str → List Str) p H', FG W (ruleHeadsM rs) g → H p = none → Box H' b l → Kp (sB b l) H H' → Dn (sB b l) H' (.ref p) (drawD (ruleHeadsM rs) g) → Q (.ref p) H'
end Fc
set_option maxHeartbeats 4000000
/-! Cabinets compared; what is looked for, as data. -/
namespace Fc
open PySem PySem.Spec PyProof.Rows L2
section
variable {X : Cx} {K : PySem.W.Frag}
theorem call_dictPK (hcalm : X.calm = true) (hK : X.K = K := by rfl) : CallR X (.type "dict") (fun xs H Q => ∃ (a : Addr) (ps : List Addr) (kvs : List (Key × V)), xs = [.ref a] ∧ SqL K H a (ps.map V.ref) ∧ Paired (fun p kv => SqT K H p [kV kv.1, kv.2]) ps kvs ∧
    ∀ p, H p = none → Q (.ref p) (upd H p (.dK (mergeK [] kvs)))) := by
  subst hK
  exact call_dictP hcalm
end
theorem layC {f : Str → List Str} : ∀ {hs : List Str}, (∀ h ∈ hs, PyData.strOk h = true) → (∀ h ∈ hs, ∀ x ∈ f h, PyData.strOk x = true) → PyData.canLayAll0 (hs.map fun h => .tuple [.str h, .list ((f h).map PyData.str)]) = true
  | [], _, _ => by simp [PyData.canLayAll0]
  | h :: hs, h1, h2 => by
    have ih := layC (fun x hx => h1 x (List.mem_cons_of_mem _ hx)) (fun x hx => h2 x (List.mem_cons_of_mem _ hx))
    have a := h1 h List.mem_cons_self
    have b := layS (f h) (h2 h List.mem_cons_self)
    simp only [List.map_cons, PyData.canLayAll0, PyData.canLay0, a, b, ih, Bool.and_self]
theorem shapedC {f : Str → List Str} {hs : List Str} (h1 : ∀ h ∈ hs, PyData.strOk h = true) (h2 : ∀ h ∈ hs, ∀ x ∈ f h, PyData.strOk x = true) : SeqAt.shaped (drawD hs f) = true := by
  have a := layC h1 h2
  have d := depthD f hs
  unfold SeqAt.shaped drawD
  rw [Bool.and_eq_true]
  exact ⟨by simp only [PyData.canLay0]; exact a, decide_eq_true (by simp only [PyData.depth]; omega)⟩
theorem ruleHeads_ok {rs : List Row} (g : GoodR rs) : ∀ h ∈ ruleHeadsM rs, PyData.strOk h = true := fun h hh => by
  rcases List.mem_append.mp ((riseS_mem _ _).mp hh) with z | z
  · obtain ⟨r, hr, e⟩ := List.mem_map.mp z
    rw [← e]
    exact isRowM_ok (g.row r hr)
  · rw [List.mem_singleton.mp z]
    decide +kernel
def optP (o : Option Str) : PyData := (o.map PyData.str).getD .none
def lookD (p : Str → Bool) (out : List Str) : PyData := .tuple [.list ((upTo p out).map PyData.str), optP (out.find? p)]
theorem optV_dn {S : Addr → Prop} {H : Hp} (o : Option Str) : Dn S H (optV o) (optP o) := by
  cases o with
  | none => exact .non
  | some x => exact .str x
theorem upTo_sub (p : Str → Bool) : ∀ l : List Str, (upTo p l).Sublist l
  | [] => .slnil
  | x :: r => by
    unfold upTo
    split
    · exact (List.nil_sublist r).cons_cons x
    · exact (upTo_sub p r).cons_cons x
theorem lookD_small {rs : List Row} (g : GoodR rs) {m : Str} {out : List Str} (ho : orderM rs m out) (p : Str → Bool) : PyData.depth (lookD p out) < 3 ∧ PyData.weight (lookD p out) ≤ 1000000 := by
  have sm : ∀ z ∈ out, z.cps.size ≤ 1000 := fun z hz => by
    have c := ruleHeads_small g z ((orderM_mem ho z).mp hz)
    have e : z.length = z.cps.size := rfl
    omega
  have l1 := (upTo_sub p out).length_le
  have l2 := orderM_len ho
  have l3 := ruleHeads_len rs
  have few := g.few
  have w := weightS (upTo p out) fun z hz => sm z ((upTo_sub p out).subset hz)
  have d := depthS (upTo p out)
  have o : PyData.depth (optP (out.find? p)) = 0 ∧ PyData.weight (optP (out.find? p)) ≤ 1001 := by
    cases e : out.find? p with
    | none => exact ⟨by simp [optP, PyData.depth], by simp [optP, PyData.weight]⟩
    | some x =>
      have z := sm x (List.mem_of_find?_eq_some e)
      exact ⟨by simp [optP, PyData.depth], by simp only [optP, Option.map_some, Option.getD_some, PyData.weight]; omega⟩
  unfold lookD
  simp only [PyData.depth, PyData.depthAll, PyData.weight, PyData.weightAll, d, o.1]
  omega
theorem filter_head {p : Str → Bool} : ∀ {l : List Str} {x : Str} {r : List Str}, l.filter p = x :: r → ∃ j : Nat, l[j]? = some x ∧ (∀ y ∈ l.take j, p y = false) ∧ p x = true
  | [], _, _, h => by cases h
  | a :: l, x, r, h => by
    cases c : p a with
    | true =>
      rw [List.filter_cons, if_pos c] at h
      injection h with h1 h2
      subst h1
      exact ⟨0, rfl, (fun y hy => nomatch hy), c⟩
    | false =>
      rw [List.filter_cons, if_neg (by rw [c]; exact Bool.false_ne_true)] at h
      obtain ⟨j, h1, h2, h3⟩ := filter_head h
      refine ⟨j + 1, by simpa using h1, fun y hy => ?_, h3⟩
      rw [List.take_succ_cons] at hy
      rcases List.mem_cons.mp hy with z | z
      · rw [z]; exact c
      · exact h2 y z
theorem eqV_str (x y : Str) : eqV (.str x) (.str y) = decide (x = y) := by
  show (x == y) = _
  rw [Bool.eq_iff_iff]
  simp
end Fc
set_option maxHeartbeats 4000000
/-! A sheet behind slips: where it is looked for. -/
namespace Fc
open PySem PySem.Spec PyProof.Rows L2
section
variable {X : Cx} {K : PySem.W.Frag}
theorem cr_setTw {w : World} (hc : X.calm = true) (hw : X.w = w := by rfl) : CallR X (.type "set") (rSetT w) := by
  subst hw
  exact cr_setT hc
theorem sl_listK (h : X.K = K := by rfl) : SlR X (rSlL K) := by
  subst h
  exact sl_list
end
theorem slips_some {rs : List Row} {m : Str} {sl : List Nat} (h : sl.Sublist (namedM rs)) : ∃ c, slipsM rs m (mainM rs (afterM m sl)) = some c ∧ c ≤ sl.length := by
  unfold slipsM firstC
  have hm := (choices_mem (namedM rs) sl).mpr h
  cases e : (choices (namedM rs)).find? fun s => decide (mainM rs (afterM m s) = mainM rs (afterM m sl)) with
  | none =>
    have z := List.find?_eq_none.mp e sl hm
    exact (z (decide_eq_true rfl)).elim
  | some s =>
    exact ⟨s.length, rfl, find_min List.length _ (choices_up _) e sl hm (decide_eq_true rfl)⟩
theorem after_nil {m : Str} (h : isMarksM m = true) : afterM m [] = m := by
  have e : m = oS (a2h.cps.toList.filter (sg m)) := of_decide_eq_true h
  unfold afterM
  have z : (fun c => sg m c != decide (c ∈ ([] : List Nat))) = sg m := funext fun c => by
    have : decide (c ∈ ([] : List Nat)) = false := by simp
    rw [this]
    cases sg m c <;> rfl
  rw [z]
  exact e.symm
theorem slips_main {rs : List Row} {m : Str} (h : isMarksM m = true) : slipsM rs m (mainM rs m) = some 0 := by
  obtain ⟨c, e, l⟩ := slips_some (rs := rs) (m := m) (List.nil_sublist (namedM rs))
  rw [after_nil h] at e
  have : c = 0 := by simpa using l
  rw [e, this]
theorem slips_zero {rs : List Row} {m x : Str} (h : isMarksM m = true) (e : slipsM rs m x = some 0) : x = mainM rs m := by
  unfold slipsM firstC at e
  obtain ⟨s, hs, l⟩ := Option.map_eq_some_iff.mp e
  have sn : s = [] := List.length_eq_zero_iff.mp l
  have z := List.find?_some (p := fun sl => decide (mainM rs (afterM m sl) = x)) hs
  rw [sn, after_nil h] at z
  exact (of_decide_eq_true z).symm
def tog (named sl : List Nat) (c : Nat) : List Nat := named.filter fun x => decide (x ∈ sl) != decide (x = c)
theorem tog_sub (named sl : List Nat) (c : Nat) : (tog named sl c).Sublist named := List.filter_sublist
theorem tog_len {named sl : List Nat} {c : Nat} (nd : named.Nodup) : (tog named sl c).length ≤ sl.length + 1 := by
  refine nodup_le (m := c :: sl) (nd.sublist (tog_sub _ _ _)) fun x hx => ?_
  have z := (List.mem_filter.mp hx).2
  by_cases e : x = c
  · rw [e]
    exact List.mem_cons_self
  · rw [decide_eq_false e] at z
    refine List.mem_cons_of_mem _ ?_
    simpa using z
theorem tog_after {rs : List Row} {m : Str} {sl : List Nat} {c : Nat} (hs : sl.Sublist (namedM rs)) (hc : c ∈ namedM rs) : afterM (afterM m sl) [c] = afterM m (tog (namedM rs) sl c) := by
  unfold afterM
  congr 1
  refine List.filter_congr fun x hx => ?_
  rw [sg_oS]
  have e1 : decide (x ∈ a2h.cps.toList.filter fun c => sg m c != decide (c ∈ sl)) = (sg m x != decide (x ∈ sl)) := by
    rw [Bool.eq_iff_iff, decide_eq_true_eq, List.mem_filter]
    exact ⟨fun h => h.2, fun h => ⟨hx, h⟩⟩
  have e2 : decide (x ∈ [c]) = decide (x = c) := by simp
  have e3 : decide (x ∈ tog (namedM rs) sl c) = (decide (x ∈ sl) != decide (x = c)) := by
    unfold tog
    rw [Bool.eq_iff_iff, decide_eq_true_eq, List.mem_filter]
    refine ⟨fun h => h.2, fun h => ⟨?_, h⟩⟩
    by_cases y : x ∈ sl
    · exact hs.subset y
    · by_cases z : x = c
      · rw [z]
        exact hc
      · rw [decide_eq_false y, decide_eq_false z] at h
        cases h
  rw [e1, e2, e3]
  cases sg m x <;> cases decide (x ∈ sl) <;> cases decide (x = c) <;> rfl
theorem after_marks (m : Str) (sl : List Nat) : isMarksM (afterM m sl) = true := decide_eq_true (marks_of List.filter_sublist)
theorem order_ahead {rs : List Row} {m : Str} {out : List Str} (ho : orderM rs m out) {j : Nat} {h : Str} {c : Nat} (hj : out[j]? = some h) (hc : slipsM rs m h = some c) : ∀ x ∈ out.take j, ∃ c', slipsM rs m x = some c' ∧ c' ≤ c := by
  obtain ⟨ranked, so, nd, k, rfl⟩ := ho
  have jl : j < ranked.length := by
    rcases Nat.lt_or_ge j ranked.length with z | z
    · exact z
    · rw [List.getElem?_append_right (by rw [List.length_map]; exact z)] at hj
      have y := (List.mem_filter.mp (List.mem_of_getElem? hj)).2
      rw [hc] at y
      cases y
  rw [List.getElem?_append_left (by rw [List.length_map]; exact jl), List.getElem?_map, List.getElem?_eq_getElem jl] at hj
  have eh : ranked[j].2 = h := Option.some.inj hj
  intro x hx
  rw [List.take_append_of_le_length (by rw [List.length_map]; omega), ← List.map_take] at hx
  obtain ⟨q, hq, e⟩ := List.mem_map.mp hx
  obtain ⟨i, hi, ei⟩ := List.getElem_of_mem hq
  rw [List.length_take] at hi
  rw [List.getElem_take] at ei
  have il : i < ranked.length := by omega
  obtain ⟨n, en, sn⟩ := (k q.1 q.2).mp (List.mem_of_mem_take hq)
  obtain ⟨n2, en2, sn2⟩ := (k ranked[j].1 ranked[j].2).mp (List.getElem_mem jl)
  rw [eh, hc] at sn2
  have ec : c = n2 := Option.some.inj sn2
  have lt : lexI ranked[j] ranked[i] = false := List.pairwise_iff_getElem.mp so i j il jl (by omega)
  refine ⟨n, by rw [← e]; exact sn, ?_⟩
  rw [ei] at lt
  unfold lexI at lt
  split at lt
  · omega
  · have z := of_decide_eq_false lt
    omega
theorem order_first {rs : List Row} {m : Str} {out : List Str} (hm : isMarksM m = true) (ho : orderM rs m out) : out[0]? = some (mainM rs m) := by
  obtain ⟨ranked, so, nd, k, rfl⟩ := ho
  have hin : ((0 : Int), mainM rs m) ∈ ranked := (k _ _).mpr ⟨0, rfl, slips_main hm⟩
  cases ranked with
  | nil => cases hin
  | cons q r =>
    show some q.2 = _
    obtain ⟨h1, h2⟩ := List.pairwise_cons.mp so
    obtain ⟨n, en, sn⟩ := (k q.1 q.2).mp List.mem_cons_self
    rcases List.mem_cons.mp hin with z | z
    · rw [← z]
    · have lt : lexI ((0 : Int), mainM rs m) q = false := h1 _ z
      by_cases e : q.1 = 0
      · have n0 : n = 0 := by omega
        rw [n0] at sn
        rw [slips_zero hm sn]
      · unfold lexI at lt
        rw [if_neg (fun y => e y.symm)] at lt
        have y := of_decide_eq_false lt
        have y' : ¬ (0 : Int) < q.1 := y
        omega
/-- the one drawer with the sheet, the others without -/
def f8 (head h : Str) : List Str := if h = head then ["aa", "it"] else ["aa"]
theorem f8_it (head : Str) : (fun h => decide (("it" : Str) ∈ f8 head h)) = fun h => decide (h = head) := funext fun h => by
  unfold f8
  by_cases e : h = head
  · rw [if_pos e, decide_eq_true e]
    decide
  · rw [if_neg e, decide_eq_false e]
    decide
theorem f8_gone (head : Str) : (fun h => decide (("gone" : Str) ∈ f8 head h)) = fun _ => false := funext fun h => by
  unfold f8
  split <;> decide
theorem f8_good (rs : List Row) (head : Str) : GoodC rs (f8 head) := by
  refine ⟨fun h _ => ?_, fun h _ => ?_, fun h _ => ?_⟩
  · unfold f8
    split <;> decide +kernel
  · unfold f8
    split
    · unfold Rs
      decide +kernel
    · exact List.pairwise_singleton _ _
  · unfold f8
    split <;> decide
theorem f8_cut (head h : Str) : (["aa", "it"] : List Str).take ((1 : Int) + (if decide (h = head) = true then 1 else 0)).toNat = f8 head h := by
  unfold f8
  by_cases e : h = head
  · rw [decide_eq_true e, if_pos rfl, if_pos e]
    rfl
  · rw [decide_eq_false e, if_neg Bool.false_ne_true, if_neg e]
    rfl
theorem find_head {out : List Str} {j : Nat} {head : Str} (nd : out.Nodup) (hj : out[j]? = some head) : upTo (fun h => decide (h = head)) out = out.take j ++ [head] ∧ out.find? (fun h => decide (h = head)) = some head := by
  refine upTo_at hj (fun y hy => decide_eq_false fun e => ?_) (decide_eq_true rfl)
  rw [e] at hy
  obtain ⟨i, hi, ei⟩ := List.getElem_of_mem hy
  rw [List.length_take] at hi
  rw [List.getElem_take] at ei
  have il : i < out.length := by omega
  have := nd_at nd (i := i) (j := j) (x := head) (by rw [List.getElem?_eq_getElem il, ei]) hj
  omega
theorem shaped_one {h : Str} (z : PyData.strOk h = true) : SeqAt.shaped (.tuple [.list [.str h], .str h]) = true := by
  unfold SeqAt.shaped
  rw [Bool.and_eq_true]
  exact ⟨by simp [PyData.canLay0, PyData.canLayAll0, z], decide_eq_true (by simp [PyData.depth, PyData.depthAll])⟩
theorem rise_order {rs : List Row} {m : Str} {out : List Str} (ho : orderM rs m out) : riseS out = ruleHeadsM rs := (riseS_of (riseS_rs _) fun x => (orderM_mem ho x).symm).symm
end Fc
set_option maxHeartbeats 4000000
/-! Two rules: what parts them. -/
namespace Fc
open PySem PySem.Spec PyProof.Rows L2
def toldD (rs : List Row) (m : Str) : PyData := .tuple [.str (mainM rs m), .list ((headsM rs m).map PyData.str)]
def diffB (r1 r2 : List Row) (sl : List Nat) : Bool := !(decide (mainM r1 (oS sl) = mainM r2 (oS sl)) && decide (headsM r1 (oS sl) = headsM r2 (oS sl)))
def partM (r1 r2 : List Row) : Option (List Nat) := (choices (namedM (r1 ++ r2))).find? (diffB r1 r2)
def partO (r1 r2 : List Row) : Option (List Nat) → PyData
  | none => .none
  | some sl => .tuple [.str (oS sl), toldD r1 (oS sl), toldD r2 (oS sl)]
def partD (r1 r2 : List Row) : PyData := partO r1 r2 (partM r1 r2)
theorem eqvAll_str : ∀ l m : List Str, PyData.eqvAll (l.map PyData.str) (m.map PyData.str) = decide (l = m)
  | [], [] => by simp [PyData.eqvAll]
  | [], _ :: _ => by simp [PyData.eqvAll]
  | _ :: _, [] => by simp [PyData.eqvAll]
  | x :: l, y :: m => by
    have ih := eqvAll_str l m
    rw [List.map_cons, List.map_cons, PyData.eqvAll, ih, PyData.eqv]
    rw [Bool.eq_iff_iff, Bool.and_eq_true, decide_eq_true_eq, decide_eq_true_eq, beq_iff_eq, List.cons.injEq]
theorem eqv_told (r1 r2 : List Row) (sl : List Nat) : (!PyData.eqv (toldD r1 (oS sl)) (toldD r2 (oS sl))) = diffB r1 r2 sl := by
  unfold toldD diffB
  rw [PyData.eqv, PyData.eqvAll, PyData.eqvAll, PyData.eqvAll, PyData.eqv, PyData.eqv, eqvAll_str, Bool.and_true]
  congr 2
theorem turn_in {rs : List Row} {m z : Str} (h : z ∈ turnM rs m) : z ∈ ruleHeadsM rs := by
  refine (riseS_mem _ _).mpr ?_
  unfold turnM at h
  split at h
  · exact List.mem_append_right _ h
  · obtain ⟨r, hr, e⟩ := List.mem_map.mp h
    exact List.mem_append_left _ (List.mem_map.mpr ⟨r, (List.mem_filter.mp hr).1, e⟩)
theorem heads_in {rs : List Row} {m z : Str} (h : z ∈ headsM rs m) : z ∈ ruleHeadsM rs := turn_in ((riseS_mem _ _).mp h)
theorem told_shaped {rs : List Row} (g : GoodR rs) (m : Str) : SeqAt.shaped (toldD rs m) = true := by
  have ok := ruleHeads_ok g
  have a := ok _ (main_in rs m)
  have b := layS (headsM rs m) fun z hz => ok z (heads_in hz)
  have d := depthS (headsM rs m)
  unfold SeqAt.shaped toldD
  rw [Bool.and_eq_true]
  exact ⟨by simp only [PyData.canLay0, PyData.canLayAll0, a, b, Bool.and_self], decide_eq_true (by simp only [PyData.depth, PyData.depthAll, d]; omega)⟩
theorem told_small {rs : List Row} (g : GoodR rs) (m : Str) : PyData.depth (toldD rs m) = 2 ∧ PyData.weight (toldD rs m) ≤ 20000 := by
  have sm : ∀ z ∈ ruleHeadsM rs, z.cps.size ≤ 1000 := fun z hz => by
    have c := ruleHeads_small g z hz
    have e : z.length = z.cps.size := rfl
    omega
  have l := Nat.le_trans (riseS_len (turnM rs m)) (turnM_len rs m)
  have few := g.few
  have w := weightS (headsM rs m) fun z hz => sm z (heads_in hz)
  have w2 := sm _ (main_in rs m)
  have d := depthS (headsM rs m)
  unfold headsM at w d
  unfold toldD headsM
  simp only [PyData.depth, PyData.depthAll, PyData.weight, PyData.weightAll, d]
  omega
theorem part_small {r1 r2 : List Row} (g1 : GoodR r1) (g2 : GoodR r2) : PyData.depth (partD r1 r2) < 4 ∧ PyData.weight (partD r1 r2) ≤ 1000000 := by
  unfold partD
  cases e : partM r1 r2 with
  | none => exact ⟨by simp [partO, PyData.depth], by simp [partO, PyData.weight]⟩
  | some sl =>
    obtain ⟨a1, a2⟩ := told_small g1 (oS sl)
    obtain ⟨b1, b2⟩ := told_small g2 (oS sl)
    have l : sl.length ≤ 8 := by
      unfold partM at e
      have z := List.mem_of_find?_eq_some e
      exact Nat.le_trans ((choices_mem _ _).mp z).length_le (namedM_len _)
    have ls : (oS sl).cps.size ≤ 8 := by
      have e : (oS sl).length = (oS sl).cps.size := rfl
      rw [← e, oS_len]
      exact l
    simp only [partO, PyData.depth, PyData.depthAll, PyData.weight, PyData.weightAll, a1, b1]
    omega
/-! ### the first choice -/
theorem find_at {α : Type} {p : α → Bool} {A B : List α} {x : α} (h : ∀ a ∈ A, p a = false) (hx : p x = true) : (A ++ x :: B).find? p = some x := by
  rw [List.find?_append, List.find?_eq_none.mpr fun a ha => by rw [h a ha]; exact Bool.false_ne_true, List.find?_cons, hx]
  rfl
theorem choices_at {nm : List Nat} {i j : Nat} {sl : List Nat} (hi : i ≤ nm.length) (h : (combs i nm)[j]? = some sl) : ∃ B, choices nm = (((List.range i).flatMap fun k => combs k nm) ++ (combs i nm).take j) ++ sl :: B := by
  have e1 : List.range (nm.length + 1) = List.range i ++ (i :: (List.range (nm.length + 1)).drop (i + 1)) := by
    conv => lhs; rw [← List.take_append_drop i (List.range (nm.length + 1))]
    rw [List.take_range, Nat.min_eq_left (by omega)]
    congr 1
    rw [List.drop_eq_getElem_cons (by rw [List.length_range]; omega), List.getElem_range]
  have e2 : combs i nm = (combs i nm).take j ++ (sl :: (combs i nm).drop (j + 1)) := by
    obtain ⟨hl, he⟩ := List.getElem?_eq_some_iff.mp h
    conv => lhs; rw [← List.take_append_drop j (combs i nm)]
    rw [List.drop_eq_getElem_cons hl, he]
  unfold choices
  rw [e1, List.flatMap_append, List.flatMap_cons]
  conv => enter [1, B, 1, 2, 1]; rw [e2]
  exact ⟨(combs i nm).drop (j + 1) ++ ((List.range (nm.length + 1)).drop (i + 1)).flatMap (fun k => combs k nm), by simp only [List.append_assoc, List.cons_append]⟩
/-! ### in order of size and text -/
theorem combs_lt : ∀ (r : Nat) (xs : List Nat), xs.Pairwise (· < ·) → (combs r xs).Pairwise (fun a b : List Nat => a < b)
  | 0, xs, _ => by
    have e : combs 0 xs = [[]] := by cases xs <;> rfl
    rw [e]
    exact List.pairwise_singleton _ _
  | r + 1, [], _ => List.Pairwise.nil
  | r + 1, x :: xs, h => by
    obtain ⟨h1, h2⟩ := List.pairwise_cons.mp h
    show ((combs r xs).map (x :: ·) ++ combs (r + 1) xs).Pairwise _
    refine List.pairwise_append.mpr ⟨List.pairwise_map.mpr ((combs_lt r xs h2).imp fun z => List.Lex.cons z), combs_lt (r + 1) xs h2, fun a ha b hb => ?_⟩
    obtain ⟨a', _, ea⟩ := List.mem_map.mp ha
    obtain ⟨sb, lb⟩ := (combs_mem (r + 1) xs b).mp hb
    cases b with
    | nil => cases lb
    | cons y b =>
      rw [← ea]
      exact List.Lex.rel (h1 y (sb.subset List.mem_cons_self))
def kk (sl : List Nat) : I2 := ((sl.length : Nat), oS sl)
theorem choices_lex {xs : List Nat} (h : xs.Pairwise (· < ·)) : (choices xs).Pairwise fun a b => lexI (kk a) (kk b) = true := by
  unfold choices
  have key : ∀ L : List Nat, L.Pairwise (· < ·) → (L.flatMap fun k => combs k xs).Pairwise fun a b => lexI (kk a) (kk b) = true := by
    intro L
    induction L with
    | nil => exact fun _ => List.Pairwise.nil
    | cons k L ih =>
      intro hl
      obtain ⟨h1, h2⟩ := List.pairwise_cons.mp hl
      rw [List.flatMap_cons]
      refine List.pairwise_append.mpr ⟨?_, ih h2, fun a ha b hb => ?_⟩
      · refine List.Pairwise.imp_of_mem (fun {a b} ha hb z => ?_) (combs_lt k xs h)
        have la := ((combs_mem k xs a).mp ha).2
        have lb := ((combs_mem k xs b).mp hb).2
        unfold lexI kk
        rw [if_pos (by show (a.length : Int) = b.length; omega)]
        unfold ltS
        exact decide_eq_true (by show (oS a).cps.toList < (oS b).cps.toList; rw [oS_cps, oS_cps]; exact z)
      · obtain ⟨j, hj, hb⟩ := List.mem_flatMap.mp hb
        have lt := h1 j hj
        have la := ((combs_mem k xs a).mp ha).2
        have lb := ((combs_mem j xs b).mp hb).2
        unfold lexI kk
        rw [if_neg (by show ¬ (a.length : Int) = b.length; omega)]
        exact decide_eq_true (by show (a.length : Int) < b.length; omega)
  exact key _ List.pairwise_lt_range
theorem named_lt (rs : List Row) : (namedM rs).Pairwise (· < ·) := List.Pairwise.sublist List.filter_sublist (by decide)
theorem subs_nd : ∀ {xs : List Nat}, xs.Nodup → (subsTo [[]] xs).Nodup := fun {xs} h => by
  have key : ∀ (ys : List Nat), (ys.reverse).Nodup → (subsTo [[]] ys.reverse).Nodup := by
    intro ys
    induction ys with
    | nil =>
      intro _
      show ([[]] : List (List Nat)).Nodup
      exact List.pairwise_singleton _ _
    | cons c ys ih =>
      intro nd
      rw [List.reverse_cons] at nd ⊢
      obtain ⟨n1, n2, n3⟩ := List.nodup_append.mp nd
      have i := ih n1
      rw [subsTo_snoc]
      refine List.nodup_append.mpr ⟨i, List.pairwise_map.mpr (i.imp fun z e => z (List.append_cancel_right e)), fun a ha b hb e => ?_⟩
      obtain ⟨d, _, ed⟩ := List.mem_map.mp hb
      have ca : c ∈ a := by
        rw [e, ← ed]
        exact List.mem_append_right _ List.mem_cons_self
      exact n3 c (((subs_mem _ a).mp ha).subset ca) c List.mem_cons_self rfl
  have z := key xs.reverse (by rw [List.reverse_reverse]; exact h)
  rw [List.reverse_reverse] at z
  exact z
theorem kk_inj {a b : List Nat} (h : kk a = kk b) : a = b := by
  have z := congrArg (fun q : I2 => q.2.cps.toList) h
  have e : ∀ l : List Nat, (kk l).2.cps.toList = l := fun l => oS_cps l
  rw [← e a, ← e b]
  exact z
/-- the choices, sorted by their size and text -/
theorem choices_sorted {rs : List Row} {ys : List I2} (so : SrtO.Srtd (fun v u => lexI v u) ys) (pm : ys.Perm ((subsTo [[]] (namedM rs)).map kk)) : ys = (choices (namedM rs)).map kk := by
  have cl := choices_lex (named_lt rs)
  have cs : SrtO.Srtd (fun v u => lexI v u) ((choices (namedM rs)).map kk) := List.pairwise_map.mpr (cl.imp fun z => lexI_asym z)
  have cn : ((choices (namedM rs)).map kk).Nodup := List.pairwise_map.mpr (cl.imp fun {a b} z e => by rw [e, lexI_irr] at z; cases z)
  have sn : ((subsTo [[]] (namedM rs)).map kk).Nodup := List.pairwise_map.mpr ((subs_nd (namedM_nd rs)).imp fun z e => z (kk_inj e))
  refine srtd_uniq so cs (pm.trans ((List.perm_ext_iff_of_nodup sn cn).mpr fun x => ?_))
  rw [List.mem_map, List.mem_map]
  exact ⟨fun ⟨s, hs, e⟩ => ⟨s, (choices_mem _ _).mpr ((subs_mem _ _).mp hs), e⟩, fun ⟨s, hs, e⟩ => ⟨s, (subs_mem _ _).mpr ((choices_mem _ _).mp hs), e⟩⟩
/-! ### both ways, any marks -/
theorem named_swap (r1 r2 : List Row) : namedM (r1 ++ r2) = namedM (r2 ++ r1) := by
  unfold namedM
  refine List.filter_congr fun c _ => ?_
  unfold allS
  rw [List.flatMap_append, List.flatMap_append]
  refine decide_eq_decide.mpr ?_
  rw [List.mem_append, List.mem_append]
  exact Or.comm
theorem part_swap (r1 r2 : List Row) : partM r2 r1 = partM r1 r2 := by
  unfold partM
  rw [named_swap]
  congr 1
  funext sl
  unfold diffB
  rw [show decide (mainM r2 (oS sl) = mainM r1 (oS sl)) = decide (mainM r1 (oS sl) = mainM r2 (oS sl)) from decide_eq_decide.mpr eq_comm,
    show decide (headsM r2 (oS sl) = headsM r1 (oS sl)) = decide (headsM r1 (oS sl) = headsM r2 (oS sl)) from decide_eq_decide.mpr eq_comm]
theorem turn_congr {rs : List Row} {m n : Str} (h : ∀ c ∈ allS rs, sg m c = sg n c) : turnM rs m = turnM rs n := by
  have hh : heldM rs m = heldM rs n := by
    unfold heldM
    congr 1
    refine List.filter_congr fun r hr => ?_
    have h1 : ∀ c ∈ r.2.1.cps.toList, sg m c = sg n c := fun c hc => h c (List.mem_flatMap.mpr ⟨r, hr, List.mem_append_left _ hc⟩)
    have h2 : ∀ c ∈ r.2.2.cps.toList, sg m c = sg n c := fun c hc => h c (List.mem_flatMap.mpr ⟨r, hr, List.mem_append_right _ hc⟩)
    have all_c : ∀ l : List Nat, (∀ c ∈ l, sg m c = sg n c) → l.all (sg m) = l.all (sg n) ∧ l.any (sg m) = l.any (sg n) := by
      intro l
      induction l with
      | nil => exact fun _ => ⟨rfl, rfl⟩
      | cons x l ih =>
        intro k
        obtain ⟨i1, i2⟩ := ih fun c hc => k c (List.mem_cons_of_mem _ hc)
        rw [List.all_cons, List.all_cons, List.any_cons, List.any_cons, i1, i2, k x List.mem_cons_self]
        exact ⟨rfl, rfl⟩
    unfold holdsM
    rw [(all_c _ h1).1, (all_c _ h2).2]
  unfold turnM
  rw [hh]
theorem part_none {r1 r2 : List Row} (g1 : ∀ r ∈ r1, isRowM r = true) (g2 : ∀ r ∈ r2, isRowM r = true) (h : partM r1 r2 = none) (m : Str) : mainM r1 m = mainM r2 m ∧ headsM r1 m = headsM r2 m := by
  have g : ∀ r ∈ r1 ++ r2, isRowM r = true := fun r hr => (List.mem_append.mp hr).elim (g1 r) (g2 r)
  let sl := (namedM (r1 ++ r2)).filter (sg m)
  have hs : sl ∈ choices (namedM (r1 ++ r2)) := (choices_mem _ _).mpr List.filter_sublist
  have z := List.find?_eq_none.mp h sl hs
  have c : ∀ c ∈ allS (r1 ++ r2), sg m c = sg (oS sl) c := fun c hc => by
    rw [sg_oS]
    have hn := (namedM_mem g c).mpr hc
    rw [Bool.eq_iff_iff, decide_eq_true_eq, List.mem_filter]
    exact ⟨fun y => ⟨hn, y⟩, fun y => y.2⟩
  have a1 : allS (r1 ++ r2) = allS r1 ++ allS r2 := by
    unfold allS
    rw [List.flatMap_append]
  rw [a1] at c
  have t1 := turn_congr (rs := r1) (m := m) (n := oS sl) fun x hx => c x (List.mem_append_left _ hx)
  have t2 := turn_congr (rs := r2) (m := m) (n := oS sl) fun x hx => c x (List.mem_append_right _ hx)
  have d : diffB r1 r2 sl = false := by
    cases q : diffB r1 r2 sl with
    | false => rfl
    | true => exact (z q).elim
  unfold diffB at d
  rw [Bool.not_eq_false', Bool.and_eq_true, decide_eq_true_eq, decide_eq_true_eq] at d
  unfold mainM headsM at d ⊢
  rw [t1, t2]
  exact d
/-! ### rows taken and left out -/
theorem DnA.take {S : Addr → Prop} {H : Hp} : ∀ {xs : List V} {ds : List PyData} (n : Nat), DnA S H xs ds → DnA S H (xs.take n) (ds.take n)
  | _, _, 0, _ => by
    rw [List.take_zero, List.take_zero]
    exact .nil
  | _, _, n + 1, .nil => by
    rw [List.take_nil, List.take_nil]
    exact .nil
  | _, _, n + 1, .cons h t => .cons h (DnA.take n t)
theorem DnA.drop {S : Addr → Prop} {H : Hp} : ∀ {xs : List V} {ds : List PyData} (n : Nat), DnA S H xs ds → DnA S H (xs.drop n) (ds.drop n)
  | _, _, 0, h => h
  | _, _, n + 1, .nil => by
    rw [List.drop_nil, List.drop_nil]
    exact .nil
  | _, _, n + 1, .cons h t => DnA.drop n t
theorem cutV_drop (xs : List V) {j : Int} (h : 0 ≤ j) : cutV xs (some j) none = xs.drop j.toNat := by
  have e : j = ((j.toNat : Nat) : Int) := by omega
  unfold cutV
  rw [HT.sIx_none, e, HT.sIx_nat, Int.toNat_natCast]
  rcases Nat.le_total j.toNat xs.length with z | z
  · rw [Nat.min_eq_left z, List.take_of_length_le (by rw [List.length_drop]; omega)]
  · rw [Nat.min_eq_right z, Nat.sub_self, List.take_zero, List.drop_of_length_le z]
theorem cutS_one (z : Str) : (cutS z (some 1) none).cps.toList = z.cps.toList.drop 1 := by
  have el : z.length = z.cps.toList.length := by simp [PySem.Str.length]
  have e : (1 : Int) = ((1 : Nat) : Int) := rfl
  unfold cutS
  rw [HT.sIx_none, e, HT.sIx_nat]
  rcases Nat.le_total 1 z.length with y | y
  · rw [Nat.min_eq_left y]
    exact List.take_of_length_le (by rw [List.length_drop]; omega)
  · rw [Nat.min_eq_right y, Nat.sub_self]
    rw [show List.drop 1 z.cps.toList = [] from List.drop_of_length_le (by omega)]
    rfl
theorem cutS_last (z : Str) : (cutS z none (some (-1))).cps.toList = z.cps.toList.dropLast := by
  have el : z.length = z.cps.toList.length := by simp [PySem.Str.length]
  unfold cutS
  rw [HT.sIx_none]
  have e : HT.sIx z.length z.length (some (-1)) = z.length - 1 := by
    show (if (-1 : Int) < 0 then ((-1 : Int) + (z.length : Int)).toNat else min (-1 : Int).toNat z.length) = z.length - 1
    rw [if_pos (by decide)]
    omega
  rw [e, List.drop_zero, Nat.sub_zero, List.dropLast_eq_take, el]
theorem eqv_rule_nil (rs : List Row) : PyData.eqv (ruleD rs) (.list []) = rs.isEmpty := by
  cases rs with
  | nil => simp [ruleD, PyData.eqv, PyData.eqvAll]
  | cons r rs => simp [ruleD, PyData.eqv, PyData.eqvAll]
theorem sub_marks {l : List Nat} {t : Str} (h : isMarksM t = true) (s : l.Sublist t.cps.toList) : isMarksM (oS l) = true := by
  have e : t = oS (a2h.cps.toList.filter (sg t)) := of_decide_eq_true h
  have e3 : t.cps.toList = a2h.cps.toList.filter (sg t) := (congrArg (fun z : Str => z.cps.toList) e).trans (oS_cps _)
  refine decide_eq_true (marks_of ?_)
  rw [e3] at s
  exact s.trans List.filter_sublist
/-- a row with another head that can be, and with fewer needs and bars -/
theorem row_less {h : Str} {r : Row} {a b : List Nat} (hr : isRowM r = true) (hw : isWordM h = true ∧ h ≠ "rest") (sa : a.Sublist r.2.1.cps.toList) (sb : b.Sublist r.2.2.cps.toList) : isRowM (h, oS a, oS b) = true := by
  unfold isRowM at hr ⊢
  simp only [Bool.and_eq_true, Bool.not_eq_true'] at hr ⊢
  obtain ⟨_, ⟨m1, m2⟩, d⟩ := hr
  refine ⟨⟨hw.1, decide_eq_false hw.2⟩, ⟨sub_marks m1 sa, sub_marks m2 sb⟩, ?_⟩
  rw [oS_cps, List.any_eq_false]
  intro c hc z
  rw [sg_oS] at z
  have y := List.any_eq_false.mp d c (sa.subset hc)
  exact y (decide_eq_true (sb.subset (of_decide_eq_true z)))
theorem row_head {r : Row} (hr : isRowM r = true) : isWordM r.1 = true ∧ r.1 ≠ "rest" := by
  unfold isRowM at hr
  simp only [Bool.and_eq_true, Bool.not_eq_true'] at hr
  exact ⟨hr.1.1, of_decide_eq_false hr.1.2⟩
theorem GoodR.of {r1 r2 : List Row} (g : GoodR r1) (few : r2.length ≤ 12) (row : ∀ r ∈ r2, isRowM r = true) (hd : ∀ r ∈ r2, ∃ q ∈ r1, q.1 = r.1) : GoodR r2 := by
  obtain ⟨hs, h6, hm⟩ := g.heads
  exact ⟨few, row, hs, h6, fun r hr => by
    obtain ⟨q, hq, e⟩ := hd r hr
    rw [← e]
    exact hm q hq⟩
theorem GoodR.sub {r1 r2 : List Row} (g : GoodR r1) (few : r2.length ≤ 12) (h : ∀ r ∈ r2, r ∈ r1) : GoodR r2 := g.of few (fun r hr => g.row r (h r hr)) fun r hr => ⟨r, h r hr, rfl⟩
/-! ### what is promised -/
def spTold (T : List Addr) : Sp := fun vs H Q _ => ∃ (v : V) (rs : List Row) (m : Str), vs = [v, .str m] ∧ Dn N0 H v (ruleD rs) ∧ rs.length ≤ 50 ∧ Tbs T H ∧ ∀ t H', H t = none → Kp N0 H H' → Dn N0 H' (.ref t) (toldD rs m) → Q (.ref t) H'
def spToldL : Sp := fun vs H Q _ => ∃ (v : V) (rs : List Row) (m : Str), vs = [v, .str m] ∧ Dn N0 H v (ruleD rs) ∧ GoodR rs ∧ ∀ t H', H t = none → Kp N0 H H' → Dn N0 H' (.ref t) (toldD rs m) → Q (.ref t) H'
def spParting (T : List Addr) : Sp := fun vs H Q _ => ∃ (v u : V) (r1 r2 : List Row), vs = [v, u] ∧ Dn N0 H v (ruleD r1) ∧ Dn N0 H u (ruleD r2) ∧ GoodR r1 ∧ GoodR r2 ∧ Tbs T H ∧ ∀ x H', Kp N0 H H' → Dn N0 H' x (partD r1 r2) → Q x H'
def spAlikeP (T : List Addr) : Sp := fun vs H Q _ => ∃ (v u : V) (r1 r2 : List Row), vs = [v, u] ∧ Dn N0 H v (ruleD r1) ∧ Dn N0 H u (ruleD r2) ∧ GoodR r1 ∧ GoodR r2 ∧ Tbs T H ∧ ∀ H', Kp N0 H H' → Q (.bl (partM r1 r2).isNone) H'
def spDue12 : Sp := fun vs H Q _ => ∃ (v u : V) (r1 r2 : List Row), vs = [v, u] ∧ Dn N0 H v (ruleD r1) ∧ Dn N0 H u (ruleD r2) ∧ GoodR r1 ∧ GoodR r2 ∧ ∀ x H', Kp N0 H H' → Dn N0 H' x (partD r1 r2) → Q x H'
def spLikely : Sp := fun vs H Q _ => ∃ (b l : Addr) (v : V) (rs : List Row), vs = [.ref b, v] ∧ Box H b l ∧ Dn (sB b l) H v (ruleD rs) ∧ GoodR rs ∧ ∀ (r2 : List Row) p H', GoodR r2 → Box H' b l → Kp (sB b l) H H' → Dn (sB b l) H' (.ref p) (ruleD r2) → Q (.ref p) H'
end Fc
set_option maxHeartbeats 4000000
/-! Triples of texts in order. -/
namespace Fc
open PySem PySem.Spec PyProof.Rows L2
def lex3 (p q : Row) : Bool := if p.1 = q.1 then lexS p.2 q.2 else ltS p.1 q.1
theorem lex3_tri (p q : Row) : lex3 p q = true ∨ p = q ∨ lex3 q p = true := by
  obtain ⟨p1, p2⟩ := p
  obtain ⟨q1, q2⟩ := q
  unfold lex3
  by_cases e : p1 = q1
  · subst e
    rw [if_pos rfl, if_pos rfl]
    rcases lexS_tri p2 q2 with z | z | z
    · exact .inl z
    · exact .inr (.inl (by rw [z]))
    · exact .inr (.inr z)
  · rw [if_neg e, if_neg (fun z => e z.symm)]
    rcases ltS_tri p1 q1 with z | z | z
    · exact .inl z
    · exact (e z).elim
    · exact .inr (.inr z)
theorem lex3_irr (p : Row) : lex3 p p = false := by
  unfold lex3
  rw [if_pos rfl]
  exact lexS_irr _
theorem lex3_trans {p q r : Row} (h : lex3 p q = true) (k : lex3 q r = true) : lex3 p r = true := by
  obtain ⟨p1, p2⟩ := p
  obtain ⟨q1, q2⟩ := q
  obtain ⟨r1, r2⟩ := r
  unfold lex3 at h k ⊢
  by_cases e1 : p1 = q1
  · subst e1
    rw [if_pos rfl] at h
    by_cases e2 : p1 = r1
    · subst e2
      rw [if_pos rfl] at k ⊢
      exact lexS_trans h k
    · rw [if_neg e2] at k ⊢
      exact k
  · rw [if_neg e1] at h
    by_cases e2 : q1 = r1
    · subst e2
      rw [if_neg e1]
      exact h
    · rw [if_neg e2] at k
      have t := ltS_trans h k
      rw [if_neg]
      · exact t
      · intro e
        have e' : p1 = r1 := e
        subst e'
        have y := ltS_asym h
        have h' : ltS q1 p1 = true := k
        rw [h'] at y
        cases y
theorem lex3_asym {p q : Row} (h : lex3 p q = true) : lex3 q p = false := by
  cases z : lex3 q p with
  | false => rfl
  | true =>
    have t := lex3_trans h z
    rw [lex3_irr] at t
    cases t
theorem swo_lex3 {α : Type} (k : α → Row) : SrtO.Swo fun v u => lex3 (k v) (k u) := by
  refine ⟨fun x y h => lex3_asym h, fun x y z h1 h2 => ?_⟩
  show lex3 (k z) (k x) = false
  cases c : lex3 (k z) (k x) with
  | false => rfl
  | true =>
    have h1' : lex3 (k y) (k x) = false := h1
    have h2' : lex3 (k z) (k y) = false := h2
    rcases lex3_tri (k x) (k y) with q | q | q
    · have t := lex3_trans c q
      rw [t] at h2'
      cases h2'
    · rw [q] at c
      rw [c] at h2'
      cases h2'
    · rw [q] at h1'
      cases h1'
def le3 (a b : Row) : Bool := !lex3 b a
def sort3 (l : List Row) : List Row := l.mergeSort le3
theorem le3_trans (a b c : Row) (h1 : le3 a b = true) (h2 : le3 b c = true) : le3 a c = true := by
  unfold le3 at h1 h2 ⊢
  rw [Bool.not_eq_true'] at h1 h2 ⊢
  exact (swo_lex3 (fun x : Row => x)).2 a b c h1 h2
theorem le3_total (a b : Row) : (le3 a b || le3 b a) = true := by
  unfold le3
  cases z : lex3 b a with
  | false => rfl
  | true => rw [lex3_asym z]; rfl
theorem sort3_perm (l : List Row) : (sort3 l).Perm l := List.mergeSort_perm l le3
theorem sort3_srtd (l : List Row) : SrtO.Srtd (fun v u => lex3 v u) (sort3 l) := by
  have z := List.pairwise_mergeSort (le := le3) le3_trans le3_total l
  exact z.imp fun {a b} h => by
    have y : (!lex3 b a) = true := h
    simpa using y
theorem srtd3_uniq {l m : List Row} (hl : SrtO.Srtd (fun v u => lex3 v u) l) (hm : SrtO.Srtd (fun v u => lex3 v u) m) (p : l.Perm m) : l = m := by
  refine List.Perm.eq_of_pairwise (le := fun a b => lex3 b a = false) (fun a b _ _ h1 h2 => ?_) hl hm p
  rcases lex3_tri a b with z | z | z
  · rw [z] at h2
    cases h2
  · exact z
  · rw [z] at h1
    cases h1
theorem sort3_eq {l m : List Row} (hl : SrtO.Srtd (fun v u => lex3 v u) l) (p : l.Perm m) : l = sort3 m := srtd3_uniq hl (sort3_srtd m) (p.trans (sort3_perm m).symm)
theorem sort3_congr {l m : List Row} (p : l.Perm m) : sort3 l = sort3 m := sort3_eq (sort3_srtd l) ((sort3_perm l).trans p)
theorem sort3_len (l : List Row) : (sort3 l).length = l.length := (sort3_perm l).length_eq
theorem sort3_mem (l : List Row) (x : Row) : x ∈ sort3 l ↔ x ∈ l := (sort3_perm l).mem_iff
/-- v: a tuple of the three texts -/
def ThreeS (h : Heap) (v : Value) (p : Row) : Prop := ∃ a o t u i n, v = .ref a ∧ h.get? a = some o ∧ o.cls = .type "tuple" ∧ o.data = .seq #[.str p.1 t, .str p.2.1 u, .str p.2.2 i] n
theorem ThreeS.over {h h' : Heap} {v : Value} {p : Row} (z : ThreeS h v p) (k : ∀ b o, h.get? b = some o → o.cls = .type "tuple" → h'.get? b = some o) : ThreeS h' v p := by
  obtain ⟨a, o, t, u, i, n, e, ho, hc, hd⟩ := z
  exact ⟨a, o, t, u, i, n, e, k _ _ ho hc, hc, hd⟩
section
variable {prog : Program} {w : World} {A : Around} {s : Shared}
theorem three_heads {h : Heap} (k : Value → Row) (vs : List Value) (hp : ∀ v ∈ vs, ThreeS h v (k v)) : ∃ fs : List Value, PySem.W.KatTups h vs fs ∧ fs.length = vs.length ∧ ∀ f ∈ fs, ∃ x t, f = Value.str x t := by
  induction vs with
  | nil => exact ⟨[], PySem.W.KatTups.nil, rfl, fun _ hm => nomatch hm⟩
  | cons v vs ih =>
    obtain ⟨fs, h1, h2, h3⟩ := ih fun v' hm => hp v' (List.mem_cons_of_mem _ hm)
    obtain ⟨a, o, t, u, i, n, e, ho, hc, hd⟩ := hp v List.mem_cons_self
    rw [e]
    refine ⟨.str (k v).1 t :: fs, PySem.W.KatTups.cons ho hc hd rfl h1, congrArg (· + 1) h2, fun f hm => ?_⟩
    rcases List.mem_cons.mp hm with z | z
    · exact ⟨_, t, z⟩
    · exact h3 f z
theorem three_cmp {vs : List Value} {k : Value → Row} (hp : ∀ v ∈ vs, ThreeS s.heap v (k v)) : SrtO.Cmp prog w A s (tuples' true) (fun p => p.1 ∈ vs) (SrtO.lt2 fun v u => lex3 (k v) (k u)) := by
  intro p q hm hm'
  have h1 := hp _ hm
  have h2 := hp _ hm'
  show wpAny (model prog w) A (keyLt' (tuples' true) p.1 q.1) (fun r s' => s' = s ∧ r = lex3 (k p.1) (k q.1)) (fun _ _ => False) s
  generalize k p.1 = x at h1 ⊢
  generalize k q.1 = y at h2 ⊢
  obtain ⟨x1, x2, x3⟩ := x
  obtain ⟨y1, y2, y3⟩ := y
  obtain ⟨a, o, t, u, c, n, e, ho, hc, hd⟩ := h1
  obtain ⟨b, r, i, j, d, m, e', ho', hc', hd'⟩ := h2
  rw [e, e']
  refine PySem.W.kat_lt ho hd ho' hd' (PySem.W.kat_cons (SeqAt.EqAt.str_str x1 t y1 i prog w _ _ (PySem.W.kat_go (fun e1 => ?_) (fun e1 => ?_))))
  · have ex : x1 = y1 := by simpa using e1
    refine PySem.W.kat_yes (PySem.W.kat_cons (SeqAt.EqAt.str_str x2 u y2 j prog w _ _ (PySem.W.kat_go (fun e2 => ?_) (fun e2 => ?_))))
    · have ey : x2 = y2 := by simpa using e2
      refine PySem.W.kat_yes (PySem.W.kat_cons (SeqAt.EqAt.str_str x3 c y3 d prog w _ _ (PySem.W.kat_go (fun e3 => ?_) (fun e3 => ?_))))
      · have ez : x3 = y3 := by simpa using e3
        refine PySem.W.kat_yes (PySem.W.kat_nil ⟨rfl, ?_⟩)
        rw [ex, ey, ez]
        exact (lex3_irr _).symm
      · refine PySem.W.kat_no (PySem.W.kat_one _ _ (PyProof.Rows.lt_str ?_))
        refine ⟨rfl, ?_⟩
        unfold lex3 lexS ltS
        rw [if_pos ex, if_pos ey]
    · have ey : ¬ x2 = y2 := by simpa using e2
      refine PySem.W.kat_no (PySem.W.kat_one _ _ (PyProof.Rows.lt_str ?_))
      refine ⟨rfl, ?_⟩
      unfold lex3 lexS ltS
      rw [if_pos ex, if_neg ey]
  · have ex : ¬ x1 = y1 := by simpa using e1
    refine PySem.W.kat_no (oneLt_str ⟨rfl, ?_⟩)
    unfold lex3 ltS
    rw [if_neg ex]
theorem three_sortable {a : Addr} {vs : List Value} {k : Value → Row} (h0 : 0 < vs.length) (hp : ∀ v ∈ vs, ThreeS s.heap v (k v)) (ha : ∀ o, s.heap.get? a = some o → o.cls ≠ .type "tuple") : SrtO.SortableO prog w A s a vs fun v u => lex3 (k v) (k u) := by
  intro h' keep
  have hp' : ∀ v ∈ vs, ThreeS h' v (k v) := fun v hm => (hp v hm).over fun b o e c => keep b o (fun z => ha o (by rw [← z]; exact e) c) e
  obtain ⟨fs, h1, h2, h3⟩ := three_heads k vs hp'
  refine ⟨tuples' true, fun Q E hq => PySem.W.kat_kind (T := .type "str") h1 (by omega) (fun f hm => ?_) (by rfl) ?_, three_cmp hp'⟩
  · obtain ⟨x, t, rfl⟩ := h3 f hm
    exact PySem.W.Looks.now
  · have e : (Value.type "str" != Value.type "tuple") = true := by first | decide +kernel | rfl | decide
    rw [e]
    exact hq
end
/-- which triple a value is -/
def keyR (H : Hp) : V → Row
  | .ref t => match H t with
    | some (.tup [.str x, .str y, .str z]) => (x, y, z)
    | _ => ("", "", "")
  | _ => ("", "", "")
theorem keyR_at {H : Hp} {t : Addr} {x y z : Str} (h : H t = some (.tup [.str x, .str y, .str z])) : keyR H (.ref t) = (x, y, z) := by
  unfold keyR
  simp only [h]
theorem keyR_all {S : Addr → Prop} {H : Hp} : ∀ {xs : List V} {ps : List Row}, DnA S H xs (ps.map rowD) → xs.map (keyR H) = ps ∧ ∀ x ∈ xs, ∃ t, x = V.ref t ∧ ¬ S t ∧ H t = some (.tup [.str (keyR H x).1, .str (keyR H x).2.1, .str (keyR H x).2.2])
  | _, [], h => by
    cases h
    exact ⟨rfl, fun x z => nomatch z⟩
  | _, p :: ps, h => by
    cases h with
    | cons h t =>
      obtain ⟨i1, i2⟩ := keyR_all t
      obtain ⟨a, rfl, ns, ha⟩ := rowD_ex h
      have e := keyR_at ha
      refine ⟨by rw [List.map_cons, i1, e], fun x hx => ?_⟩
      rcases List.mem_cons.mp hx with z | z
      · exact ⟨a, z, ns, by rw [z, e]; exact ha⟩
      · exact i2 x z
theorem rows_dn {S : Addr → Prop} {H : Hp} {k : V → Row} : ∀ {ys : List V}, (∀ y ∈ ys, ∃ t, y = V.ref t ∧ ¬ S t ∧ H t = some (.tup [.str (k y).1, .str (k y).2.1, .str (k y).2.2])) → DnA S H ys ((ys.map k).map rowD)
  | [], _ => .nil
  | y :: ys, h => by
    obtain ⟨t, e, ns, ht⟩ := h y List.mem_cons_self
    have i := rows_dn (k := k) fun z hz => h z (List.mem_cons_of_mem _ hz)
    rw [List.map_cons, List.map_cons]
    refine .cons ?_ i
    rw [e] at ht ⊢
    exact .tup ns ht (DnA.strs [(k (.ref t)).1, (k (.ref t)).2.1, (k (.ref t)).2.2])
section
variable {X : Cx} {K : PySem.W.Frag}
/-- sorted(list of triples of texts) -/
def rSortRD (K : PySem.W.Frag) : List V → Hp → VK → Prop := fun vs H Q => ∃ (S : Addr → Prop) (a : Addr) (xs : List V) (l : List Row), vs = [.ref a] ∧ SqL K H a xs ∧ DnA S H xs (l.map rowD) ∧
  ∀ ys p, ys.length = xs.length → DnA S H ys ((sort3 l).map rowD) → H p = none → Q (.ref p) (upd H p (.lst ys))
theorem cr_sortRD : CallR X (.builtin "sorted") (rSortRD X.K) := by
  intro pins s σ H vs us Q I r h
  obtain ⟨S, a, xs, l, rfl, hs, hx0, q⟩ := h
  obtain ⟨kx, hx⟩ := keyR_all hx0
  obtain ⟨its, rv, hl, hz⟩ := I.list hs
  rw [Vals.ref1 r]
  obtain ⟨e1, e2⟩ := refs_back rv fun x m => Exists.imp (fun _ z => z.1) (hx x m)
  have old : ∀ v ∈ its, ThreeS s.heap v (keyR H (backV v)) := fun v hv => by
    obtain ⟨t, rfl⟩ := e2 v hv
    have hm : V.ref t ∈ xs := by
      rw [e1]
      exact List.mem_map.mpr ⟨_, hv, rfl⟩
    obtain ⟨t', e, _, ht⟩ := hx _ hm
    cases e
    obtain ⟨_, its2, r2, o, ho, hc, n, hd⟩ := I.hok _ _ ht
    cases its2 with
    | nil => cases r2
    | cons i1 its2 =>
    cases r2 with
    | cons g1 r2 =>
    cases its2 with
    | nil => cases r2
    | cons i2 its2 =>
    cases r2 with
    | cons g2 r2 =>
    cases its2 with
    | nil => cases r2
    | cons i3 its2 =>
    cases r2 with
    | cons g3 r2 =>
    cases r2
    obtain ⟨t1, rfl⟩ := g1
    obtain ⟨t2, rfl⟩ := g2
    obtain ⟨t3, rfl⟩ := g3
    exact ⟨t, o, t1, t2, t3, n, rfl, ho, hc, hd⟩
  refine SrtO.sorted_ord (swo_lex3 fun u => keyR H (backV u)) hl.isList (by rw [← rv.length]; exact hz) (fun h2 h₁ b hb kk => ?_) fun out hs hb => ?_
  · refine three_sortable (s := { s with heap := h₁ }) (k := fun u => keyR H (backV u)) (by omega) (fun v hm => (old v hm).over fun c o e _ => (kk c o e).2) fun o e c => ?_
    have e' := e.symm.trans hb
    cases e'
    exact absurd (Value.type.inj c) (by decide)
  · have h3 : ∀ u ∈ out, ∃ a, u = Value.ref a := fun u hu => e2 u (hb.perm.mem_iff.mp hu)
    obtain ⟨n, hn⟩ := sortedAll_at s.heap its out.toArray
    have pm : (out.map backV).Perm xs := by
      rw [e1]
      exact hb.perm.map backV
    have so : SrtO.Srtd (fun v u => lex3 (keyR H v) (keyR H u)) (out.map backV) := SrtO.srtd_map hs
    have es : (out.map backV).map (keyR H) = sort3 l := by
      refine sort3_eq (List.pairwise_map.mpr so) ?_
      rw [← kx]
      exact pm.map _
    have dn : DnA S H (out.map backV) ((sort3 l).map rowD) := by
      rw [← es]
      exact rows_dn fun y hy => hx y (pm.mem_iff.mp hy)
    refine ⟨.ref _, upd H (s.heap.objs.size + 1) (.lst (out.map backV)), I.laid (t' := s.toks) (fun _ _ => sortedAll_old) (Nat.le_succ _) ⟨?_, out, n, vals_back h3, hn⟩, rfl, q _ _ pm.length_eq dn (I.hok.fresh (Nat.le_succ _))⟩
    rw [pm.length_eq]
    exact hz
end
end Fc
set_option maxHeartbeats 8000000
/-! set(list of tuples of texts), sorted of such a set of pairs. -/
namespace Fc
open PySem PySem.Spec PyProof.Rows L2
/-- of the first i of ks the set holds one for each key, and no others -/
structure Held (ks : List TxA) (i : Nat) (L : List TxA) : Prop where
  from_ : ∀ p ∈ L, p ∈ ks
  has : ∀ p ∈ ks.take i, p.2 ∈ L.map (·.2)
section
variable {P : Program} {w : World} {A : Around} {E : Value → Shared → Prop} {s : Shared}
theorem tx_over {h h' : Heap} {k : List Str} {b : Addr} (x : Txt P w h k b) (hk : ∀ c o, h.get? c = some o → h'.get? c = some o) : Txt P w h' k b := by
  obtain ⟨o, its, n, ho, r⟩ := x
  exact ⟨o, its, n, hk b o ho, r⟩
theorem SetX.over {h h' : Heap} {a : Addr} {L : List TxA} {es : Array (Int × Value)} {ep : Nat} {t : SetTable} (R : SetX P w h a L es ep t) (ha : ∀ o, h.get? a = some o → h'.get? a = some o) (hl : ∀ p ∈ L, Txt P w h' p.2 p.1) : SetX P w h' a L es ep t := by
  obtain ⟨o, ho, r⟩ := R.at_
  exact ⟨⟨o, ha o ho, r⟩, R.ent, R.tab, R.un, hl, R.ld, R.free⟩
theorem setX_new {h : Heap} {a : Addr} (ho : h.get? a = some (newSet w)) : SetX P w h a [] #[] 0 (.fresh 0 0 (!w.params.followText "set-order")) := by
  refine ⟨⟨_, ho, ⟨rfl, rfl, rfl⟩, rfl⟩, rfl, ⟨List.Pairwise.nil, rfl, rfl, .inl rfl, (fun x hx => nomatch hx), fun i h j hi => by simp at hi⟩, List.nodup_nil, (fun p hp => nomatch hp), ?_, by show 0 * 5 < 7 * 3; decide⟩
  show _ ∨ (!w.params.followText "set-order") = true
  cases w.params.followText "set-order"
  · exact .inr rfl
  · exact .inl rfl
/-- few keys among ks: the set stays small -/
def FewK (ks : List TxA) : Prop := ∃ D : List (List Str), D.length < 64 ∧ ∀ p ∈ ks, p.2 ∈ D
theorem few_len {ks L : List TxA} {k : List Str} (f : FewK ks) (hk : ∃ p ∈ ks, p.2 = k) (hl : ∀ p ∈ L, p ∈ ks) (un : (L.map (·.2)).Nodup) (out : k ∉ L.map (·.2)) : L.length + 1 < 64 := by
  obtain ⟨D, d1, d2⟩ := f
  have z := nodup_le (l := k :: L.map (·.2)) (m := D) (List.nodup_cons.mpr ⟨out, un⟩) fun x hx => by
    rcases List.mem_cons.mp hx with e | hx
    · obtain ⟨p, hp, e2⟩ := hk
      rw [e, ← e2]
      exact d2 p hp
    · obtain ⟨p, hp, rfl⟩ := List.mem_map.mp hx
      exact d2 p (hl p hp)
  rw [List.length_cons, List.length_map] at z
  omega
theorem loop_tx {I : Addr} {fp wr : List Addr} {G : Array GenState → Array GenState → Prop} {n : Nat} {V : Nat → Value → Prop} {St : Nat → Shared → Prop} {R : Result → Shared → Prop} (W : WalksS P w A.in1 I fp wr G n V St) (S : Addr) (hSf : S ∉ fp) (ks : List TxA) (hn : n = ks.length) (few : FewK ks)
    (hv : ∀ i v, V i v → ∃ p, ks[i]? = some p ∧ v = .ref p.1) (h0 : Heap) (hk : ∀ p ∈ ks, Txt P w h0 p.2 p.1) (hS0 : h0.get? S = none) (hw0 : ∀ b ∈ wr, h0.get? b = none) (hu : A.in1.units < cLine) :
    ∀ (k i : Nat) (s : Shared), n - i = k → i ≤ n → St i s → (∀ b o, h0.get? b = some o → s.heap.get? b = some o) → (∃ L es ep t, SetX P w s.heap S L es ep t ∧ Held ks i L) →
      (∀ s' L es ep t, Moved (S :: wr) G s s' → SetX P w s'.heap S L es ep t → Held ks n L → R (.ok (.ret .none)) s') → codeAny (model P w) A (.builtin "set.update.loop" ⟨[.ref S, .ref I], []⟩) R s := by
  have outW : S ∉ wr := fun h => hSf (W.sub _ h)
  have subW : ∀ b ∈ wr, b ∈ S :: wr := fun b hb => List.mem_cons_of_mem _ hb
  have stay : ∀ {s s' : Shared}, Moved wr G s s' → (∀ b o, h0.get? b = some o → s.heap.get? b = some o) → ∀ b o, h0.get? b = some o → s'.heap.get? b = some o := fun m k b o e => m.heap b o (fun hb => by rw [hw0 b hb] at e; cases e) (k b o e)
  intro k
  induction k with
  | zero =>
    rintro i s hk' hi st kp ⟨L, es, ep, t, hS, g⟩ hR
    have e : i = n := by omega
    subst e
    refine codeAny_builtin PyProof.Rows.F.entry_set_update_loop ?_
    rw [Around.under_plainId PyProof.Rows.F.plain_set_update_loop _]
    refine wpAny_bind (m := pyNext (.ref I)) (W.done s _ _ st fun s' mv => ?_)
    exact wpAny_pure (hR s' L es ep t (mv.mono subW) (hS.over (fun o e => mv.heap S o outW e) fun p hp => tx_over (hk p (g.from_ p hp)) (stay mv kp)) g)
  | succ k ih =>
    rintro i s hk' hi st kp ⟨L, es, ep, t, hS, g⟩ hR
    have lt : i < n := by omega
    refine codeAny_builtin PyProof.Rows.F.entry_set_update_loop ?_
    rw [Around.under_plainId PyProof.Rows.F.plain_set_update_loop _]
    refine wpAny_bind (m := pyNext (.ref I)) (W.item i s _ _ lt st fun v s' hP st' mv => ?_)
    obtain ⟨p, hp, rfl⟩ := hv i v hP
    have kp' := stay mv kp
    have hS' : SetX P w s'.heap S L es ep t := hS.over (fun o e => mv.heap S o outW e) fun q hq => tx_over (hk q (g.from_ q hq)) kp'
    have hm := List.mem_of_getElem? hp
    have hx : Txt P w s'.heap p.2 p.1 := tx_over (hk p hm) kp'
    refine wpAny_bind (m := holding [Value.ref p.1] (setAdd S (.ref p.1))) (wpAny_holding ?_)
    unfold setAdd
    refine wpAny_holding (wpAny_bind (wpAny_pyHash_tuple hu hx ?_))
    refine put_tx (s := { s' with toks := s'.toks + (p.2.length + 1) }) hS' hx hu (few_len few ⟨p, hm, rfl⟩ g.from_ hS.un) fun b h' L' es' ep' t' sb hS2 c1 c2 => ?_
    have tk : ks.take (i + 1) = ks.take i ++ [p] := by rw [List.take_succ, hp]; rfl
    have g' : Held ks (i + 1) L' := by
      by_cases c : p.2 ∈ L.map (·.2)
      · rw [c1 c]
        refine ⟨g.from_, fun q hq => ?_⟩
        rw [tk] at hq
        rcases List.mem_append.mp hq with z | z
        · exact g.has q z
        · rw [List.mem_singleton.mp z]
          exact c
      · have pm := c2 c
        refine ⟨fun q hq => ?_, fun q hq => ?_⟩
        · rcases List.mem_cons.mp (pm.mem_iff.mp hq) with z | z
          · rw [z]
            exact hm
          · exact g.from_ q z
        · rw [(pm.map (·.2)).mem_iff, List.map_cons]
          rw [tk] at hq
          rcases List.mem_append.mp hq with z | z
          · exact List.mem_cons_of_mem _ (g.has q z)
          · rw [List.mem_singleton.mp z]
            exact List.mem_cons_self
    have kp2 : ∀ b o, h0.get? b = some o → h'.get? b = some o := fun b o e => (sb.2 b (fun z => by rw [z, hS0] at e; cases e)).trans (kp' b o e)
    refine wpAny_pure ⟨plainId_quiet PyProof.Rows.F.plain_set_update_loop _, ih (i + 1) _ (by omega) lt (W.frame _ s' _ _ st' (Nat.le_add_right _ _) fun b hb o e => ?_) kp2 ⟨L', es', ep', t', hS2, g'⟩ fun s2 L2 es2 ep2 t2 mv2 hS3 g2 => hR s2 L2 es2 ep2 t2 (Moved.trans W.gtrans ((mv.mono subW).then_heap (Nat.le_add_right _ _) fun b o hb e => ?_) mv2) hS3 g2⟩
    · rw [sb.2 b (fun z : b = S => hSf (by rw [← z]; exact hb))]
      exact e
    · rw [sb.2 b (fun z : b = S => hb (by rw [z]; exact List.mem_cons_self))]
      exact e
theorem set_of_tx {l : Addr} {items : Array Value} (ks : List TxA) {Q : Value → Shared → Prop} (hh : A.handled = none) (hl : s.heap.IsList l items) (hi : items.toList = ks.map fun p => Value.ref p.1) (hk : ∀ p ∈ ks, Txt P w s.heap p.2 p.1) (few : FewK ks) (hu : A.units + 3 < cLine)
    (h : ∀ (h' : Heap) (tk : Nat) L es ep t, SetX P w h' s.heap.objs.size L es ep t → Held ks ks.length L → (∀ b o, b < s.heap.objs.size → s.heap.get? b = some o → h'.get? b = some o) → Q (.ref s.heap.objs.size) { s with heap := h', toks := tk }) :
    wpAny (model P w) A (call (.type "set") [.ref l]) Q E s := by
  have iz : items.size = ks.length := by
    have z := congrArg List.length hi
    rwa [Array.length_toList, List.length_map] at z
  refine set_by_loop (fun h' => ∃ L es ep t, SetX P w h' s.heap.objs.size L es ep t ∧ Held ks ks.length L) hl (fun R hR => ?_) fun s' ⟨h', tk, e, ⟨L, es, ep, t, hS, g⟩, kp⟩ => by rw [e]; exact h h' tk L es ep t hS g kp
  obtain ⟨ol, hol, hcl2, nl, hdl⟩ := hl
  have hl1 : (s.heap.push (newSet w)).IsList l items := ⟨_, Heap.get?_push_of_some _ hol, hcl2, nl, hdl⟩
  have atS : (s.heap.push (newSet w)).get? s.heap.objs.size = some (newSet w) := Heap.get?_push_size _ rfl
  have ltl : l < s.heap.objs.size := Heap.lt_size hol
  have hh3 : A.in1.in1.in1.handled = none := by simp [hh]
  have neI : l ≠ (s.heap.push (newSet w)).objs.size := by rw [Heap.size_push]; exact Nat.ne_of_lt (Nat.lt_succ_of_lt ltl)
  have outS : s.heap.objs.size ∉ [(s.heap.push (newSet w)).objs.size, l] := by
    rw [Heap.size_push]; simp only [List.mem_cons, List.mem_singleton, List.not_mem_nil, or_false, not_or]; exact ⟨Nat.ne_of_lt (Nat.lt_succ_self _), Nat.ne_of_gt ltl⟩
  have off : ∀ b, s.heap.objs.size ≤ b → s.heap.get? b = none := fun b hb => by
    cases q : s.heap.get? b with
    | none => rfl
    | some o => exact absurd (Nat.lt_of_lt_of_le (Heap.lt_size q) hb) (Nat.lt_irrefl _)
  refine loop_tx ((Walks.list hh3 _ l neI items).toS) s.heap.objs.size outS ks iz few (fun i v hv => ?_) s.heap hk (off _ (Nat.le_refl _)) (fun b hb => off b (by rw [List.mem_singleton.mp hb, Heap.size_push]; exact Nat.le_succ _)) hu (items.size - 0) 0 _ (by omega) (Nat.zero_le _) ⟨⟨_, Heap.get?_push_size _ rfl, rfl, rfl⟩, (hl1.push _)⟩ (fun b o e => Heap.get?_push_of_some _ (Heap.get?_push_of_some _ e)) ⟨[], #[], 0, _, setX_new (Heap.get?_push_of_some _ atS), ⟨(fun p hp => nomatch hp), fun p hp => by simp at hp⟩⟩ fun s' L es ep t mv hS' g => ?_
  · have z : items.toList[i]? = some v := by rw [Array.getElem?_toList]; exact hv
    rw [hi, List.getElem?_map] at z
    cases q : ks[i]? with
    | none => rw [q] at z; cases z
    | some p =>
      rw [q] at z
      exact ⟨p, rfl, (Option.some.inj z).symm⟩
  · obtain ⟨h', g', d', tk', os'⟩ := s'
    have eg : g' = s.gens := mv.gens; have ed : d' = s.drawn := mv.drawn; have eo : os' = s.os := mv.os
    subst eg; subst ed; subst eo
    rw [iz] at g
    refine hR _ ⟨h', tk', rfl, ⟨L, es, ep, t, hS', g⟩, fun b o hb e => mv.heap b o ?_ (Heap.get?_push_of_some _ (Heap.get?_push_of_some _ e))⟩
    simp only [List.mem_cons, List.mem_singleton, List.not_mem_nil, or_false, not_or]
    exact ⟨Nat.ne_of_lt hb, by rw [Heap.size_push]; exact Nat.ne_of_lt (Nat.lt_succ_of_lt hb)⟩
end
end Fc
set_option maxHeartbeats 8000000
/-! Pairs of texts: rising, each once; set(list of pairs), sorted(set of pairs). -/
namespace Fc
open PySem PySem.Spec PyProof.Rows L2
/-! ### pairs that rise -/
abbrev RsP (l : List P2) : Prop := l.Pairwise fun a b => lexS a b = true
theorem RsP.uniq : ∀ {l m : List P2}, RsP l → RsP m → (∀ x, x ∈ l ↔ x ∈ m) → l = m
  | [], [], _, _, _ => rfl
  | [], b :: m, _, _, h => nomatch (h b).mpr List.mem_cons_self
  | a :: l, [], _, _, h => nomatch (h a).mp List.mem_cons_self
  | a :: l, b :: m, hl, hm, h => by
    obtain ⟨l1, l2⟩ := List.pairwise_cons.mp hl
    obtain ⟨m1, m2⟩ := List.pairwise_cons.mp hm
    have e : a = b := by
      rcases List.mem_cons.mp ((h a).mp List.mem_cons_self) with z | z
      · exact z
      · rcases List.mem_cons.mp ((h b).mpr List.mem_cons_self) with y | y
        · exact y.symm
        · have t := lexS_trans (l1 b y) (m1 a z)
          rw [lexS_irr] at t
          cases t
    subst e
    refine congrArg _ (RsP.uniq l2 m2 fun z => ⟨fun q => ?_, fun q => ?_⟩)
    · rcases List.mem_cons.mp ((h z).mp (List.mem_cons_of_mem _ q)) with p | p
      · have t := l1 z q
        rw [p, lexS_irr] at t
        cases t
      · exact p
    · rcases List.mem_cons.mp ((h z).mpr (List.mem_cons_of_mem _ q)) with p | p
      · have t := m1 z q
        rw [p, lexS_irr] at t
        cases t
      · exact p
theorem RsP.nodup {l : List P2} (h : RsP l) : l.Nodup := h.imp fun {a b} z e => by
  rw [e, lexS_irr] at z
  cases z
def le2 (a b : P2) : Bool := !lexS b a
theorem le2_trans (a b c : P2) (h1 : le2 a b = true) (h2 : le2 b c = true) : le2 a c = true := by
  unfold le2 at h1 h2 ⊢
  rw [Bool.not_eq_true'] at h1 h2 ⊢
  exact (swo_lexS (fun x : P2 => x)).2 a b c h1 h2
theorem le2_total (a b : P2) : (le2 a b || le2 b a) = true := by
  unfold le2
  cases z : lexS b a with
  | false => rfl
  | true => rw [lexS_asym z]; rfl
/-- each once, the last of equals -/
def onceP : List P2 → List P2
  | [] => []
  | x :: r => if x ∈ r then onceP r else x :: onceP r
theorem onceP_mem (z : P2) : ∀ l : List P2, z ∈ onceP l ↔ z ∈ l
  | [] => Iff.rfl
  | x :: r => by
    unfold onceP
    split
    · rename_i c
      rw [onceP_mem z r, List.mem_cons]
      exact ⟨.inr, fun q => q.elim (fun e => e ▸ c) id⟩
    · rw [List.mem_cons, List.mem_cons, onceP_mem z r]
theorem onceP_nd : ∀ l : List P2, (onceP l).Nodup
  | [] => List.nodup_nil
  | x :: r => by
    unfold onceP
    split
    · exact onceP_nd r
    · rename_i c
      exact List.nodup_cons.mpr ⟨fun z => c ((onceP_mem x r).mp z), onceP_nd r⟩
/-- the pairs rising, each once -/
def riseP (xs : List P2) : List P2 := (onceP xs).mergeSort le2
theorem srtd_rsP {l : List P2} (h : SrtO.Srtd (fun v u => lexS v u) l) (nd : l.Nodup) : RsP l := by
  refine (h.and nd).imp fun {a b} z => ?_
  rcases lexS_tri a b with y | y | y
  · exact y
  · exact (z.2 y).elim
  · have x : lexS b a = false := z.1
    rw [y] at x
    cases x
theorem riseP_mem (z : P2) (xs : List P2) : z ∈ riseP xs ↔ z ∈ xs := (List.mergeSort_perm _ _).mem_iff.trans (onceP_mem z xs)
theorem riseP_rs (xs : List P2) : RsP (riseP xs) := by
  have z := List.pairwise_mergeSort (le := le2) le2_trans le2_total (onceP xs)
  refine srtd_rsP (z.imp fun {a b} h => ?_) ((List.mergeSort_perm _ _).nodup_iff.mpr (onceP_nd xs))
  have y : (!lexS b a) = true := h
  simpa using y
theorem riseP_of {xs l : List P2} (h : RsP l) (k : ∀ x, x ∈ l ↔ x ∈ xs) : l = riseP xs := RsP.uniq h (riseP_rs xs) fun x => (k x).trans (riseP_mem x xs).symm
theorem riseP_congr {xs ys : List P2} (h : ∀ x, x ∈ xs ↔ x ∈ ys) : riseP xs = riseP ys := riseP_of (riseP_rs xs) fun x => (riseP_mem x xs).trans (h x)
theorem riseP_len (xs : List P2) : (riseP xs).length ≤ xs.length := nodup_le (riseP_rs xs).nodup fun x hx => (riseP_mem x xs).mp hx
/-! ### the set as an object of the heap -/
def tx2 (q : Addr × P2) : TxA := (q.1, [q.2.1, q.2.2])
def SetP0 (P : Program) (w : World) (a : Addr) (L : List (Addr × P2)) (h : Heap) : Prop := ∃ (es : Array (Int × Value)) (ep : Nat) (t : SetTable), (∃ o, h.get? a = some o ∧ o.ExactSet ∧ o.data = .set es ep t) ∧ es.toList = (L.map tx2).map (entT P w) ∧ t.fits es.size = true ∧ es.size < scanBound ∧ Ris t.place.toList ∧ (w.params.followText "set-order" = true ∨ t.led = true)
def SetPO (P : Program) (w : World) (a : Addr) (L : List (Addr × P2)) : HO := .ext (SetP0 P w a L)
theorem setPO_new {P : Program} {w : World} {H : Hp} {h : Heap} {a : Addr} {L : List (Addr × P2)} (R : SetP0 P w a L h) : ObjOk P w H h a (SetPO P w a L) := by
  have ⟨es, ep, t, ⟨o, ho, r⟩, q⟩ := R
  refine ⟨R, ⟨o, ho⟩, fun h1 h2 p k => ?_⟩
  have ⟨es', ep', t', ⟨o', ho', r'⟩, q'⟩ := (p : SetP0 P w a L h1)
  exact ⟨es', ep', t', ⟨o', k o' ho', r'⟩, q'⟩
theorem items_strs {P : Program} {w : World} : ∀ {k : List Str} {us : List Value}, Vals (k.map V.str) us → ItemsAre (PySem.strKind P w) k us
  | [], _, .nil => .nil
  | x :: k, _, .cons r t => by
    obtain ⟨tk, rfl⟩ := r
    exact .cons (strKind_is P w x tk) (items_strs t)
section
variable {X : Cx}
theorem Inv.txt {pins : List (Addr × Obj)} {σ : L2.St} {H : Hp} {s : Shared} {b : Addr} {k : List Str} (I : Inv X pins σ H s) (h : H b = some (.tup (k.map V.str))) : Txt X.prog X.w s.heap k b := by
  obtain ⟨_, its, r, o, ho, hc, n, hd⟩ := I.hok _ _ h
  exact ⟨o, its.toArray, n, ho, hc, hd, by simpa using items_strs r⟩
theorem refs_vals : ∀ {l : List Addr} {us : List Value}, Vals (l.map V.ref) us → us = l.map Value.ref
  | [], _, .nil => rfl
  | p :: l, _, .cons r t => by
    cases r
    rw [refs_vals t]
    rfl
/-- set(list of pairs of texts), of few unlike ones -/
def rSetPP (K : PySem.W.Frag) (P : Program) (w : World) : List V → Hp → VK → Prop := fun vs H Q => ∃ (S : Addr → Prop) (l : Addr) (xs : List V) (ps : List P2), vs = [.ref l] ∧ SqL K H l xs ∧ DnA S H xs (ps.map paperD) ∧ (∃ D : List P2, D.length < 64 ∧ ∀ p ∈ ps, p ∈ D) ∧
  ∀ a (L : List (Addr × P2)), H a = none → (∀ q ∈ L, ¬ S q.1 ∧ q.2 ∈ ps ∧ H q.1 = some (.tup [.str q.2.1, .str q.2.2])) → (∀ p ∈ ps, p ∈ L.map (·.2)) → (L.map (·.2)).Nodup → Q (.ref a) (upd H a (SetPO P w a L))
theorem dnA_refs {S : Addr → Prop} {H : Hp} : ∀ {xs : List V} {ps : List P2}, DnA S H xs (ps.map paperD) → ∃ L : List (Addr × P2), xs = (L.map (·.1)).map V.ref ∧ L.map (·.2) = ps ∧ ∀ q ∈ L, ¬ S q.1 ∧ H q.1 = some (.tup [.str q.2.1, .str q.2.2])
  | _, [], h => by
    cases h
    exact ⟨[], rfl, rfl, fun q hq => nomatch hq⟩
  | _, p :: ps, h => by
    cases h with
    | cons h t =>
      obtain ⟨L, e1, e2, k⟩ := dnA_refs t
      obtain ⟨a, rfl, ns, ha⟩ := paperD_ex h
      refine ⟨(a, p) :: L, by rw [List.map_cons, List.map_cons, ← e1], by rw [List.map_cons, e2], fun q hq => ?_⟩
      rcases List.mem_cons.mp hq with z | z
      · rw [z]
        exact ⟨ns, ha⟩
      · exact k q z
theorem nodup_of2 {L : List TxA} (M : List (Addr × P2)) (e : L = M.map tx2) (nd : (L.map (·.2)).Nodup) : (M.map (·.2)).Nodup := by
  subst e
  rw [List.map_map] at nd
  refine List.pairwise_map.mpr ((List.pairwise_map.mp nd).imp fun {a b} h e => h ?_)
  show [a.2.1, a.2.2] = [b.2.1, b.2.2]
  rw [e]
theorem back2 (M : List (Addr × P2)) : ∀ L : List TxA, (∀ p ∈ L, p ∈ M.map tx2) → ∃ N : List (Addr × P2), L = N.map tx2 ∧ ∀ q ∈ N, q ∈ M
  | [], _ => ⟨[], rfl, fun q hq => nomatch hq⟩
  | p :: L, h => by
    obtain ⟨N, e, k⟩ := back2 M L fun q hq => h q (List.mem_cons_of_mem _ hq)
    obtain ⟨q, hq, e2⟩ := List.mem_map.mp (h p List.mem_cons_self)
    refine ⟨q :: N, by rw [List.map_cons, e2, e], fun r hr => ?_⟩
    rcases List.mem_cons.mp hr with z | z
    · rw [z]
      exact hq
    · exact k r z
theorem cr_setPP (hc : X.calm = true) (hu : X.A.units + 64 < cLine) : CallR X (.type "set") (rSetPP X.K X.prog X.w) := by
  intro pins s σ H vs us Q I r h
  obtain ⟨S, l, xs, ps, rfl, hl, hx, ⟨D, d1, d2⟩, q⟩ := h
  rw [Vals.ref1 r]
  obtain ⟨M, e1, e2, hM⟩ := dnA_refs hx
  obtain ⟨its, rv, pl, _⟩ := I.list hl
  rw [e1] at rv
  have hn : H s.heap.objs.size = none := I.hok.fresh (Nat.le_refl _)
  refine set_of_tx (P := X.prog) (w := X.w) (M.map tx2) (I.ok.hd hc) pl.isList (by rw [List.toList_toArray, refs_vals rv, List.map_map, List.map_map]; rfl) (fun p hp => ?_) ⟨D.map fun p => [p.1, p.2], by rw [List.length_map]; exact d1, fun p hp => ?_⟩ (by omega) fun h' tk L es ep t R g k => ?_
  · obtain ⟨q, hq, e⟩ := List.mem_map.mp hp
    rw [← e]
    exact Inv.txt I (k := [q.2.1, q.2.2]) (hM q hq).2
  · obtain ⟨q, hq, e⟩ := List.mem_map.mp hp
    have hd := d2 q.2 (by rw [← e2]; exact List.mem_map.mpr ⟨q, hq, rfl⟩)
    rw [← e]
    exact List.mem_map.mpr ⟨q.2, hd, rfl⟩
  · obtain ⟨N, eN, sub⟩ := back2 M L g.from_
    have low := SetX.low (s := { s with heap := h' }) R
    have sz := ents_len R.ent
    refine ⟨.ref s.heap.objs.size, upd H s.heap.objs.size (SetPO X.prog X.w s.heap.objs.size N), I.laid (t' := tk) (fun b o e => k b o (Heap.lt_size e) e) (Nat.le_refl _) (setPO_new ⟨es, ep, t, R.at_, by rw [← eN]; exact R.ent, SetX.fits (s := { s with heap := h' }) R, by unfold scanBound; omega, R.tab.ris, R.ld⟩), rfl, q _ N hn (fun p hp => ?_) (fun p hp => ?_) (nodup_of2 N eN R.un)⟩
    · have z := hM p (sub p hp)
      refine ⟨z.1, ?_, z.2⟩
      rw [← e2]
      exact List.mem_map.mpr ⟨p, sub p hp, rfl⟩
    · rw [← e2] at hp
      obtain ⟨m, hm, e⟩ := List.mem_map.mp hp
      have z := g.has (tx2 m) (by rw [List.take_length]; exact List.mem_map.mpr ⟨m, hm, rfl⟩)
      rw [eN, List.map_map] at z
      obtain ⟨m2, hm2, ee⟩ := List.mem_map.mp z
      have ee : [m2.2.1, m2.2.2] = [m.2.1, m.2.2] := ee
      injection ee with x1 ee
      injection ee with x2 ee
      exact List.mem_map.mpr ⟨m2, hm2, by rw [← e]; exact Prod.ext x1 x2⟩
/-- sorted(a set of pairs of texts) -/
def rSortPS (P : Program) (w : World) : List V → Hp → VK → Prop := fun vs H Q => ∃ (S : Addr → Prop) (a : Addr) (L : List (Addr × P2)), vs = [.ref a] ∧ H a = some (SetPO P w a L) ∧ (∀ q ∈ L, ¬ S q.1 ∧ H q.1 = some (.tup [.str q.2.1, .str q.2.2])) ∧ (L.map (·.2)).Nodup ∧
  ∀ ys p, DnA S H ys ((riseP (L.map (·.2))).map paperD) → H p = none → Q (.ref p) (upd H p (.lst ys))
theorem pairs_dn {S : Addr → Prop} {H : Hp} {k : V → P2} : ∀ {ys : List V}, (∀ y ∈ ys, ∃ t, y = V.ref t ∧ ¬ S t ∧ H t = some (.tup [.str (k y).1, .str (k y).2])) → DnA S H ys ((ys.map k).map paperD)
  | [], _ => .nil
  | y :: ys, h => by
    obtain ⟨t, e, ns, ht⟩ := h y List.mem_cons_self
    have i := pairs_dn (k := k) fun z hz => h z (List.mem_cons_of_mem _ hz)
    rw [List.map_cons, List.map_cons]
    refine .cons ?_ i
    rw [e] at ht ⊢
    exact .tup ns ht (DnA.strs [(k (.ref t)).1, (k (.ref t)).2])
theorem cr_sortPS (hc : X.calm = true) : CallR X (.builtin "sorted") (rSortPS X.prog X.w) := by
  intro pins s σ H vs us Q I r h
  obtain ⟨S, a, L, rfl, ha, hk, nd, q⟩ := h
  have R0 : SetP0 X.prog X.w a L s.heap := (I.hok a _ ha).1
  obtain ⟨es, ep, t, ⟨o, ho, hex, hd⟩, hen, hf, hb, hr, hl⟩ := R0
  rw [Vals.ref1 r]
  refine Calls.call_function_entry kind_sorted plain_sorted entry_sorted (args_sorted1 _) ?_
  unfold Builtin.«sorted»
  refine wpAny_bind (m := checkCount "sorted" 1 1 _) (wpAny_pure (wpAny_bind (collect_set (A := X.A.in1) (I.ok.hd hc) ⟨o, ho, hex.1, hd⟩ hf hb hr hl fun s1 vs k1 hz g1 o1 pv => ?_)))
  have ev : es.toList.map (·.2) = (L.map (·.1)).map Value.ref := by
    rw [hen, List.map_map, List.map_map, List.map_map]
    rfl
  rw [ev] at pv
  have szL : es.size = L.length := by
    have z := congrArg List.length hen
    simpa using z
  have vl : vs.length = L.length := by rw [pv.length_eq, List.length_map, List.length_map]
  have isR : ∀ v ∈ vs, ∃ q ∈ L, v = Value.ref q.1 := fun v hv => by
    have z := pv.mem_iff.mp hv
    rw [List.map_map] at z
    obtain ⟨q, hq, e⟩ := List.mem_map.mp z
    exact ⟨q, hq, e.symm⟩
  have kk : ∀ q ∈ L, keyP H (.ref q.1) = q.2 := fun q hq => keyP_at (hk q hq).2
  have two0 : ∀ v ∈ vs, TwoS s.heap v (keyP H (backV v)) := fun v hv => by
    obtain ⟨q, hq, rfl⟩ := isR v hv
    obtain ⟨_, its2, r2, o2, ho2, hc2, n2, hd2⟩ := I.hok _ _ (hk q hq).2
    obtain ⟨u1, u2, rfl, ri, rj⟩ := vals2 r2
    obtain ⟨t1, rfl⟩ := ri
    obtain ⟨t2, rfl⟩ := rj
    have e : keyP H (backV (.ref q.1)) = q.2 := kk q hq
    rw [e]
    exact ⟨q.1, o2, t1, t2, n2, rfl, ho2, hc2, hd2⟩
  have vz : vs.length ≤ sizeLine := by
    rw [vl, ← szL, sizeLine_eq]
    unfold scanBound at hb
    omega
  refine wpAny_bind (wpAny_newList ?_ vz)
  have atL : (s1.heap.push (seqObj "list" vs.toArray 0)).get? s1.heap.objs.size = some (seqObj "list" vs.toArray 0) := Heap.get?_push_size _ rfl
  have two1 : ∀ v ∈ vs, TwoS (s1.heap.push (seqObj "list" vs.toArray 0)) v (keyP H (backV v)) := fun v hv => (two0 v hv).over fun b o e _ => Heap.get?_push_of_some _ (k1 b o e)
  refine wpAny_bind (wpAny_holding (wpAny_call_entry slot_list_sort ⟨_, atL, rfl⟩ entry_list_sort (SrtO.list_sort_ord (swo_lexS fun u => keyP H (backV u)) atL vz (fun h2 => two_sortable (s := { s1 with heap := s1.heap.push (seqObj "list" vs.toArray 0) }) (k := fun u => keyP H (backV u)) (by omega) two1 fun o e c => by
    have e' : some (seqObj "list" vs.toArray 0) = some o := atL.symm.trans e
    cases e'
    exact absurd (Value.type.inj c) (by decide)) fun out hs hb => ⟨_, rfl, ?_⟩) (args_list_sort _)))
  obtain ⟨c, hcap⟩ := sortedHeap_at (vs := vs) (out := out.toArray) atL
  have outR : ∀ v ∈ out, ∃ q ∈ L, v = Value.ref q.1 := fun v hv => isR v (hb.perm.mem_iff.mp hv)
  have h3 : ∀ u ∈ out, ∃ a, u = Value.ref a := fun u hu => by
    obtain ⟨q, _, e⟩ := outR u hu
    exact ⟨q.1, e⟩
  have pk : ((out.map backV).map (keyP H)).Perm (L.map (·.2)) := by
    have z := ((hb.perm.trans pv).map backV).map (keyP H)
    have e : (((L.map (·.1)).map Value.ref).map backV).map (keyP H) = L.map (·.2) := by
      rw [List.map_map, List.map_map, List.map_map]
      exact List.map_congr_left fun q hq => kk q hq
    rw [e] at z
    exact z
  have so : SrtO.Srtd (fun v u => lexS v u) ((out.map backV).map (keyP H)) := by
    rw [List.map_map]
    exact List.pairwise_map.mpr hs
  have er : (out.map backV).map (keyP H) = riseP (L.map (·.2)) := riseP_of (srtd_rsP so (pk.nodup_iff.mpr nd)) fun x => pk.mem_iff
  have dn : DnA S H (out.map backV) ((riseP (L.map (·.2))).map paperD) := by
    rw [← er]
    refine pairs_dn fun y hy => ?_
    obtain ⟨u, hu, e⟩ := List.mem_map.mp hy
    obtain ⟨q, hq, e2⟩ := outR u hu
    subst e2
    refine ⟨q.1, e.symm, (hk q hq).1, ?_⟩
    rw [← e, show keyP H (backV (.ref q.1)) = q.2 from kk q hq]
    exact (hk q hq).2
  have hn : H s1.heap.objs.size = none := I.hok.fresh hz
  have ol : (out.map backV).length ≤ sizeLine := by rw [List.length_map, hb.perm.length_eq]; exact vz
  have keep : ∀ b u, s.heap.get? b = some u → (sortedHeap (s1.heap.push (seqObj "list" vs.toArray 0)) s1.heap.objs.size vs out.toArray).get? b = some u := fun b u e => by
    have z := k1 b u e
    have lt := Heap.lt_size z
    rw [sortedHeap_old (Nat.ne_of_lt lt) (by rw [size_push']; exact Nat.lt_succ_of_lt lt)]
    exact Heap.get?_push_of_some _ z
  refine wpAny_pure ⟨_, rfl, ?_⟩
  have J : Inv X pins σ (upd H s1.heap.objs.size (.lst (out.map backV))) { s with heap := sortedHeap (s1.heap.push (seqObj "list" vs.toArray 0)) s1.heap.objs.size vs out.toArray, gens := s1.gens, drawn := s1.drawn, toks := s1.toks } :=
    I.call (ch := []) (Un.laid keep hz hn) (I.hok.laid keep hz ⟨ol, _, c, vals_back h3, hcap⟩) (by rw [g1]; exact I.bare) (fun _ z => nomatch z)
  have e : ({ s1 with heap := sortedHeap (s1.heap.push (seqObj "list" vs.toArray 0)) s1.heap.objs.size vs out.toArray } : Shared) = { s with heap := sortedHeap (s1.heap.push (seqObj "list" vs.toArray 0)) s1.heap.objs.size vs out.toArray, gens := s1.gens, drawn := s1.drawn, toks := s1.toks } := by
    cases s1
    cases s
    cases o1
    rfl
  exact ⟨.ref s1.heap.objs.size, _, by rw [e]; exact J, rfl, q _ _ dn hn⟩
end
end Fc
set_option maxHeartbeats 4000000
/-! {x}, x a text. -/
namespace Fc
open PySem PySem.Spec PyProof.Rows L2
theorem kds_def {K : PySem.W.Frag} {mg : Str → Option Value} {x : Str} {st : Stmt} (D : DefAt K mg x st) : PySem.W.kdsCode K (.ref (cO K x)) = true := by
  obtain ⟨fd, F⟩ := D.fn
  obtain ⟨oc, od, dV, kV, doc, pm, an, cdv, ct, osl, rfl, lk, hcd, _, _⟩ := F.ex
  obtain ⟨c, rfl⟩ := He.codeIn_ref hcd
  have e : cO K x = c := He.codeOf_eq (p := (x, none)) lk rfl
  rw [e]
  exact kdsCode_of hcd
section
variable {prog : Program} {w : World} {A : Around} {E : Value → Shared → Prop} {s : Shared}
theorem empty_set {Q : Value → Shared → Prop} (h : Q (.ref s.heap.objs.size) { s with heap := s.heap.push (newSet w) }) : wpAny (model prog w) A (PySem.newSet (.type "set")) Q E s := by
  unfold PySem.newSet setsByText
  refine wpAny_bind (wpAny_bind (wpAny_askSetting (wpAny_pure ?_)))
  dsimp only
  simp only [newObj]
  exact wpAny_bind (wpAny_alloc (wpAny_pure h))
theorem one_set {b : Bool} {m : Sem Value} {Q : Value → Shared → Prop} (h : wpAny (model prog w) A m (fun v s1 => wpAny (model prog w) A (setAdd s.heap.objs.size v) (fun _ s2 => Q (.ref s.heap.objs.size) s2) E s1) E { s with heap := s.heap.push (newSet w) }) :
    wpAny (model prog w) A (setDisplay .oneByOne b [(false, m)]) Q E s := by
  unfold setDisplay
  try dsimp only
  rw [if_neg (by decide)]
  refine wpAny_bind (empty_set ?_)
  dsimp only
  refine wpAny_bind (wpAny_holding ?_)
  have e1 : ((if [(false, m)].length > 30 then 0 else ([(false, m)].findIdx? (·.1)).getD [(false, m)].length) : Nat) = 1 := by rfl
  rw [e1]
  show wpAny _ _ (evalAll [m] >>= _) _ _ _
  refine wpAny_bind ?_
  show wpAny _ _ (m >>= fun v => holding [v] (evalAll []) >>= fun r => pure (v :: r)) _ _ _
  refine wpAny_bind (thn h fun v s1 q => ?_)
  refine wpAny_bind (wpAny_holding (wpAny_pure (wpAny_pure (wpAny_bind (wpAny_holding ?_)))))
  rw [List.forIn_cons]
  refine wpAny_bind (wpAny_bind (wpAny_bind (thn q fun _ s2 q2 => ?_)))
  refine wpAny_pure (wpAny_pure ?_)
  rw [if_neg (by decide)]
  refine wpAny_pure ?_
  show wpAny _ _ (forIn [] _ _ >>= _) _ _ _
  rw [List.forIn_nil]
  exact wpAny_bind (wpAny_pure (wpAny_pure (wpAny_pure q2)))
end
section
variable {X : Cx}
def tSet1 (w : World) (te : TE) : TE := fun σ H Q => ∀ p, H p = none → te σ (upd H p (SetSO w p [])) fun x H1 => ∃ k, x = .str k ∧ H1 p = some (SetSO w p []) ∧ Q (.ref p) (upd H1 p (SetSO w p [k]))
theorem pe_set1 {e : Expr} {te : TE} {pos : Pos} (he : PE X e te) (hcd : PySem.W.kdsCode X.K X.env.code = true) (hs : starEach [e] X.env = [(false, eval e X.env)] := by rfl) : PE X (.Set [e] 0 pos) (tSet1 X.w te) := by
  refine ⟨fun pins s σ H Q I h => ?_⟩
  have hn : H s.heap.objs.size = none := I.hok.fresh (Nat.le_refl _)
  have h2 := h s.heap.objs.size hn
  rw [arm_eval_Set]
  refine wpAny_bind (wpAny_standAt (wpAny_bind (PySem.W.kds_main I.kIn hcd fun b => ?_)))
  rw [hs]
  show wpAny _ _ (setDisplay .oneByOne b [(false, do let v ← eval e X.env; standAt pos; pure v)]) _ _ s
  refine one_set (wpAny_bind ?_)
  have J : Inv X pins σ (upd H s.heap.objs.size (SetSO X.w s.heap.objs.size [])) { s with heap := s.heap.push (newSet X.w) } := I.laid (t' := s.toks) (fun b u e => Heap.get?_push_of_some _ e) (Nat.le_refl _) (setSO_new (newS rfl (Heap.get?_push_size _ rfl)))
  refine thn (he.run pins _ σ _ _ J h2) fun v s1 ⟨x, H1, I1, r1, k, ex, hk, q⟩ => wpAny_bind (wpAny_standAt (wpAny_pure ?_))
  subst ex
  obtain ⟨tk, rfl⟩ := r1
  unfold setAdd
  refine wpAny_holding (wpAny_bind ((PySem.strKind X.prog X.w).pyHash (strKind_is X.prog X.w k tk) ?_))
  refine addS_hashed (s := { s1 with toks := s1.toks + 1 }) (show SetS X.w s1.heap _ _ from setSO_get I1 hk) (by decide) fun b h' l' sb r el => ?_
  rw [el, if_neg (by simp)] at r
  have hex : ∃ u, h'.get? s.heap.objs.size = some u := by
    obtain ⟨o, _, _, _, ho, _⟩ := r.ex
    exact ⟨o, ho⟩
  exact ⟨.ref _, upd H1 s.heap.objs.size (SetSO X.w s.heap.objs.size [k]), I1.write (e := s.heap.objs.size) (t' := s1.toks + 1) (by rw [hk]; trivial) (.inl rfl) (fun b u hb hu => (sb.2 b hb).trans hu) hex (setSO_new r), rfl, q⟩
theorem pe_set1w {w : World} {K : PySem.W.Frag} {e : Expr} {te : TE} {pos : Pos} (he : PE X e te) (hcd : PySem.W.kdsCode K X.env.code = true) (hw : X.w = w := by rfl) (hK : X.K = K := by rfl) (hs : starEach [e] X.env = [(false, eval e X.env)] := by rfl) : PE X (.Set [e] 0 pos) (tSet1 w te) := by
  subst hw
  subst hK
  exact pe_set1 he hcd hs
end
end Fc
set_option maxHeartbeats 4000000
/-! What is amiss, deeds, the cabinet behind them. -/
namespace Fc
open PySem PySem.Spec PyProof.Rows L2
/-! ### comprehensions of two clauses -/
section
variable {X : Cx} {K : PySem.W.Frag}
theorem pi_listK {tg l : Expr} {tl : TE} (hl : PE X l tl) (h : X.K = K := by rfl) : PI X tg l (iList K tl) := by
  subst h
  exact pi_list hl
end
section
variable {J : It} {n : Nat} {G : Hp → Prop} {Y : Nat → Hp → V → Hp → Prop}
theorem lc2_in (w : Walk J n G Y) {g1 : TG} {tt1 : TT} {te : TE} {vs1 : List Nat} {σ2 : L2.St} {H4 : Hp} {D : Addr} {Nx : Hp → Prop} (Pv : Nat → Hp → Prop) (h0 : Pv 0 H4) (hG : ∀ j H, j ≤ n → Pv j H → G H)
    (hs : ∀ j x H H', j < n → Pv j H → Y j H x H' → g1 x (wipe σ2 vs1) H' fun σ3 H5 => wipe σ3 vs1 = wipe σ2 vs1 ∧ tt1 σ3 H5 fun b H6 => if b = true then te σ3 H6 fun y H7 => ∃ acc, H7 D = some (.lst acc) ∧ acc.length < sizeLine ∧ Pv (j + 1) (upd H7 D (.lst (acc ++ [y]))) else Pv (j + 1) H6) (hd : ∀ H, Pv n H → Nx H) :
    ∃ W1 : Nat → Nat → Hp → Prop, (∃ m, W1 0 m H4) ∧ ∀ j k H, W1 j k H → (J.stop j H ∧ Nx H) ∨ (J.go j H ∧ ∃ Nx1 : Hp → Prop, (∀ H', Nx1 H' → ∃ k', k' < k ∧ W1 (j + 1) k' H') ∧ ∀ x H', J.yld j H x H' → g1 x (wipe σ2 vs1) H' fun σ3 H5 => wipe σ3 vs1 = wipe σ2 vs1 ∧ tt1 σ3 H5 fun b H6 =>
      if b = true then te σ3 H6 fun y H7 => ∃ acc, H7 D = some (.lst acc) ∧ acc.length < sizeLine ∧ Nx1 (upd H7 D (.lst (acc ++ [y]))) else Nx1 H6) := by
  refine ⟨fun j m H => m = n - j ∧ j ≤ n ∧ Pv j H, ⟨n, rfl, Nat.zero_le _, h0⟩, ?_⟩
  intro j m H z
  obtain ⟨e, hj, p⟩ := z
  subst e
  have q := hG j H hj p
  rcases Nat.lt_or_ge j n with lt | ge
  · exact .inr ⟨w.goes j H lt q, Pv (j + 1), fun H' p' => ⟨n - (j + 1), by omega, rfl, lt, p'⟩, fun x H' y => hs j x H H' lt p (w.yields j H x H' lt q y)⟩
  · have e : j = n := by omega
    subst e
    exact .inl ⟨w.stops H q, hd H p⟩
theorem lc2_it (w : Walk J n G Y) {wi1 : TI} {g g1 : TG} {tt tt1 : TT} {te : TE} {vs vs1 : List Nat} {σ : L2.St} {H1 : Hp} {D : Addr} {Qd : Hp → Prop} (Pv : Nat → Hp → Prop) (h0 : Pv 0 (upd H1 D (.lst []))) (hG : ∀ i H, i ≤ n → Pv i H → G H)
    (hs : ∀ i x H H', i < n → Pv i H → Y i H x H' → g x (wipe σ vs) H' fun σ2 H2 => wipe σ2 vs = wipe σ vs ∧ tt σ2 H2 fun b H3 =>
      if b = true then wi1 σ2 H3 fun J1 H4 => ∃ W1 : Nat → Nat → Hp → Prop, (∃ m, W1 0 m H4) ∧ ∀ j k H, W1 j k H → (J1.stop j H ∧ Pv (i + 1) H) ∨ (J1.go j H ∧ ∃ Nx1 : Hp → Prop, (∀ H', Nx1 H' → ∃ k', k' < k ∧ W1 (j + 1) k' H') ∧ ∀ x H', J1.yld j H x H' → g1 x (wipe σ2 vs1) H' fun σ3 H5 => wipe σ3 vs1 = wipe σ2 vs1 ∧ tt1 σ3 H5 fun b H6 =>
        if b = true then te σ3 H6 fun y H7 => ∃ acc, H7 D = some (.lst acc) ∧ acc.length < sizeLine ∧ Nx1 (upd H7 D (.lst (acc ++ [y]))) else Nx1 H6) else Pv (i + 1) H3) (hd : ∀ H, Pv n H → Qd H) :
    ∃ W : Nat → Nat → Hp → Prop, (∃ m, W 0 m (upd H1 D (.lst []))) ∧ ∀ i m H, W i m H →
      (J.stop i H ∧ Qd H) ∨ (J.go i H ∧ ∃ Nx : Hp → Prop, (∀ H', Nx H' → ∃ m', m' < m ∧ W (i + 1) m' H') ∧ ∀ x H', J.yld i H x H' → g x (wipe σ vs) H' fun σ2 H2 => wipe σ2 vs = wipe σ vs ∧ tt σ2 H2 fun b H3 =>
        if b = true then wi1 σ2 H3 fun J1 H4 => ∃ W1 : Nat → Nat → Hp → Prop, (∃ m, W1 0 m H4) ∧ ∀ j k H, W1 j k H →
          (J1.stop j H ∧ Nx H) ∨ (J1.go j H ∧ ∃ Nx1 : Hp → Prop, (∀ H', Nx1 H' → ∃ k', k' < k ∧ W1 (j + 1) k' H') ∧ ∀ x H', J1.yld j H x H' → g1 x (wipe σ2 vs1) H' fun σ3 H5 => wipe σ3 vs1 = wipe σ2 vs1 ∧ tt1 σ3 H5 fun b H6 =>
            if b = true then te σ3 H6 fun y H7 => ∃ acc, H7 D = some (.lst acc) ∧ acc.length < sizeLine ∧ Nx1 (upd H7 D (.lst (acc ++ [y]))) else Nx1 H6)
        else Nx H3) := by
  refine ⟨fun i m H => m = n - i ∧ i ≤ n ∧ Pv i H, ⟨n, rfl, Nat.zero_le _, h0⟩, ?_⟩
  intro i m H z
  obtain ⟨e, hi, p⟩ := z
  subst e
  have q := hG i H hi p
  rcases Nat.lt_or_ge i n with lt | ge
  · exact .inr ⟨w.goes i H lt q, Pv (i + 1), fun H' p' => ⟨n - (i + 1), by omega, rfl, lt, p'⟩, fun x H' y => hs i x H H' lt p (w.yields i H x H' lt q y)⟩
  · have e : i = n := by omega
    subst e
    exact .inl ⟨w.stops H q, hd H p⟩
end
theorem kp_fresh {S : Addr → Prop} {H H1 H2 : Hp} (x : Kp N0 H H1) (y : Kp S H1 H2) (h : ∀ a, S a → H a = none) : Kp N0 H H2 := fun a o e => by
  obtain ⟨u, eu, c⟩ := (x.up.trans y : Kp S H H2) a o e
  refine ⟨u, eu, ?_⟩
  rcases c with c | c | c
  · exact .inl c
  · rw [h a c.1] at e
    cases e
  · exact .inr (.inr c)
section
variable {X : Cx} {K : PySem.W.Frag}
theorem cr_sortSLK (h : X.K = K := by rfl) : CallR X (.builtin "sorted") (rSortSL K) := by
  subst h
  exact cr_sortSL
end
/-! ### papers as a dict -/
def pkv (ps : List P2) : List (Key × V) := ps.map fun p => (.inr p.1, .str p.2)
theorem merge_nd : ∀ (more kvs : List (Key × V)), (more.map (·.1)).Nodup → (∀ q ∈ more, valV kvs q.1 = none) → mergeK kvs more = kvs ++ more
  | [], kvs, _, _ => (List.append_nil kvs).symm
  | (k, v) :: more, kvs, nd, h => by
    obtain ⟨n1, n2⟩ := List.nodup_cons.mp nd
    have hk := h (k, v) List.mem_cons_self
    show mergeK (putK kvs k v) more = kvs ++ ((k, v) :: more)
    rw [putK_new _ hk, merge_nd more _ n2 fun q hq => ?_, List.append_assoc]
    · rfl
    · rw [valV_snoc _ _ _ _ hk, if_neg (fun z => n1 (by have z' : k = q.1 := z.symm; show k ∈ _; rw [z']; exact List.mem_map.mpr ⟨q, hq, rfl⟩))]
      exact h q (List.mem_cons_of_mem _ hq)
theorem pkv_merge {ps : List P2} (nd : (ps.map (·.1)).Nodup) : mergeK [] (pkv ps) = pkv ps := by
  have e : (pkv ps).map (·.1) = (ps.map (·.1)).map (fun n => (.inr n : Key)) := by
    unfold pkv
    rw [List.map_map, List.map_map]
    rfl
  have z := merge_nd (pkv ps) [] (by rw [e]; exact List.pairwise_map.mpr (nd.imp fun h c => h (Sum.inr.inj c))) fun _ _ => rfl
  rw [z, List.nil_append]
theorem pkv_has (n : Str) : ∀ ps : List P2, (valV (pkv ps) (.inr n)).isSome = decide (n ∈ ps.map (·.1))
  | [] => rfl
  | p :: ps => by
    have ih := pkv_has n ps
    by_cases e : p.1 = n
    · have z : valV (pkv (p :: ps)) (.inr n) = some (.str p.2) := valV_pos (p := ((.inr p.1 : Key), V.str p.2)) (r := pkv ps) (by rw [e])
      rw [z, decide_eq_true (by rw [List.map_cons, e]; exact List.mem_cons_self)]
      rfl
    · have z : valV (pkv (p :: ps)) (.inr n) = valV (pkv ps) (.inr n) := valV_neg (p := ((.inr p.1 : Key), V.str p.2)) (r := pkv ps) (fun c => e (Sum.inr.inj c))
      rw [z, ih]
      refine decide_eq_decide.mpr ?_
      rw [List.map_cons, List.mem_cons]
      exact ⟨.inr, fun h => h.resolve_left fun c => e c.symm⟩
theorem pkv_paired {K : PySem.W.Frag} {S : Addr → Prop} {H : Hp} : ∀ {ps : List P2} {xs : List V}, DnA S H xs (ps.map paperD) → ∃ ts : List Addr, xs = ts.map V.ref ∧ Paired (fun (p : Addr) (kv : Key × V) => SqT K H p [kV kv.1, kv.2]) ts (pkv ps)
  | [], _, h => by
    cases h
    exact ⟨[], rfl, .nil⟩
  | p :: ps, _, h => by
    cases h with
    | cons h t =>
      obtain ⟨ts, rfl, pp⟩ := pkv_paired t
      obtain ⟨a, rfl, _, ha⟩ := paperD_ex h
      exact ⟨a :: ts, rfl, .cons (SqT.of ha) pp⟩
/-! ### what is amiss -/
noncomputable def liesM (rs : List Row) (f : Str → List Str) (n m : Str) : List Str := (orderF rs m).filter fun h => decide (n ∈ f h)
def amissO (n main : Str) : List Str → List Row
  | [] => [(n, ("gone" : Str), main)]
  | h :: t => t.map (fun x => (n, ("twice" : Str), x)) ++ (if h = main then [] else [(n, ("astray" : Str), h)])
noncomputable def amissP (rs : List Row) (f : Str → List Str) (p : P2) : List Row := amissO p.1 (mainM rs p.2) (liesM rs f p.1 p.2)
def strangeH (ps : List P2) (f : Str → List Str) (h : Str) : List Row := ((f h).filter fun n => !decide (n ∈ ps.map (·.1))).map fun n => (n, ("strange" : Str), h)
def strangeM (hs : List Str) (ps : List P2) (f : Str → List Str) : List Row := hs.flatMap (strangeH ps f)
noncomputable def amissA (rs : List Row) (ps : List P2) (f : Str → List Str) : List Row := strangeM (ruleHeadsM rs) ps f ++ ps.flatMap (amissP rs f)
noncomputable def amissF (rs : List Row) (ps : List P2) (f : Str → List Str) : List Row := sort3 (amissA rs ps f)
theorem heads7 {rs : List Row} (g : GoodR rs) : (ruleHeadsM rs).length ≤ 7 := by
  obtain ⟨hs, h6, hm⟩ := g.heads
  have z := nodup_le (m := ("rest" : Str) :: hs) (ruleHeads_nd rs) fun x hx => by
    rcases List.mem_append.mp ((riseS_mem _ _).mp hx) with z | z
    · obtain ⟨r, hr, e⟩ := List.mem_map.mp z
      rw [← e]
      exact List.mem_cons_of_mem _ (hm r hr)
    · rw [List.mem_singleton.mp z]
      exact List.mem_cons_self
  rw [List.length_cons] at z
  omega
theorem strange_len (ps : List P2) {f : Str → List Str} {N : Nat} : ∀ {hs : List Str}, (∀ h ∈ hs, (f h).length ≤ N) → (strangeM hs ps f).length ≤ N * hs.length
  | [], _ => Nat.zero_le _
  | h :: hs, k => by
    have ih := strange_len ps fun x hx => k x (List.mem_cons_of_mem _ hx)
    have z := k h List.mem_cons_self
    have y := List.length_filter_le (fun n => !decide (n ∈ ps.map (·.1))) (f h)
    unfold strangeM at ih ⊢
    rw [List.flatMap_cons, List.length_append, List.length_cons, Nat.mul_succ]
    unfold strangeH
    rw [List.length_map]
    unfold strangeH at ih
    omega
theorem amissO_len (n main : Str) (l : List Str) : (amissO n main l).length ≤ l.length + 1 := by
  cases l with
  | nil => exact Nat.le_refl _
  | cons h t =>
    unfold amissO
    rw [List.length_append, List.length_map, List.length_cons]
    split
    · show _ + 0 ≤ _
      omega
    · show _ + 1 ≤ _
      omega
theorem lies_len {rs : List Row} {m : Str} (ho : orderM rs m (orderF rs m)) (f : Str → List Str) (n : Str) : (liesM rs f n m).length ≤ (ruleHeadsM rs).length := by
  unfold liesM
  have z := List.length_filter_le (fun h => decide (n ∈ f h)) (orderF rs m)
  have y := orderM_len ho
  omega
/-- the law's own turn: astray ahead of twice -/
def amissL (n main : Str) : List Str → List Row
  | [] => [(n, ("gone" : Str), main)]
  | h :: t => (if h = main then [] else [(n, ("astray" : Str), h)]) ++ t.map (fun x => (n, ("twice" : Str), x))
theorem amissL_perm (n main : Str) (l : List Str) : (amissL n main l).Perm (amissO n main l) := by
  cases l with
  | nil => exact List.Perm.refl _
  | cons h t => exact List.perm_append_comm
/-! ### deeds -/
def mainsF (rs : List Row) (ps : List P2) (n : Str) : Str := ((ps.find? fun p => decide (p.1 = n)).map fun p => mainM rs p.2).getD ""
def deedM (mains : Str → Str) (t : Row) : Row := if t.2.1 = "gone" then (t.1, "", t.2.2) else if t.2.1 = "astray" then (t.1, t.2.2, mains t.1) else (t.1, t.2.2, "")
noncomputable def mendedF (rs : List Row) (ps : List P2) (f : Str → List Str) : List Row := sort3 ((amissF rs ps f).map (deedM (mainsF rs ps)))
theorem mains_at {rs : List Row} {ps : List P2} (nd : (ps.map (·.1)).Nodup) {p : P2} (hp : p ∈ ps) : mainsF rs ps p.1 = mainM rs p.2 := by
  unfold mainsF
  have e : ps.find? (fun q => decide (q.1 = p.1)) = some p := by
    induction ps with
    | nil => cases hp
    | cons q ps ih =>
      obtain ⟨n1, n2⟩ := List.nodup_cons.mp nd
      rcases List.mem_cons.mp hp with z | z
      · rw [z, List.find?_cons, decide_eq_true rfl]
      · have ne : ¬ q.1 = p.1 := fun c => n1 (by show q.1 ∈ _; rw [c]; exact List.mem_map.mpr ⟨p, z, rfl⟩)
        rw [List.find?_cons, decide_eq_false ne]
        exact ih n2 z
  rw [e]
  rfl
/-- the main heads of the papers, as a dict -/
def mkv (rs : List Row) (ps : List P2) : List (Key × V) := ps.map fun p => (.inr p.1, .str (mainM rs p.2))
theorem mkv_at {rs : List Row} {ps : List P2} (nd : (ps.map (·.1)).Nodup) {p : P2} (hp : p ∈ ps) : valV (mkv rs ps) (.inr p.1) = some (.str (mainsF rs ps p.1)) := by
  rw [mains_at nd hp]
  have k : ((.inr p.1 : Key), V.str (mainM rs p.2)) ∈ mkv rs ps := List.mem_map.mpr ⟨p, hp, rfl⟩
  refine valV_nd (q := ((.inr p.1 : Key), V.str (mainM rs p.2))) ?_ k
  have e : (mkv rs ps).map (·.1) = (ps.map (·.1)).map (fun n => (.inr n : Key)) := by
    unfold mkv
    rw [List.map_map, List.map_map]
    rfl
  rw [e]
  exact List.pairwise_map.mpr (nd.imp fun h c => h (Sum.inr.inj c))
theorem amiss_word {rs : List Row} {ps : List P2} {f : Str → List Str} {t : Row} (ht : t ∈ amissA rs ps f) : (t.2.1 = "strange" ∧ ¬ t.1 ∈ ps.map (·.1)) ∨ ∃ p ∈ ps, t.1 = p.1 ∧ ((t.2.1 = "gone" ∧ t.2.2 = mainM rs p.2) ∨ t.2.1 = "astray" ∨ t.2.1 = "twice") := by
  rcases List.mem_append.mp ht with z | z
  · obtain ⟨h, _, hz⟩ := List.mem_flatMap.mp z
    obtain ⟨n, hn, e⟩ := List.mem_map.mp hz
    subst e
    have y := (List.mem_filter.mp hn).2
    exact .inl ⟨rfl, by simpa using y⟩
  · obtain ⟨p, hp, hz⟩ := List.mem_flatMap.mp z
    refine .inr ⟨p, hp, ?_⟩
    unfold amissP at hz
    cases e : liesM rs f p.1 p.2 with
    | nil =>
      rw [e] at hz
      rw [List.mem_singleton.mp hz]
      exact ⟨rfl, .inl ⟨rfl, rfl⟩⟩
    | cons h l =>
      rw [e] at hz
      rcases List.mem_append.mp hz with y | y
      · obtain ⟨x, _, ex⟩ := List.mem_map.mp y
        rw [← ex]
        exact ⟨rfl, .inr (.inr rfl)⟩
      · split at y
        · cases y
        · rw [List.mem_singleton.mp y]
          exact ⟨rfl, .inr (.inl rfl)⟩
/-! ### the cabinet behind deeds -/
def takeOut (g : Str → List Str) (n b : Str) : Str → List Str := if b = "" then g else fun h => if h = b then (g b).filter (fun x => !decide (x = n)) else g h
def putIn (g : Str → List Str) (n e : Str) : Str → List Str := if e = "" then g else fun h => if h = e then riseS (g e ++ [n]) else g h
def stepD (g : Str → List Str) (d : Row) : Str → List Str := if d.2.1 = "" ∨ d.1 ∈ g d.2.1 then putIn (takeOut g d.1 d.2.1) d.1 d.2.2 else g
def doneF (f : Str → List Str) (ds : List Row) : Str → List Str := ds.foldl stepD f
/-- deeds from and to heads, or nowhere -/
def DeedsOk (hs : List Str) (ds : List Row) : Prop := ∀ d ∈ ds, (d.2.1 = "" ∨ d.2.1 ∈ hs) ∧ (d.2.2 = "" ∨ d.2.2 ∈ hs)
/-- the same names, each once, in whatever order -/
def SameN (hs : List Str) (g gl : Str → List Str) : Prop := ∀ h ∈ hs, (g h).Nodup ∧ ∀ x, x ∈ g h ↔ x ∈ gl h
theorem done_rs {hs : List Str} : ∀ (ds : List Row) {f : Str → List Str}, (∀ h ∈ hs, Rs (f h)) → ∀ h ∈ hs, Rs (doneF f ds h)
  | [], _, k => k
  | d :: ds, f, k => by
    refine done_rs ds fun h hh => ?_
    unfold stepD
    split
    · have k1 : ∀ h ∈ hs, Rs (takeOut f d.1 d.2.1 h) := fun h hh => by
        unfold takeOut
        split
        · exact k h hh
        · show Rs (if h = d.2.1 then _ else _)
          split
          · rename_i e
            exact List.Pairwise.filter _ (by rw [← e]; exact k h hh)
          · exact k h hh
      unfold putIn
      split
      · exact k1 h hh
      · show Rs (if h = d.2.2 then _ else _)
        split
        · exact riseS_rs _
        · exact k1 h hh
    · exact k h hh
theorem done_len {hs : List Str} : ∀ (ds : List Row) {f : Str → List Str} {N : Nat}, (∀ h ∈ hs, (f h).length ≤ N) → DeedsOk hs ds → ∀ h ∈ hs, (doneF f ds h).length ≤ N + ds.length
  | [], _, _, k, _ => k
  | d :: ds, f, N, k, ok => by
    intro h hh
    have z := done_len (hs := hs) ds (f := stepD f d) (N := N + 1) (fun h hh => ?_) (fun q hq => ok q (List.mem_cons_of_mem _ hq)) h hh
    · rw [List.length_cons]
      show (doneF (stepD f d) ds h).length ≤ _
      omega
    · have kh := k h hh
      obtain ⟨o1, o2⟩ := ok d List.mem_cons_self
      unfold stepD
      split
      · have k1 : ∀ x ∈ hs, (takeOut f d.1 d.2.1 x).length ≤ N := fun x hx => by
          unfold takeOut
          split
          · exact k x hx
          · show (if x = d.2.1 then _ else _ : List Str).length ≤ N
            split
            · rename_i e
              have y := List.length_filter_le (fun x => !decide (x = d.1)) (f d.2.1)
              have k0 := k x hx
              rw [e] at k0
              exact Nat.le_trans y k0
            · exact k x hx
        unfold putIn
        split
        · exact Nat.le_succ_of_le (k1 h hh)
        · show (if h = d.2.2 then _ else _ : List Str).length ≤ N + 1
          split
          · rename_i e
            have y := riseS_len (takeOut f d.1 d.2.1 d.2.2 ++ [d.1])
            rw [List.length_append] at y
            have k0 := k1 h hh
            rw [e] at k0
            have : ([d.1] : List Str).length = 1 := rfl
            omega
          · exact Nat.le_succ_of_le (k1 h hh)
      · omega
theorem same_out {hs : List Str} {g gl : Str → List Str} (sn : SameN hs g gl) {b n : Str} {j : Nat} (hb : b ∈ hs) (nb : b ≠ "") (hj : (g b)[j]? = some n) : SameN hs (fun h => if h = b then (g b).eraseIdx j else g h) (takeOut gl n b) := fun h hh => by
  unfold takeOut
  rw [if_neg nb]
  show (if h = b then _ else _ : List Str).Nodup ∧ ∀ x, x ∈ (if h = b then _ else _ : List Str) ↔ x ∈ (if h = b then _ else _ : List Str)
  by_cases c : h = b
  · rw [if_pos c, if_pos c]
    obtain ⟨nd, mem⟩ := sn b hb
    have pl := perm_less hj
    have nd2 := pl.nodup_iff.mpr nd
    obtain ⟨n1, n2⟩ := List.nodup_cons.mp nd2
    refine ⟨n2, fun x => ?_⟩
    rw [List.mem_filter, ← mem x, ← pl.mem_iff, List.mem_cons]
    constructor
    · intro z
      have ne : x ≠ n := fun e => n1 (by rw [← e]; exact z)
      exact ⟨.inr z, by simpa using ne⟩
    · rintro ⟨z, y⟩
      have ne : x ≠ n := by simpa using y
      exact z.resolve_left ne
  · rw [if_neg c, if_neg c]
    exact sn h hh
theorem same_in {hs : List Str} {g gl : Str → List Str} (sn : SameN hs g gl) {e n : Str} (he : e ∈ hs) (ne : e ≠ "") (hn : n ∈ g e) : SameN hs g (putIn gl n e) := fun h hh => by
  unfold putIn
  rw [if_neg ne]
  show _ ∧ ∀ x, _ ↔ x ∈ (if h = e then _ else _ : List Str)
  obtain ⟨nd, mem⟩ := sn h hh
  refine ⟨nd, fun x => ?_⟩
  by_cases c : h = e
  · rw [if_pos c, riseS_mem, List.mem_append, List.mem_singleton, mem x, c]
    refine ⟨.inl, fun z => z.elim id fun y => ?_⟩
    rw [y]
    exact ((sn e he).2 n).mp hn
  · rw [if_neg c]
    exact mem x
theorem same_add {hs : List Str} {g gl : Str → List Str} (sn : SameN hs g gl) {e n : Str} (he : e ∈ hs) (ne : e ≠ "") (hn : n ∉ g e) : SameN hs (fun h => if h = e then g e ++ [n] else g h) (putIn gl n e) := fun h hh => by
  unfold putIn
  rw [if_neg ne]
  show (if h = e then _ else _ : List Str).Nodup ∧ ∀ x, x ∈ (if h = e then _ else _ : List Str) ↔ x ∈ (if h = e then _ else _ : List Str)
  by_cases c : h = e
  · rw [if_pos c, if_pos c]
    obtain ⟨nd, mem⟩ := sn e he
    refine ⟨List.nodup_append.mpr ⟨nd, List.pairwise_singleton _ _, fun x hx y hy z => ?_⟩, fun x => ?_⟩
    · rw [List.mem_singleton.mp hy] at z
      exact hn (by rw [← z]; exact hx)
    · rw [riseS_mem, List.mem_append, List.mem_append, mem x]
  · rw [if_neg c, if_neg c]
    exact sn h hh
/-! ### what is promised -/
def spStrange : Sp := fun vs H Q _ => ∃ (v u : V) (ps : List P2) (hs : List Str) (f : Str → List Str), vs = [v, u] ∧ Dn N0 H v (papersD ps) ∧ GoodP ps ∧ Dn N0 H u (drawD hs f) ∧ hs.length ≤ 7 ∧ (∀ h ∈ hs, (f h).length ≤ 100) ∧
  ∀ p zs H', H p = none → Kp N0 H H' → H' p = some (.lst zs) → DnA (fun a => a = p) H' zs ((strangeM hs ps f).map rowD) → Q (.ref p) H'
def spAmissP (T : List Addr) : Sp := fun vs H Q _ => ∃ (v u : V) (rs : List Row) (f : Str → List Str) (n m : Str), vs = [v, u, .str n, .str m] ∧ Dn N0 H v (ruleD rs) ∧ Dn N0 H u (drawD (ruleHeadsM rs) f) ∧ GoodR rs ∧ Tbs T H ∧
  ∀ p zs H', H p = none → Kp N0 H H' → orderM rs m (orderF rs m) → H' p = some (.lst zs) → DnA (fun a => H a ≠ none) H' zs ((amissP rs f (n, m)).map rowD) → Q (.ref p) H'
def spAmiss (T : List Addr) : Sp := fun vs H Q _ => ∃ (v u c : V) (rs : List Row) (ps : List P2) (f : Str → List Str), vs = [v, u, c] ∧ Dn N0 H v (ruleD rs) ∧ Dn N0 H u (papersD ps) ∧ Dn N0 H c (drawD (ruleHeadsM rs) f) ∧ GoodR rs ∧ GoodP ps ∧ GoodC rs f ∧ Tbs T H ∧
  ∀ p ys H', H p = none → Kp N0 H H' → (amissF rs ps f).length ≤ 1000 → H' p = some (.lst ys) → DnA N0 H' ys ((amissF rs ps f).map rowD) → Q (.ref p) H'
def spMended (T : List Addr) : Sp := fun vs H Q _ => ∃ (v u c : V) (rs : List Row) (ps : List P2) (f : Str → List Str), vs = [v, u, c] ∧ Dn N0 H v (ruleD rs) ∧ Dn N0 H u (papersD ps) ∧ Dn N0 H c (drawD (ruleHeadsM rs) f) ∧ GoodR rs ∧ GoodP ps ∧ GoodC rs f ∧ Tbs T H ∧
  ∀ p ys H', H p = none → Kp N0 H H' → (mendedF rs ps f).length ≤ 1000 → H' p = some (.lst ys) → DnA N0 H' ys ((mendedF rs ps f).map rowD) → Q (.ref p) H'
def spDeed : Sp := fun vs H Q _ => ∃ (t d : Addr) (x : Row) (kvs : List (Key × V)) (mains : Str → Str), vs = [.ref t, .ref d] ∧ H t = some (.tup [.str x.1, .str x.2.1, .str x.2.2]) ∧ H d = some (.dK kvs) ∧ (x.2.1 = "astray" → valV kvs (.inr x.1) = some (.str (mains x.1))) ∧
  ∀ p H', H p = none → Kp N0 H H' → H' p = some (.tup [.str (deedM mains x).1, .str (deedM mains x).2.1, .str (deedM mains x).2.2]) → Q (.ref p) H'
def spCheckDeeds : Sp := fun vs H Q _ => ∃ (v u : V) (rs ds : List Row), vs = [v, u] ∧ Dn N0 H v (ruleD rs) ∧ rs.length ≤ 50 ∧ Dn N0 H u (.list (ds.map rowD)) ∧ DeedsOk (ruleHeadsM rs) ds ∧ ∀ H', Kp N0 H H' → Q .non H'
def spDoDeed : Sp := fun vs H Q _ => ∃ (H0 : Hp) (d t : Addr) (hs : List Str) (g gl : Str → List Str) (as : List Addr) (x : Row), vs = [.ref d, .ref t] ∧ Lies H0 H d hs g as ∧ hs.Nodup ∧ SameN hs g gl ∧ (∀ h ∈ hs, (g h).length ≤ 10000) ∧ H t = some (.tup [.str x.1, .str x.2.1, .str x.2.2]) ∧ (x.2.1 = "" ∨ x.2.1 ∈ hs) ∧ (x.2.2 = "" ∨ x.2.2 ∈ hs) ∧
  ∀ g' H', Lies H0 H' d hs g' as → SameN hs g' (stepD gl x) → (∀ h ∈ hs, (g' h).length ≤ (g h).length + 1) → Kp (fun a => a ∈ as) H H' → Q .non H'
def spDone (T : List Addr) : Sp := fun vs H Q _ => ∃ (v c u : V) (rs ds : List Row) (f : Str → List Str), vs = [v, c, u] ∧ Dn N0 H v (ruleD rs) ∧ Dn N0 H c (drawD (ruleHeadsM rs) f) ∧ Dn N0 H u (.list (ds.map rowD)) ∧ GoodR rs ∧ GoodC rs f ∧ DeedsOk (ruleHeadsM rs) ds ∧ ds.length ≤ 1000 ∧ Tbs T H ∧
  ∀ p xs H', H p = none → Kp N0 H H' → H' p = some (.lst xs) → xs.length = (ruleHeadsM rs).length → Dn N0 H' (.ref p) (drawD (ruleHeadsM rs) (doneF f ds)) → Q (.ref p) H'
end Fc
set_option maxHeartbeats 4000000
/-! sorted(a dict of texts): its keys. -/
namespace Fc
open PySem PySem.Spec PyProof.Rows L2
section
variable {X : Cx}
def rSortDK : List V → Hp → VK → Prop := fun vs H Q => ∃ (a : Addr) (kvs : List (Key × V)) (hs : List Str), vs = [.ref a] ∧ H a = some (.dK kvs) ∧ kvs.map (·.1) = hs.map (fun h => (.inr h : Key)) ∧ hs.Nodup ∧ hs.length ≤ 1000 ∧ ∀ p, H p = none → Q (.ref p) (upd H p (.lst ((riseS hs).map V.str)))
theorem cr_sortDK (hc : X.calm = true) : CallR X (.builtin "sorted") rSortDK := by
  intro pins s σ H vs us Q I r h
  obtain ⟨a, kvs, hs, rfl, ha, ek, nd, h1000, q⟩ := h
  obtain ⟨z, lo, xs, rk, hd⟩ := (show ObjOk X.prog X.w H s.heap a (.dK kvs) from I.hok a _ ha)
  obtain ⟨ep, hat⟩ := hd.dictAt
  have hl : kvs.length = xs.length := Paired.length rk
  have hkl : kvs.length = hs.length := by
    have e := congrArg List.length ek
    rw [List.length_map, List.length_map] at e
    exact e
  rw [Vals.ref1 r]
  refine Calls.call_function_entry kind_sorted plain_sorted entry_sorted (args_sorted1 _) ?_
  unfold Builtin.«sorted»
  refine wpAny_bind (m := checkCount "sorted" 1 1 _) (wpAny_pure (wpAny_bind (PySem.W.kdu_collect (A := X.A.in1) (PySem.W.kdl_dict (knd := mixKind X.prog X.w) (kvs := xs) (ep := ep) lo) (I.ok.hd hc) hat (by rw [← hl]; exact z) fun h' tk acc hk hacc => ?_)))
  have I1 : Inv X pins σ H { s with heap := h', toks := tk } := I.kept hk
  have hlen : acc.toList.length = hs.length := by rw [Array.length_toList, hacc.1, ← hl, hkl]
  have rv : Vals (hs.map V.str) acc.toList := by
    refine vals_of_at (by rw [List.length_map, hlen]) fun j x v h1 h2 => ?_
    obtain ⟨k, y, hky, hi⟩ := hacc.2 j v (by rw [← Array.getElem?_toList]; exact h2)
    have e1 : (kvs.map (·.1))[j]? = some k := by
      rw [KV.keys rk, List.getElem?_map, hky] <;> rfl
    rw [ek, List.getElem?_map] at e1
    rw [List.getElem?_map] at h1
    cases e : hs[j]? with
    | none =>
      rw [e] at h1
      cases h1
    | some g =>
      rw [e] at h1 e1
      have e2 := Option.some.inj e1
      have e3 := Option.some.inj h1
      subst e2 e3
      exact keyIs_rel (k := .inr g) hi
  generalize acc.toList = vs at hlen rv
  obtain ⟨e1, isS⟩ := vals_str rv
  have vz : vs.length ≤ sizeLine := by rw [hlen, sizeLine_eq]; omega
  refine wpAny_bind (wpAny_newList ?_ vz)
  have atL : (h'.push (seqObj "list" vs.toArray 0)).get? h'.objs.size = some (seqObj "list" vs.toArray 0) := Heap.get?_push_size _ rfl
  refine wpAny_bind (wpAny_holding (wpAny_call_entry slot_list_sort ⟨_, atL, rfl⟩ entry_list_sort (SrtO.list_sort_ord (swo_txt strOf) atL vz (fun h2 => txt_sortable h2 isS) fun out hs' hb => ⟨_, rfl, ?_⟩) (args_list_sort _)))
  obtain ⟨c, hcap⟩ := sortedHeap_at (vs := vs) (out := out.toArray) atL
  have ps : (out.map strOf).Perm hs := by
    rw [← e1]
    exact hb.perm.map strOf
  have rs : Rs (out.map strOf) := rs_of_srt (vs := vs) hs' (ps.nodup_iff.mpr nd)
  have er : out.map strOf = riseS hs := riseS_of rs fun x => ps.mem_iff
  have ol : out.length = hs.length := by rw [← hlen]; exact hb.perm.length_eq
  have hn : H h'.objs.size = none := I1.hok.fresh (Nat.le_refl _)
  have hlen2 : ((riseS hs).map V.str).length ≤ sizeLine := by rw [List.length_map, ← er, List.length_map, ol, sizeLine_eq]; omega
  have vals := vals_of_str (us := out) fun u hu => isS u (hb.perm.mem_iff.mp hu)
  rw [er] at vals
  have keep : ∀ b u, h'.get? b = some u → (sortedHeap (h'.push (seqObj "list" vs.toArray 0)) h'.objs.size vs out.toArray).get? b = some u := fun b u e => by
    have lt := Heap.lt_size e
    rw [sortedHeap_old (Nat.ne_of_lt lt) (by rw [size_push']; exact Nat.lt_succ_of_lt lt)]
    exact Heap.get?_push_of_some _ e
  refine wpAny_pure ⟨_, rfl, ?_⟩
  exact ⟨.ref h'.objs.size, _, I1.laid (t' := tk) keep (Nat.le_refl _) (show ObjOk X.prog X.w _ _ _ (.lst ((riseS hs).map V.str)) from ⟨hlen2, out, c, vals, hcap⟩), rfl, q _ hn⟩
end
end Fc
set_option maxHeartbeats 4000000
/-! What the law tells of what is amiss. -/
namespace Fc
open PySem PySem.Spec PyProof.Rows L2
section
variable {X : Cx} {K : PySem.W.Frag}
theorem cr_sortRDK (h : X.K = K := by rfl) : CallR X (.builtin "sorted") (rSortRD K) := by
  subst h
  exact cr_sortRD
end
noncomputable def amissPL (rs : List Row) (f : Str → List Str) (p : P2) : List Row := amissL p.1 (mainM rs p.2) (liesM rs f p.1 p.2)
noncomputable def amissB (rs : List Row) (ps : List P2) (f : Str → List Str) : List Row := ps.flatMap (amissPL rs f) ++ strangeM (ruleHeadsM rs) ps f
theorem perm_fm {α β : Type} {g g' : α → List β} : ∀ (l : List α), (∀ x ∈ l, (g x).Perm (g' x)) → (l.flatMap g).Perm (l.flatMap g')
  | [], _ => List.Perm.refl _
  | x :: l, h => by
    rw [List.flatMap_cons, List.flatMap_cons]
    exact (h x List.mem_cons_self).append (perm_fm l fun y hy => h y (List.mem_cons_of_mem _ hy))
theorem amissB_perm (rs : List Row) (ps : List P2) (f : Str → List Str) : (amissB rs ps f).Perm (amissA rs ps f) :=
  List.perm_append_comm.trans ((List.Perm.refl _).append (perm_fm ps fun p _ => amissL_perm _ _ _))
/-- the first i of them -/
def amissI (n main h : Str) (t : List Str) : Nat → List Row
  | 0 => []
  | i + 1 => (if h = main then [] else [(n, ("astray" : Str), h)]) ++ (t.take i).map (fun x => (n, ("twice" : Str), x))
theorem amissI_len (n main h : Str) (t : List Str) (i : Nat) : (amissI n main h t i).length ≤ i := by
  cases i with
  | zero => exact Nat.le_refl _
  | succ i =>
    unfold amissI
    rw [List.length_append, List.length_map, List.length_take]
    split
    · show 0 + _ ≤ _
      omega
    · show 1 + _ ≤ _
      omega
theorem amissI_all (n main h : Str) (t : List Str) : amissI n main h t (h :: t).length = amissL n main (h :: t) := by
  unfold amissL
  show (_ ++ (t.take t.length).map _) = _
  rw [List.take_length]
def spAmissL : Sp := fun vs H Q _ => ∃ (v u c : V) (rs : List Row) (ps : List P2) (f : Str → List Str), vs = [v, u, c] ∧ Dn N0 H v (ruleD rs) ∧ Dn N0 H u (papersD ps) ∧ Dn N0 H c (drawD (ruleHeadsM rs) f) ∧ GoodR rs ∧ GoodP ps ∧ (∀ h ∈ ruleHeadsM rs, (f h).length ≤ 100) ∧
  ∀ p ys H', H p = none → Kp N0 H H' → ys.length ≤ 1000 → H' p = some (.lst ys) → DnA N0 H' ys ((amissF rs ps f).map rowD) → Q (.ref p) H'
def spDoneL : Sp := fun vs H Q _ => ∃ (c u : V) (hs : List Str) (f : Str → List Str) (ds : List Row), vs = [c, u] ∧ Dn N0 H c (drawD hs f) ∧ Dn N0 H u (.list (ds.map rowD)) ∧ Rs hs ∧ hs.length ≤ 7 ∧ DeedsOk hs ds ∧ ds.length ≤ 100 ∧ (∀ h ∈ hs, (f h).length ≤ 100) ∧
  ∀ p H', H p = none → Kp N0 H H' → Dn N0 H' (.ref p) (drawD hs (doneF f ds)) → Q (.ref p) H'
theorem dkv_keys : ∀ {hs : List Str} {as : List Addr}, as.length = hs.length → (dkv hs as).map (·.1) = hs.map (fun h => (.inr h : Key))
  | [], [], _ => rfl
  | [], _ :: _, h => by cases h
  | _ :: _, [], h => by cases h
  | h :: hs, a :: as, l => by
    have ih := dkv_keys (hs := hs) (as := as) (Nat.succ.inj l)
    show (.inr h : Key) :: (dkv hs as).map (·.1) = (.inr h : Key) :: hs.map _
    rw [ih]
theorem doneF_snoc (f : Str → List Str) (ds : List Row) (d : Row) : doneF f (ds ++ [d]) = stepD (doneF f ds) d := by
  unfold doneF
  rw [List.foldl_append]
  rfl
theorem Lies.newQ {H0 H : Hp} {D q : Addr} {hs : List Str} {g : Str → List Str} {as : List Addr} (z : Lies H0 H D hs g as) (h : H q = none) : q ∉ as := fun m => by
  obtain ⟨j', hj', e'⟩ := List.getElem_of_mem m
  have y := z.lst j' q (hs[j']'(by have := z.len; omega)) (by rw [List.getElem?_eq_getElem hj', e']) (List.getElem?_eq_getElem _)
  rw [y] at h
  cases h
end Fc
set_option maxHeartbeats 4000000
/-! How large what is told can be. -/
namespace Fc
open PySem PySem.Spec PyProof.Rows L2
def leI (a b : I2) : Bool := !lexI b a
theorem leI_trans (a b c : I2) (h1 : leI a b = true) (h2 : leI b c = true) : leI a c = true := by
  unfold leI at h1 h2 ⊢
  rw [Bool.not_eq_true'] at h1 h2 ⊢
  cases z : lexI c a with
  | false => rfl
  | true =>
    rcases lexI_tri a b with q | q | q
    · rw [lexI_trans z q] at h2
      cases h2
    · rw [q] at z
      rw [z] at h2
      cases h2
    · rw [q] at h1
      cases h1
theorem leI_total (a b : I2) : (leI a b || leI b a) = true := by
  unfold leI
  cases z : lexI b a with
  | false => rfl
  | true => rw [lexI_asym z]; rfl
theorem order_ex {rs : List Row} (g : GoodR rs) (m : Str) : orderM rs m (orderF rs m) := by
  have so : SrtO.Srtd (fun v u => lexI v u) (((ruleHeadsM rs).map fun h => (((nOf rs m h : Nat) : Int), h)).mergeSort leI) := by
    have z := List.pairwise_mergeSort (le := leI) leI_trans leI_total ((ruleHeadsM rs).map fun h => (((nOf rs m h : Nat) : Int), h))
    exact z.imp fun {a b} h => by
      have y : (!lexI b a) = true := h
      simpa using y
  have o := order_of99 g (m := m) so (List.mergeSort_perm _ leI)
  rw [← orderF_eq o]
  exact o
def sz8 (z : Str) : Prop := z.cps.size ≤ 8
def Sm3 (t : Row) : Prop := sz8 t.1 ∧ sz8 t.2.1 ∧ sz8 t.2.2
theorem heads_sz {rs : List Row} (g : GoodR rs) : ∀ h ∈ ruleHeadsM rs, sz8 h := fun h hh => by
  have e : ∀ z : Str, z.length = z.cps.size := fun _ => rfl
  rcases List.mem_append.mp ((riseS_mem _ _).mp hh) with z | z
  · obtain ⟨r, hr, q⟩ := List.mem_map.mp z
    obtain ⟨l1, _, _⟩ := isRowM_len (g.row r hr)
    rw [e] at l1
    rw [← q]
    unfold sz8
    omega
  · rw [List.mem_singleton.mp z]
    unfold sz8
    decide +kernel
theorem word_sz {z : Str} (h : isWordM z = true) : sz8 z := by
  have e : z.length = z.cps.size := rfl
  have l := isWordM_len h
  unfold sz8
  omega
theorem lits_sz : sz8 "" ∧ sz8 "gone" ∧ sz8 "astray" ∧ sz8 "twice" ∧ sz8 "strange" := by
  unfold sz8
  decide +kernel
theorem amiss_sz {rs : List Row} {ps : List P2} {f : Str → List Str} (g : GoodR rs) (q : GoodP ps) (c : GoodC rs f) : ∀ t ∈ amissA rs ps f, Sm3 t := fun t ht => by
  obtain ⟨e0, e1, e2, e3, e4⟩ := lits_sz
  rcases List.mem_append.mp ht with z | z
  · obtain ⟨h, hh, hz⟩ := List.mem_flatMap.mp z
    obtain ⟨n, hn, e⟩ := List.mem_map.mp hz
    subst e
    exact ⟨word_sz (c.ok h hh n (List.mem_filter.mp hn).1), e4, heads_sz g h hh⟩
  · obtain ⟨p, hp, hz⟩ := List.mem_flatMap.mp z
    have w := word_sz (q.ok p hp).1
    have lm : ∀ x ∈ liesM rs f p.1 p.2, sz8 x := fun x hx => heads_sz g x ((orderM_mem (order_ex g p.2) x).mp (List.mem_filter.mp hx).1)
    unfold amissP at hz
    cases e : liesM rs f p.1 p.2 with
    | nil =>
      rw [e] at hz
      rw [List.mem_singleton.mp hz]
      exact ⟨w, e1, heads_sz g _ (main_in rs p.2)⟩
    | cons h l =>
      rw [e] at hz lm
      rcases List.mem_append.mp hz with y | y
      · obtain ⟨x, hx, ex⟩ := List.mem_map.mp y
        rw [← ex]
        exact ⟨w, e3, lm x (List.mem_cons_of_mem _ hx)⟩
      · split at y
        · cases y
        · rw [List.mem_singleton.mp y]
          exact ⟨w, e2, lm h List.mem_cons_self⟩
theorem mains_sz {rs : List Row} (g : GoodR rs) (ps : List P2) (n : Str) : sz8 (mainsF rs ps n) := by
  unfold mainsF
  cases e : ps.find? fun p => decide (p.1 = n) with
  | none => exact lits_sz.1
  | some p => exact heads_sz g _ (main_in rs p.2)
theorem deed_sz {mains : Str → Str} (k : ∀ n, sz8 (mains n)) {t : Row} (h : Sm3 t) : Sm3 (deedM mains t) := by
  unfold deedM
  split
  · exact ⟨h.1, lits_sz.1, h.2.2⟩
  · split
    · exact ⟨h.1, h.2.2, k _⟩
    · exact ⟨h.1, h.2.2, lits_sz.1⟩
theorem fm_len {α β : Type} {g : α → List β} {N : Nat} : ∀ (l : List α), (∀ x ∈ l, (g x).length ≤ N) → (l.flatMap g).length ≤ N * l.length
  | [], _ => Nat.zero_le _
  | x :: l, k => by
    have ih := fm_len l fun y hy => k y (List.mem_cons_of_mem _ hy)
    have z := k x List.mem_cons_self
    rw [List.flatMap_cons, List.length_append, List.length_cons, Nat.mul_succ]
    omega
theorem amissA_len {rs : List Row} {ps : List P2} {f : Str → List Str} (g : GoodR rs) (q : GoodP ps) (c : GoodC rs f) : (amissA rs ps f).length ≤ 796 := by
  have h7 := heads7 g
  have z1 := strange_len ps c.few
  have z2 := fm_len (g := amissP rs f) (N := 8) ps fun p _ => by
    have z := amissO_len p.1 (mainM rs p.2) (liesM rs f p.1 p.2)
    have y := lies_len (order_ex g p.2) f p.1
    show (amissO p.1 (mainM rs p.2) (liesM rs f p.1 p.2)).length ≤ 8
    omega
  have l12 := q.few
  unfold amissA
  rw [List.length_append]
  omega
theorem rows_wt : ∀ l : List Row, (∀ t ∈ l, Sm3 t) → PyData.depthAll (l.map rowD) ≤ 1 ∧ PyData.weightAll (l.map rowD) ≤ 100 * l.length
  | [], _ => ⟨by simp [PyData.depthAll], by simp [PyData.weightAll]⟩
  | r :: l, h => by
    obtain ⟨i1, i2⟩ := rows_wt l fun x hx => h x (List.mem_cons_of_mem _ hx)
    obtain ⟨l1, l2, l3⟩ := h r List.mem_cons_self
    unfold sz8 at l1 l2 l3
    simp only [List.map_cons, PyData.depthAll, PyData.weightAll, rowD, PyData.depth, PyData.weight, List.length_cons]
    omega
theorem strs_wt : ∀ l : List Str, (∀ z ∈ l, sz8 z) → PyData.weightAll (l.map PyData.str) ≤ 20 * l.length
  | [], _ => by simp [PyData.weightAll]
  | z :: l, h => by
    have ih := strs_wt l fun x hx => h x (List.mem_cons_of_mem _ hx)
    have w := h z List.mem_cons_self
    unfold sz8 at w
    simp only [List.map_cons, PyData.weightAll, PyData.weight, List.length_cons]
    omega
theorem draw_wt {f : Str → List Str} {N : Nat} : ∀ hs : List Str, (∀ h ∈ hs, sz8 h ∧ (f h).length ≤ N ∧ ∀ z ∈ f h, sz8 z) → PyData.weightAll (hs.map fun h => .tuple [.str h, .list ((f h).map PyData.str)]) ≤ (100 + 20 * N) * hs.length
  | [], _ => by simp [PyData.weightAll]
  | h :: hs, k => by
    have ih := draw_wt (f := f) (N := N) hs fun x hx => k x (List.mem_cons_of_mem _ hx)
    obtain ⟨w1, w2, w3⟩ := k h List.mem_cons_self
    have w := strs_wt (f h) w3
    have w4 : 20 * (f h).length ≤ 20 * N := Nat.mul_le_mul_left _ w2
    unfold sz8 at w1
    simp only [List.map_cons, PyData.weightAll, PyData.weight, List.length_cons, Nat.mul_succ]
    omega
theorem step_mem {f : Str → List Str} {d : Row} {x h : Str} (hx : x ∈ stepD f d h) : x ∈ f h ∨ x = d.1 := by
  unfold stepD at hx
  split at hx
  · have tk : ∀ y, x ∈ takeOut f d.1 d.2.1 y → x ∈ f y := fun y hy => by
      unfold takeOut at hy
      split at hy
      · exact hy
      · have hy2 : x ∈ (if y = d.2.1 then (f d.2.1).filter (fun x => !decide (x = d.1)) else f y) := hy
        split at hy2
        · rename_i e
          rw [e]
          exact (List.mem_filter.mp hy2).1
        · exact hy2
    unfold putIn at hx
    split at hx
    · exact .inl (tk h hx)
    · have hx2 : x ∈ (if h = d.2.2 then riseS (takeOut f d.1 d.2.1 d.2.2 ++ [d.1]) else takeOut f d.1 d.2.1 h) := hx
      split at hx2
      · rename_i e
        rcases List.mem_append.mp ((riseS_mem _ _).mp hx2) with z | z
        · rw [e]
          exact .inl (tk _ z)
        · exact .inr (List.mem_singleton.mp z)
      · exact .inl (tk h hx2)
  · exact .inl hx
theorem done_mem {x h : Str} : ∀ (ds : List Row) {f : Str → List Str}, x ∈ doneF f ds h → x ∈ f h ∨ ∃ d ∈ ds, x = d.1
  | [], _, hx => .inl hx
  | d :: ds, f, hx => by
    rcases done_mem ds (f := stepD f d) hx with z | ⟨q, hq, e⟩
    · rcases step_mem z with y | y
      · exact .inl y
      · exact .inr ⟨d, List.mem_cons_self, y⟩
    · exact .inr ⟨q, List.mem_cons_of_mem _ hq, e⟩
noncomputable def found9 (rs : List Row) (ps : List P2) (f : Str → List Str) (ds : List Row) : PyData := .list [.list ((amissF rs ps f).map rowD), .list ((mendedF rs ps f).map rowD), drawD (ruleHeadsM rs) (doneF f ds)]
theorem found9_small {rs : List Row} {ps : List P2} {f : Str → List Str} {ds : List Row} (g : GoodR rs) (q : GoodP ps) (c : GoodC rs f) (ok : DeedsOk (ruleHeadsM rs) ds) (l : ds.length ≤ 100) (hd : ∀ d ∈ ds, sz8 d.1) : PyData.depth (found9 rs ps f ds) < 5 ∧ PyData.weight (found9 rs ps f ds) ≤ 1000000 := by
  have h7 := heads7 g
  have la := amissA_len g q c
  have sa := amiss_sz g q c
  obtain ⟨a1, a2⟩ := rows_wt (amissF rs ps f) fun t ht => sa t ((sort3_mem _ _).mp ht)
  have l1 : (amissF rs ps f).length ≤ 796 := by
    show (sort3 _).length ≤ _
    rw [sort3_len]
    exact la
  obtain ⟨b1, b2⟩ := rows_wt (mendedF rs ps f) fun t ht => by
    obtain ⟨x, hx, e⟩ := List.mem_map.mp ((sort3_mem _ _).mp ht)
    rw [← e]
    exact deed_sz (mains_sz g ps) (sa x ((sort3_mem _ _).mp hx))
  have l2 : (mendedF rs ps f).length ≤ 796 := by
    show (sort3 _).length ≤ _
    rw [sort3_len, List.length_map]
    exact l1
  have dd := depthD (doneF f ds) (ruleHeadsM rs)
  have dw := draw_wt (f := doneF f ds) (N := 200) (ruleHeadsM rs) fun h hh => ⟨heads_sz g h hh, by
    have z := done_len ds c.few ok h hh
    omega, fun z hz => by
    rcases done_mem ds hz with y | ⟨d, hd2, e⟩
    · exact word_sz (c.ok h hh z y)
    · rw [e]
      exact hd d hd2⟩
  unfold found9
  simp only [drawD, PyData.depth, PyData.depthAll, PyData.weight, PyData.weightAll, List.length_cons, List.length_nil, List.length_map]
  generalize (amissF rs ps f).length = n1 at a2 l1 ⊢
  generalize (mendedF rs ps f).length = n2 at b2 l2 ⊢
  generalize (ruleHeadsM rs).length = n3 at dw h7 ⊢
  omega
/-- the deed, as the law tells it -/
theorem deed_law {rs : List Row} {ps : List P2} {f : Str → List Str} (nd : (ps.map (·.1)).Nodup) {t : Row} (ht : t ∈ amissA rs ps f) :
    (t.1, (if t.2.1 = "gone" then ("" : Str) else t.2.2), (if t.2.1 = "gone" ∨ t.2.1 = "astray" then mainsF rs ps t.1 else "")) = deedM (mainsF rs ps) t := by
  unfold deedM
  by_cases c : t.2.1 = "gone"
  · rw [if_pos c, if_pos (.inl c), if_pos c]
    rcases amiss_word ht with ⟨w, _⟩ | ⟨p, hp, e1, e2⟩
    · rw [c] at w
      exact absurd w (by decide)
    · rcases e2 with ⟨_, e3⟩ | e3 | e3
      · rw [e1, mains_at nd hp, e3]
      · rw [c] at e3
        exact absurd e3 (by decide)
      · rw [c] at e3
        exact absurd e3 (by decide)
  · rw [if_neg c, if_neg c]
    by_cases c2 : t.2.1 = "astray"
    · rw [if_pos (.inr c2), if_pos c2]
    · rw [if_neg c2, if_neg (fun z => z.elim c c2)]
theorem mains_has {rs : List Row} {ps : List P2} {f : Str → List Str} (nd : (ps.map (·.1)).Nodup) {t : Row} (ht : t ∈ amissA rs ps f) (c : t.2.1 = "gone" ∨ t.2.1 = "astray") : valV (mkv rs ps) (.inr t.1) = some (.str (mainsF rs ps t.1)) := by
  rcases amiss_word ht with ⟨w, _⟩ | ⟨p, hp, e1, e2⟩
  · rcases c with c | c
    · rw [c] at w
      exact absurd w (by decide)
    · rw [c] at w
      exact absurd w (by decide)
  · rw [e1]
    exact mkv_at nd hp
/-- rows lie in tuples, so not in lists -/
theorem rows_off {S : Addr → Prop} {H : Hp} (hS : ∀ a, S a → ∃ xs, H a = some (.lst xs)) : ∀ {xs : List V} {l : List Row}, DnA N0 H xs (l.map rowD) → DnA S H xs (l.map rowD)
  | _, [], h => by cases h; exact .nil
  | _, r :: l, h => by
    cases h with
    | cons h t =>
      obtain ⟨a, rfl, _, ha⟩ := rowD_ex h
      refine .cons (.tup (fun z => ?_) ha (DnA.strs [r.1, r.2.1, r.2.2])) (rows_off hS t)
      obtain ⟨ys, e⟩ := hS a z
      rw [e] at ha
      cases ha
end Fc
set_option maxHeartbeats 4000000
/-! Cards: what is needed, what one comes to, what is enough. -/
namespace Fc
open PySem PySem.Spec PyProof.Rows L2
section
variable {X : Cx} {K : PySem.W.Frag}
def rNotInSS (w : World) : R2 := fun x y H Q => ∃ (k : Str) (a : Addr) (l : List Str), x = .str k ∧ y = .ref a ∧ H a = some (SetSO w a l) ∧ Q (.bl (!decide (k ∈ l))) H
theorem op_notInSS : OpR X (compareOp .NotIn) (rNotInSS X.w) := by
  intro pins s σ H x y v u Q I rx ry h
  obtain ⟨k, a, l, rfl, rfl, ha, q⟩ := h
  obtain ⟨tk, rfl⟩ := rx
  cases ry
  exact wpAny_notInSet_of (strKind_is X.prog X.w k tk) rfl (setSO_get I ha).setOf ⟨.bl (!decide (k ∈ l)), H, I.tok _, rfl, q⟩
theorem cr_setPPK (h : X.K = K := by rfl) (hc : X.calm = true := by rfl) (hu : X.A.units + 64 < cLine) : CallR X (.type "set") (rSetPP K X.prog X.w) := by
  subst h
  exact cr_setPP hc hu
def tTruth (K : PySem.W.Frag) (ta : TE) : TT := fun σ H Q => ta σ H fun x H' => ∃ k, TruV K x H' k ∧ Q k H'
theorem pt_truthK {a : Expr} {ta : TE} (ha : PE X a ta) (he : ∀ whole, isTrue a X.env whole = (do let v ← whole; standAt a.pos; holding [v] (truthy v))) (h : X.K = K := by rfl) : PT X a (tTruth K ta) := by
  subst h
  exact pt_truth ha he
theorem tTruth_mono {ta : TE} (m : ∀ σ H Q Q', (∀ x H1, Q x H1 → Q' x H1) → ta σ H Q → ta σ H Q') : ∀ σ H Q Q', (∀ b H1, Q b H1 → Q' b H1) → tTruth K ta σ H Q → tTruth K ta σ H Q' :=
  fun σ H Q Q' k h => m σ H _ _ (fun x H1 ⟨b, t, q⟩ => ⟨b, t, k b H1 q⟩) h
theorem tVar_mono {i : Nat} : ∀ σ H Q Q', (∀ x H1, Q x H1 → Q' x H1) → tVar i σ H Q → tVar i σ H Q' := fun σ H Q Q' k ⟨v, e, q⟩ => ⟨v, e, k v H q⟩
theorem while_rel {c : TT} {tb : TS} {D : Ends} {σ : L2.St} {H : Hp} (W : Nat → L2.St → Hp → Prop) (m0 : Nat) (h0 : W m0 σ H)
    (hs : ∀ m σ H, W m σ H → c σ H fun b H1 => if b = true then tb { D with nx := fun σ' H' => ∃ m', m' < m ∧ W m' σ' H', ct := fun σ' H' => ∃ m', m' < m ∧ W m' σ' H', bk := D.nx } σ H1 else D.nx σ H1)
    (mono : ∀ σ H Q Q', (∀ b H1, Q b H1 → Q' b H1) → c σ H Q → c σ H Q') : tWhile c tb D σ H := by
  refine ⟨W, ⟨m0, h0⟩, fun m σ H p => mono σ H _ _ (fun b H1 q => ?_) (hs m σ H p)⟩
  cases b with
  | true => exact ⟨_, fun σ' H' z => z, q⟩
  | false => exact q
end
/-! ### needs -/
/-- (head, main head) of each further head of the marks -/
def needsM (rs : List Row) (m : Str) : List P2 := ((headsM rs m).filter fun h => decide (h ≠ mainM rs m)).map fun h => (h, mainM rs m)
def neededM (rs : List Row) (ps : List P2) : List P2 := riseP (ps.flatMap fun p => needsM rs p.2)
/-! ### where one comes to -/
/-- by cards, one behind another -/
inductive Go (cs : List P2) (h : Str) : Str → Prop
  | here : Go cs h h
  | on {a b : Str} : Go cs h a → (a, b) ∈ cs → Go cs h b
theorem Go.goal {cs : List P2} {h x : Str} (g : Go cs h x) : x ∈ h :: cs.map (·.2) := by
  cases g with
  | here => exact List.mem_cons_self
  | on _ hm => exact List.mem_cons_of_mem _ (List.mem_map.mpr ⟨_, hm, rfl⟩)
noncomputable instance goDec (cs : List P2) (h x : Str) : Decidable (Go cs h x) := Classical.propDecidable _
noncomputable def comeM (cs : List P2) (h : Str) : List Str := riseS ((h :: cs.map (·.2)).filter fun x => decide (Go cs h x))
theorem comeM_mem {cs : List P2} {h x : Str} : x ∈ comeM cs h ↔ Go cs h x := by
  unfold comeM
  rw [riseS_mem, List.mem_filter]
  exact ⟨fun z => of_decide_eq_true z.2, fun z => ⟨z.goal, decide_eq_true z⟩⟩
theorem comeM_rs (cs : List P2) (h : Str) : Rs (comeM cs h) := riseS_rs _
theorem comeM_of {cs : List P2} {h : Str} {l : List Str} (hm : ∀ x, x ∈ l ↔ Go cs h x) : riseS l = comeM cs h := riseS_of' hm
where riseS_of' {cs : List P2} {h : Str} {l : List Str} (hm : ∀ x, x ∈ l ↔ Go cs h x) : riseS l = comeM cs h := Rs.uniq (riseS_rs l) (comeM_rs cs h) fun x => ((riseS_mem x l).trans (hm x)).trans comeM_mem.symm
theorem comeM_len (cs : List P2) (h : Str) : (comeM cs h).length ≤ cs.length + 1 := by
  have z := nodup_le (l := comeM cs h) (m := h :: cs.map (·.2)) ((comeM_rs cs h).imp fun {a b} z e => by rw [e, ltS_irr] at z; cases z) fun x hx => (comeM_mem.mp hx).goal
  rwa [List.length_cons, List.length_map] at z
/-- come_to(cards, head) -/
def spCome : Sp := fun vs H Q _ => ∃ (v : V) (cs : List P2) (h : Str), vs = [v, .str h] ∧ Dn N0 H v (papersD cs) ∧ cs.length ≤ 900 ∧ ∀ p H', H p = none → Kp N0 H H' → H' p = some (.lst ((comeM cs h).map V.str)) → Q (.ref p) H'
def spNeedsOf (T : List Addr) : Sp := fun vs H Q _ => ∃ (v : V) (rs : List Row) (m : Str), vs = [v, .str m] ∧ Dn N0 H v (ruleD rs) ∧ rs.length ≤ 50 ∧ Tbs T H ∧ ∀ p H', H p = none → Kp N0 H H' → Dn N0 H' (.ref p) (papersD (needsM rs m)) → Q (.ref p) H'
/-- a told list of pairs: the list itself is new -/
def TellP (H H' : Hp) (p : Addr) (ps : List P2) : Prop := H p = none ∧ ∃ ys, H' p = some (.lst ys) ∧ DnA (fun x => x = p) H' ys (ps.map paperD)
def spNeeded (T : List Addr) : Sp := fun vs H Q _ => ∃ (v u : V) (rs : List Row) (ps : List P2), vs = [v, u] ∧ Dn N0 H v (ruleD rs) ∧ Dn N0 H u (papersD ps) ∧ GoodR rs ∧ GoodP ps ∧ Tbs T H ∧ ∀ p H', Kp N0 H H' → TellP H H' p (neededM rs ps) → Q (.ref p) H'
noncomputable def enoughM (ns cs : List P2) : Bool := ns.all fun n => decide (n.2 ∈ comeM cs n.1)
def spEnough (T : List Addr) : Sp := fun vs H Q _ => ∃ (v u c : V) (rs : List Row) (ps cs : List P2), vs = [v, u, c] ∧ Dn N0 H v (ruleD rs) ∧ Dn N0 H u (papersD ps) ∧ Dn N0 H c (papersD cs) ∧ GoodR rs ∧ GoodP ps ∧ cs.length ≤ 900 ∧ (∀ c ∈ cs, c.1 ∈ ruleHeadsM rs ∧ c.2 ∈ ruleHeadsM rs) ∧ Tbs T H ∧
  ∀ H', Kp N0 H H' → Q (.bl (enoughM (neededM rs ps) cs)) H'
/-! ### the walk of come_to -/
/-- what holds while one goes: R is reached, W waits, i cards were held against here -/
structure Way (cs : List P2) (h : Str) (R W : List Str) (x : Option (Str × Nat)) : Prop where
  go : ∀ y ∈ R, Go cs h y
  nd : R.Nodup
  fst : h ∈ R
  wait : ∀ y ∈ W, y ∈ R
  done : ∀ y ∈ R, y ∉ W → ∀ j c, cs[j]? = some c → c.1 = y → (match x with | some (k, i) => y = k → j < i | none => True) → c.2 ∈ R
theorem Way.all {cs : List P2} {h : Str} {R : List Str} (z : Way cs h R [] none) (x : Str) : x ∈ R ↔ Go cs h x := by
  refine ⟨z.go x, fun g => ?_⟩
  induction g with
  | here => exact z.fst
  | on g hm ih =>
    obtain ⟨j, hj, e⟩ := List.getElem_of_mem hm
    exact z.done _ ih (fun y => nomatch y) j _ (by rw [List.getElem?_eq_getElem hj, e]) rfl trivial
theorem Way.begin (cs : List P2) (h : Str) : Way cs h [h] [h] none := ⟨fun y hy => by rw [List.mem_singleton.mp hy]; exact .here, List.nodup_cons.mpr ⟨(fun z => nomatch z), List.nodup_nil⟩, List.mem_singleton.mpr rfl, fun y hy => hy, fun y hy ny => (ny hy).elim⟩
theorem Way.take {cs : List P2} {h k : Str} {R W : List Str} (z : Way cs h R (W ++ [k]) none) : Way cs h R W (some (k, 0)) := by
  refine ⟨z.go, z.nd, z.fst, fun y hy => z.wait y (List.mem_append_left _ hy), fun y hy ny j c hc e hx => ?_⟩
  by_cases ek : y = k
  · exact absurd (hx ek) (Nat.not_lt_zero _)
  · refine z.done y hy (fun q => ?_) j c hc e trivial
    rcases List.mem_append.mp q with q | q
    · exact ny q
    · exact ek (List.mem_singleton.mp q)
theorem Way.end_ {cs : List P2} {h k : Str} {R W : List Str} (z : Way cs h R W (some (k, cs.length))) : Way cs h R W none :=
  ⟨z.go, z.nd, z.fst, z.wait, fun y hy ny j c hc e _ => z.done y hy ny j c hc e fun _ => (List.getElem?_eq_some_iff.mp hc).1⟩
theorem Way.skip {cs : List P2} {h k : Str} {R W : List Str} {i : Nat} {c : P2} (z : Way cs h R W (some (k, i))) (hc : cs[i]? = some c) (hn : c.1 = k → c.2 ∈ R) : Way cs h R W (some (k, i + 1)) := by
  refine ⟨z.go, z.nd, z.fst, z.wait, fun y hy ny j d hd e hx => ?_⟩
  by_cases q : y = k ∧ j = i
  · obtain ⟨q1, q2⟩ := q
    subst q2
    rw [hc] at hd
    cases hd
    exact hn (e.trans q1)
  · exact z.done y hy ny j d hd e fun ek => by
      have lt : j < i + 1 := hx ek
      have ne : j ≠ i := fun e => q ⟨ek, e⟩
      omega
theorem Way.add {cs : List P2} {h k : Str} {R W : List Str} {i : Nat} {c : P2} (z : Way cs h R W (some (k, i))) (hk : k ∈ R) (hc : cs[i]? = some c) (e1 : c.1 = k) (hn : c.2 ∉ R) : Way cs h (c.2 :: R) (W ++ [c.2]) (some (k, i + 1)) := by
  refine ⟨fun y hy => ?_, List.nodup_cons.mpr ⟨hn, z.nd⟩, List.mem_cons_of_mem _ z.fst, fun y hy => ?_, fun y hy ny j d hd e hx => ?_⟩
  · rcases List.mem_cons.mp hy with q | q
    · rw [q]
      exact (z.go k hk).on (by rw [← e1]; exact List.mem_of_getElem? hc)
    · exact z.go y q
  · rcases List.mem_append.mp hy with q | q
    · exact List.mem_cons_of_mem _ (z.wait y q)
    · rw [List.mem_singleton.mp q]
      exact List.mem_cons_self
  · have hy2 : y ∈ R := by
      rcases List.mem_cons.mp hy with q | q
      · exact (ny (by rw [q]; exact List.mem_append_right _ (List.mem_singleton.mpr rfl))).elim
      · exact q
    by_cases q : y = k ∧ j = i
    · obtain ⟨q1, q2⟩ := q
      subst q2
      rw [hc] at hd
      cases hd
      exact List.mem_cons_self
    · refine List.mem_cons_of_mem _ (z.done y hy2 (fun w => ny (List.mem_append_left _ w)) j d hd e fun ek => ?_)
      have lt : j < i + 1 := hx ek
      have ne : j ≠ i := fun e => q ⟨ek, e⟩
      omega
theorem Way.len {cs : List P2} {h : Str} {R W : List Str} {x : Option (Str × Nat)} (z : Way cs h R W x) : R.length ≤ cs.length + 1 := by
  have y := nodup_le (l := R) (m := h :: cs.map (·.2)) z.nd fun x hx => (z.go x hx).goal
  rwa [List.length_cons, List.length_map] at y
end Fc
set_option maxHeartbeats 4000000
namespace Fc
open PySem PySem.Spec PyProof.Rows L2
section
variable {S S' : Addr → Prop} {H : Hp}
mutual
theorem Dn.offs (hp : ∀ a, S' a → H a = none) : ∀ {v : V} {d : PyData}, Dn S H v d → Dn S' H v d
  | _, _, .non => .non
  | _, _, .bl b => .bl b
  | _, _, .int i => .int i
  | _, _, .str x => .str x
  | _, _, .lst _ e h => .lst (fun z => by rw [hp _ z] at e; cases e) e (DnA.offs hp h)
  | _, _, .tup _ e h => .tup (fun z => by rw [hp _ z] at e; cases e) e (DnA.offs hp h)
theorem DnA.offs (hp : ∀ a, S' a → H a = none) : ∀ {v : List V} {d : List PyData}, DnA S H v d → DnA S' H v d
  | _, _, .nil => .nil
  | _, _, .cons h t => .cons (Dn.offs hp h) (DnA.offs hp t)
end
end
theorem pair_off {S : Addr → Prop} {H : Hp} {v : V} {p : P2} (hS : ∀ a, S a → ∃ xs, H a = some (.lst xs)) (h : Dn N0 H v (paperD p)) : Dn S H v (paperD p) := by
  obtain ⟨t, rfl, _, e⟩ := paperD_ex h
  exact .tup (fun z => by
    obtain ⟨xs, q⟩ := hS _ z
    rw [q] at e
    cases e) e (DnA.strs [p.1, p.2])
theorem pairs_off {S : Addr → Prop} {H : Hp} (hS : ∀ a, S a → ∃ xs, H a = some (.lst xs)) : ∀ {xs : List V} {l : List P2}, DnA N0 H xs (l.map paperD) → DnA S H xs (l.map paperD)
  | _, [], h => by
    cases h
    exact .nil
  | _, _ :: _, h => by
    cases h with
    | cons h t => exact .cons (pair_off hS h) (pairs_off hS t)
theorem held_in {rs : List Row} {m h : Str} (hh : h ∈ heldM rs m) : ∃ r ∈ rs, r.1 = h := by
  obtain ⟨r, hr, e⟩ := List.mem_map.mp hh
  exact ⟨r, (List.mem_filter.mp hr).1, e⟩
theorem needs_from {rs : List Row} {m : Str} {p : P2} (hp : p ∈ needsM rs m) : p.1 ∈ headsM rs m ∧ p.1 ≠ mainM rs m ∧ p.2 = mainM rs m ∧ (∃ r ∈ rs, r.1 = p.1) ∧ ∃ r ∈ rs, r.1 = p.2 := by
  obtain ⟨h, hh, e⟩ := List.mem_map.mp hp
  obtain ⟨h1, h2⟩ := List.mem_filter.mp hh
  have h2 := of_decide_eq_true h2
  subst e
  have t1 := (riseS_mem h _).mp h1
  have t2 := mainM_mem rs m
  refine ⟨h1, h2, rfl, ?_, ?_⟩
  · unfold turnM at t1 t2
    split at t1
    · rename_i c
      rw [if_pos c] at t2
      exact (h2 ((List.mem_singleton.mp t1).trans (List.mem_singleton.mp t2).symm)).elim
    · exact held_in t1
  · unfold turnM at t1 t2
    split at t1
    · rename_i c
      rw [if_pos c] at t2
      exact (h2 ((List.mem_singleton.mp t1).trans (List.mem_singleton.mp t2).symm)).elim
    · rename_i c
      rw [if_neg c] at t2
      exact held_in t2
/-- all pairs of heads of a rule that can be -/
theorem pairs_few {rs : List Row} (hg : GoodR rs) : ∃ D : List P2, D.length < 64 ∧ ∀ p : P2, (∃ r ∈ rs, r.1 = p.1) → (∃ r ∈ rs, r.1 = p.2) → p ∈ D := by
  obtain ⟨hs, h6, hm⟩ := hg.heads
  refine ⟨hs.flatMap fun a => hs.map fun b => (a, b), ?_, fun p ⟨r, hr, e⟩ ⟨r', hr', e'⟩ => ?_⟩
  · have l : ∀ l : List Str, (l.flatMap fun a => hs.map fun b => (a, b)).length = l.length * hs.length := fun l => by
      induction l with
      | nil => simp
      | cons a l ih => rw [List.flatMap_cons, List.length_append, ih, List.length_map, List.length_cons, Nat.succ_mul, Nat.add_comm]
    rw [l]
    have z := Nat.mul_le_mul h6 h6
    omega
  · refine List.mem_flatMap.mpr ⟨p.1, by rw [← e]; exact hm r hr, List.mem_map.mpr ⟨p.2, by rw [← e']; exact hm r' hr', rfl⟩⟩
theorem needs_len (rs : List Row) (m : Str) : (needsM rs m).length ≤ rs.length + 1 := by
  unfold needsM
  rw [List.length_map]
  exact Nat.le_trans (List.length_filter_le _ _) (Nat.le_trans (riseS_len _) (turnM_len rs m))
theorem needed_from {rs : List Row} {ps : List P2} {p : P2} (hp : p ∈ neededM rs ps) : p.1 ≠ p.2 ∧ (∃ r ∈ rs, r.1 = p.1) ∧ ∃ r ∈ rs, r.1 = p.2 := by
  obtain ⟨q, _, hq⟩ := List.mem_flatMap.mp ((riseP_mem p _).mp hp)
  obtain ⟨_, h2, h3, h4, h5⟩ := needs_from hq
  exact ⟨by rw [h3]; exact h2, h4, h5⟩
theorem needed_len {rs : List Row} (hg : GoodR rs) (ps : List P2) : (neededM rs ps).length < 64 := by
  obtain ⟨D, d1, d2⟩ := pairs_few hg
  exact Nat.lt_of_le_of_lt (nodup_le (riseP_rs _).nodup fun p hp => d2 p (needed_from hp).2.1 (needed_from hp).2.2) d1
theorem rule_head_in {rs : List Row} {h : Str} (z : ∃ r ∈ rs, r.1 = h) : h ∈ ruleHeadsM rs := by
  obtain ⟨r, hr, e⟩ := z
  exact (riseS_mem _ _).mpr (List.mem_append_left _ (List.mem_map.mpr ⟨r, hr, e⟩))
end Fc
set_option maxHeartbeats 4000000
/-! What the laws of the cards tell themselves. -/
namespace Fc
open PySem PySem.Spec PyProof.Rows L2
/-- _law_needs(rule, papers) -/
def spNeedsL : Sp := fun vs H Q _ => ∃ (v u : V) (rs : List Row) (ps : List P2), vs = [v, u] ∧ Dn N0 H v (ruleD rs) ∧ Dn N0 H u (papersD ps) ∧ GoodR rs ∧ GoodP ps ∧ ∀ p H', Kp N0 H H' → TellP H H' p (neededM rs ps) → Q (.ref p) H'
/-- the same, with what comes twice -/
def needsT (rs : List Row) (m : Str) : List P2 := ((turnM rs m).filter fun h => decide (h ≠ mainM rs m)).map fun h => (h, mainM rs m)
theorem needsT_mem {rs : List Row} {m : Str} {x : P2} : x ∈ needsT rs m ↔ x ∈ needsM rs m := by
  have e : ∀ h, h ∈ headsM rs m ↔ h ∈ turnM rs m := fun h => riseS_mem h _
  constructor
  · intro z
    obtain ⟨h, hh, e2⟩ := List.mem_map.mp z
    obtain ⟨h1, h2⟩ := List.mem_filter.mp hh
    exact List.mem_map.mpr ⟨h, List.mem_filter.mpr ⟨(e h).mpr h1, h2⟩, e2⟩
  · intro z
    obtain ⟨h, hh, e2⟩ := List.mem_map.mp z
    obtain ⟨h1, h2⟩ := List.mem_filter.mp hh
    exact List.mem_map.mpr ⟨h, List.mem_filter.mpr ⟨(e h).mp h1, h2⟩, e2⟩
theorem needsT_len (rs : List Row) (m : Str) : (needsT rs m).length ≤ rs.length + 1 := by
  unfold needsT
  rw [List.length_map]
  exact Nat.le_trans (List.length_filter_le _ _) (turnM_len rs m)
theorem neededT {rs : List Row} {ps : List P2} : riseP (ps.flatMap fun p => needsT rs p.2) = neededM rs ps := riseP_congr fun x => by
  rw [List.mem_flatMap, List.mem_flatMap]
  exact ⟨fun ⟨p, hp, z⟩ => ⟨p, hp, needsT_mem.mp z⟩, fun ⟨p, hp, z⟩ => ⟨p, hp, needsT_mem.mpr z⟩⟩
/-! ### reached by turns -/
/-- what cards of these lead to -/
def goalsM (cs : List P2) (xs : List Str) : List Str := (cs.filter fun c => decide (c.1 ∈ xs)).map (·.2)
def nextM (cs : List P2) (xs : List Str) : List Str := riseS (xs ++ goalsM cs xs)
theorem nextM_mem {cs : List P2} {xs : List Str} {x : Str} : x ∈ nextM cs xs ↔ x ∈ xs ∨ ∃ c ∈ cs, c.1 ∈ xs ∧ c.2 = x := by
  unfold nextM goalsM
  rw [riseS_mem, List.mem_append, List.mem_map]
  constructor
  · rintro (z | ⟨c, hc, e⟩)
    · exact .inl z
    · obtain ⟨h1, h2⟩ := List.mem_filter.mp hc
      exact .inr ⟨c, h1, of_decide_eq_true h2, e⟩
  · rintro (z | ⟨c, h1, h2, e⟩)
    · exact .inl z
    · exact .inr ⟨c, List.mem_filter.mpr ⟨h1, decide_eq_true h2⟩, e⟩
theorem rs_len_lt {l m : List Str} (hl : Rs l) (hm : Rs m) (sub : ∀ x ∈ l, x ∈ m) (ne : m ≠ l) : l.length < m.length := by
  rcases Nat.lt_or_ge l.length m.length with c | c
  · exact c
  · refine (ne (Rs.uniq hm hl fun x => ⟨fun hx => ?_, sub x⟩)).elim
    by_cases hin : x ∈ l
    · exact hin
    · have z := nodup_le (l := x :: l) (m := m) (List.nodup_cons.mpr ⟨hin, hl.nodup⟩) fun y hy => by
        rcases List.mem_cons.mp hy with e | hy
        · rw [e]
          exact hx
        · exact sub y hy
      rw [List.length_cons] at z
      omega
theorem rs_one (h : Str) : Rs [h] := List.pairwise_singleton _ _
theorem rs_nil : Rs [] := List.Pairwise.nil
/-- what holds of the law's search: found, more -/
structure Seek (cs : List P2) (h : Str) (F M : List Str) : Prop where
  rf : Rs F
  rm : Rs M
  sub : ∀ x ∈ F, x ∈ M
  go : ∀ x ∈ M, Go cs h x
  fst : h ∈ M
  cl : ∀ c ∈ cs, c.1 ∈ F → c.2 ∈ M
theorem Seek.begin (cs : List P2) (h : Str) : Seek cs h [] [h] := ⟨rs_nil, rs_one h, (fun x hx => nomatch hx), (fun x hx => by rw [List.mem_singleton.mp hx]; exact .here), List.mem_singleton.mpr rfl, (fun c _ hx => nomatch hx)⟩
theorem Seek.step {cs : List P2} {h : Str} {F M : List Str} (z : Seek cs h F M) : Seek cs h M (nextM cs M) :=
  ⟨z.rm, riseS_rs _, fun x hx => nextM_mem.mpr (.inl hx), fun x hx => by
    rcases nextM_mem.mp hx with q | ⟨c, hc, q, e⟩
    · exact z.go x q
    · rw [← e]
      exact (z.go _ q).on hc, nextM_mem.mpr (.inl z.fst), fun c hc q => nextM_mem.mpr (.inr ⟨c, hc, q, rfl⟩)⟩
theorem Seek.end_ {cs : List P2} {h : Str} {M : List Str} (z : Seek cs h M M) : M = comeM cs h := Rs.uniq z.rm (comeM_rs cs h) fun x => ⟨fun hx => comeM_mem.mpr (z.go x hx), fun hx => by
  have g := comeM_mem.mp hx
  induction g with
  | here => exact z.fst
  | on g hm ih => exact z.cl _ hm (ih (comeM_mem.mpr g))⟩
theorem Seek.len {cs : List P2} {h : Str} {F M : List Str} (z : Seek cs h F M) : M.length ≤ cs.length + 1 := by
  have y := nodup_le (l := M) (m := h :: cs.map (·.2)) z.rm.nodup fun x hx => (z.go x hx).goal
  rwa [List.length_cons, List.length_map] at y
theorem goalsM_len (cs : List P2) (xs : List Str) : (goalsM cs xs).length ≤ cs.length := by
  unfold goalsM
  rw [List.length_map]
  exact List.length_filter_le _ _
/-- _law_reach(cards, head) -/
def spReachL : Sp := fun vs H Q _ => ∃ (v : V) (cs : List P2) (h : Str), vs = [v, .str h] ∧ Dn N0 H v (papersD cs) ∧ cs.length ≤ 400 ∧ PyData.strOk h = true ∧ (∀ c ∈ cs, PyData.strOk c.2 = true) ∧ ∀ p H', H p = none → Kp N0 H H' → H' p = some (.lst ((comeM cs h).map V.str)) → Q (.ref p) H'
theorem Go.ok {cs : List P2} {h x : Str} (hh : PyData.strOk h = true) (hc : ∀ c ∈ cs, PyData.strOk c.2 = true) (g : Go cs h x) : PyData.strOk x = true := by
  cases g with
  | here => exact hh
  | on _ hm => exact hc _ hm
theorem tNe_mono {K : PySem.W.Frag} {i j : Nat} : ∀ σ H Q Q', (∀ b H1, Q b H1 → Q' b H1) → tTest (tOp (rNeD K) (tVar i) (tVar j)) σ H Q → tTest (tOp (rNeD K) (tVar i) (tVar j)) σ H Q' :=
  fun σ H Q Q' k ⟨v, e, u, e2, d, f, h1, h2, h3, h4, b, e3, q⟩ => ⟨v, e, u, e2, d, f, h1, h2, h3, h4, b, e3, k b H q⟩
end Fc
set_option maxHeartbeats 8000000
/-! set(list of whole numbers). -/
namespace Fc
open PySem PySem.Spec PyProof.Rows L2
section
variable {X : Cx}
def rSetI (K : PySem.W.Frag) (w : World) : List V → Hp → VK → Prop := fun vs H Q => ∃ (l : Addr) (ns : List Int), vs = [.ref l] ∧ SqL K H l (ns.map V.int) ∧ ns.length ≤ 1000 ∧ ∀ p c, H p = none → c ≤ ns.length → Q (.ref p) (upd H p (SetO w p (fun j => decide (j ∈ ns)) c))
theorem cr_setI (hc : X.calm = true) : CallR X (.type "set") (rSetI X.K X.w) := by
  intro pins s σ H vs us Q I r h
  obtain ⟨l, ns, rfl, hq, hl, q⟩ := h
  rw [Vals.ref1 r]
  obtain ⟨its, rv, pl, _⟩ := I.list hq
  have hi : IntsAre its.toArray.toList ns := ints_of_vals rv
  have iz : its.toArray.size = ns.length := by
    have z := IntsAre.length hi
    rwa [Array.length_toList] at z
  have hh := I.ok.hd hc
  refine set_by_loop (fun h' => ∃ c, SetR X.w h' s.heap.objs.size (fun j => decide (j ∈ ns)) c ∧ c ≤ ns.length) pl.isList (fun R hR => ?_) fun s' ⟨h', tk, e, ⟨c, hS, lc⟩, kp⟩ => ?_
  · obtain ⟨ol, hol, hcl2, nl, hdl⟩ := pl.isList
    have hl1 : (s.heap.push (newSet X.w)).IsList l its.toArray := ⟨_, Heap.get?_push_of_some _ hol, hcl2, nl, hdl⟩
    have atS : (s.heap.push (newSet X.w)).get? s.heap.objs.size = some (newSet X.w) := Heap.get?_push_size _ rfl
    have ltl : l < s.heap.objs.size := Heap.lt_size hol
    have hh3 : X.A.in1.in1.in1.handled = none := by simp [hh]
    have neI : l ≠ (s.heap.push (newSet X.w)).objs.size := by rw [Heap.size_push]; exact Nat.ne_of_lt (Nat.lt_succ_of_lt ltl)
    have outS : s.heap.objs.size ∉ [(s.heap.push (newSet X.w)).objs.size, l] := by
      rw [Heap.size_push]; simp only [List.mem_cons, List.mem_singleton, List.not_mem_nil, or_false, not_or]; exact ⟨Nat.ne_of_lt (Nat.lt_succ_self _), Nat.ne_of_gt ltl⟩
    refine set_update_ints ((Walks.list hh3 _ l neI its.toArray).toS) s.heap.objs.size outS ns iz (by unfold scanBound; omega) (fun i v hv => ?_) (its.toArray.size - 0) 0 _ (by omega) (Nat.zero_le _) ⟨⟨_, Heap.get?_push_size _ rfl, rfl, rfl⟩, (hl1.push _)⟩ ⟨0, Nat.le_refl 0, setR_new_at (Heap.get?_push_of_some _ atS)⟩ fun s' c mv lc hS => ?_
    · have hi2 : i < ns.length := by rw [← iz]; exact (Array.getElem?_eq_some_iff.mp hv).1
      obtain ⟨t, e⟩ := PyProof.Rows.IntsAre.int_at hi i v (by rw [Array.getElem?_toList]; exact hv)
      refine ⟨ns[i], t, List.getElem?_eq_getElem hi2, ?_⟩
      rw [e, List.getD_eq_getElem?_getD, List.getElem?_eq_getElem hi2]
      rfl
    · obtain ⟨h', g', d', tk', os'⟩ := s'
      have eg : g' = s.gens := mv.gens; have ed : d' = s.drawn := mv.drawn; have eo : os' = s.os := mv.os
      subst eg; subst ed; subst eo
      rw [iz] at lc
      refine hR _ ⟨h', tk', rfl, ⟨c, hS, lc⟩, fun b o hb e => mv.heap b o ?_ (Heap.get?_push_of_some _ (Heap.get?_push_of_some _ e))⟩
      simp only [List.mem_cons, List.mem_singleton, List.not_mem_nil, or_false, not_or]
      exact ⟨Nat.ne_of_lt hb, by rw [Heap.size_push]; exact Nat.ne_of_lt (Nat.lt_succ_of_lt hb)⟩
  · subst e
    exact ⟨.ref s.heap.objs.size, upd H s.heap.objs.size (SetO X.w s.heap.objs.size _ c), I.laid (t' := tk) (fun b o e => kp b o (Heap.lt_size e) e) (Nat.le_refl _) (setO_new hS), rfl, q _ c (I.hok.fresh (Nat.le_refl _)) lc⟩
end
end Fc
set_option maxHeartbeats 4000000
/-! Rules by which each head has a mark of its own. -/
namespace Fc
open PySem PySem.Spec PyProof.Rows L2
section
variable {X : Cx} {K : PySem.W.Frag}
theorem call_len_seqJ (h : X.K = K := by rfl) : CallR X (.builtin "len") fun xs H Q => ∃ p ys, xs = [V.ref p] ∧ (SqL K H p ys ∨ SqT K H p ys) ∧ Q (V.int ↑ys.length) H := by
  subst h
  exact call_len_seq
end
theorem DnA.rev {S : Addr → Prop} {H : Hp} : ∀ {xs : List V} {ds : List PyData}, DnA S H xs ds → DnA S H xs.reverse ds.reverse
  | _, _, .nil => .nil
  | _, _, .cons h t => by
    rw [List.reverse_cons, List.reverse_cons]
    exact (DnA.rev t).app (.one h)
theorem Box.lsts {H : Hp} {b l : Addr} (h : Box H b l) : ∀ a, sB b l a → ∃ xs, H a = some (.lst xs) := fun a z => by
  obtain ⟨ns, s, h1, h2, _⟩ := h
  rcases z with z | z
  · exact ⟨_, by rw [z]; exact h1⟩
  · exact ⟨_, by rw [z]; exact h2⟩
def sCF (b l C F : Addr) : Addr → Prop := fun a => sB b l a ∨ a = C ∨ a = F
def six : List Str := ["bill", "law", "map", "seal", "tax", "will"]
/-- the i-th of the letters from a on -/
def lt6 (i : Nat) : Str := ⟨#[97 + i]⟩
def row6 (i : Nat) : Row := (six.getD i "", lt6 i, "")
theorem six_ok : ∀ i, i < 6 → isRowM (row6 i) = true := by decide +kernel
theorem name6_ok : ∀ i, i < 6 → isWordM ("n" ++ lt6 i) = true := by decide +kernel
theorem name6_inj {i j : Nat} (h : (("n" : Str) ++ lt6 i) = ("n" : Str) ++ lt6 j) : i = j := by
  have z := congrArg (fun t : Str => t.cps.toList) h
  simp only [add_cps] at z
  have z2 : [97 + i] = [97 + j] := List.append_cancel_left z
  injection z2 with z2
  omega
def rows6 (n : Nat) : List Row := (List.range n).map row6
theorem rows6_good {n : Nat} (hn : n ≤ 6) : GoodR (rows6 n) := by
  refine ⟨by unfold rows6; rw [List.length_map, List.length_range]; omega, fun r hr => ?_, ⟨six, by decide, fun r hr => ?_⟩⟩
  · obtain ⟨i, hi, e⟩ := List.mem_map.mp hr
    have z := List.mem_range.mp hi
    rw [← e]
    exact six_ok i (by omega)
  · obtain ⟨i, hi, e⟩ := List.mem_map.mp hr
    have z := List.mem_range.mp hi
    rw [← e]
    have l : six.length = 6 := rfl
    show six.getD i "" ∈ six
    rw [List.getD_eq_getElem?_getD, List.getElem?_eq_getElem (by omega)]
    exact List.getElem_mem _
theorem good_rev {rs : List Row} (h : GoodR rs) : GoodR rs.reverse := by
  obtain ⟨hs, h1, h2⟩ := h.heads
  exact ⟨by rw [List.length_reverse]; exact h.few, fun r hr => h.row r (List.mem_reverse.mp hr), ⟨hs, h1, fun r hr => h2 r (List.mem_reverse.mp hr)⟩⟩
/-- marks of rising numbers -/
def mk6 (ns : List Int) : Str := oS (ns.map fun i => 97 + i.toNat)
theorem rise_sub : ∀ (l : List Nat) (lo n : Nat), l.Pairwise (· < ·) → (∀ x ∈ l, lo ≤ x ∧ x < lo + n) → l.Sublist (List.range' lo n)
  | [], _, _, _, _ => List.nil_sublist _
  | x :: l, lo, 0, _, h => by
    have z := h x List.mem_cons_self
    omega
  | x :: l, lo, n + 1, hp, h => by
    obtain ⟨h1, h2⟩ := List.pairwise_cons.mp hp
    have hx := h x List.mem_cons_self
    rw [List.range'_succ]
    by_cases e : x = lo
    · subst e
      exact (rise_sub l (x + 1) n h2 fun y hy => by
        have z := h y (List.mem_cons_of_mem _ hy)
        have q := h1 y hy
        omega).cons_cons _
    · refine List.Sublist.cons _ (rise_sub (x :: l) (lo + 1) n hp fun y hy => ?_)
      have z := h y hy
      rcases List.mem_cons.mp hy with q | q
      · omega
      · have w := h1 y q
        omega
theorem mk6_ok {ns : List Int} (hp : ns.Pairwise (· < ·)) (hb : ∀ x ∈ ns, 0 ≤ x ∧ x < 6) : isMarksM (mk6 ns) = true := by
  have s : (ns.map fun i => 97 + i.toNat).Sublist ("abcdefgh" : Str).cps.toList := by
    have e : ("abcdefgh" : Str).cps.toList = List.range' 97 8 := by decide +kernel
    rw [e]
    refine rise_sub _ 97 8 ?_ fun x hx => ?_
    · refine List.pairwise_map.mpr (List.Pairwise.imp_of_mem (fun {a b} ha hb2 h => ?_) hp)
      have z1 := hb a ha
      have z2 := hb b hb2
      omega
    · obtain ⟨i, hi, e⟩ := List.mem_map.mp hx
      have z := hb i hi
      omega
  exact decide_eq_true (marks_of s)
/-- _law_pairs(box) -/
def spPairs : Sp := fun vs H Q _ => ∃ b l : Addr, vs = [.ref b] ∧ Box H b l ∧ ∀ (rs : List Row) (ps : List P2) t p q H', GoodR rs → GoodP ps → H t = none → Box H' b l → Kp (sB b l) H H' → H' t = some (.tup [.ref p, .ref q]) → Dn (sB b l) H' (.ref p) (ruleD rs) → Dn (sB b l) H' (.ref q) (papersD ps) → Q (.ref t) H'
theorem abc6_at : ∀ k < 6, ("abcdef" : Str).cps[k]? = some (97 + k) := by decide
theorem abc6_len : (("abcdef" : Str).length : Nat) = 6 := by decide
end Fc
set_option maxHeartbeats 4000000
namespace Fc
open PySem PySem.Spec PyProof.Rows L2
section
variable {P : Program} {w : World} {K : PySem.W.Frag} {mg : Str → Option Value} {base : Heap}
theorem scPairs : FnScope ["_law_box", "_law_heads_here", "_law_k", "_law_rule_here", "_law_papers_here", "_law_turn", "_law_marks_here", "_law_mark"] ["_law_box"] (defScope sPairs) := ⟨rfl, rfl, rfl, by decide +kernel, rfl, by decide +kernel, by decide +kernel⟩
theorem ok_pairs (D : DefAt K mg "_law_pairs" sPairs) (C1 : C8.Cal P w K mg base 1 "_law_take" spTake []) (gR : mg "range" = none) (gL : mg "len" = none) (gS : mg "sorted" = none) (gT : mg "set" = none) : C8.Cal P w K mg base 2 "_law_pairs" spPairs [] := by
  refine cal_mk D scPairs (fun vs H Q E h => ?_) (fun _ _ _ _ _ _ us hl => match us, hl with | [_], _ => rfl) (fun A outer s H vs Q E hr h => ?_)
  · obtain ⟨b, l, rfl, _⟩ := h
    rfl
  · obtain ⟨b, l, rfl, hB, k⟩ := h
    refine ⟨_, pss_cons (ps_set (i := 1) scPairs.nd rfl (Or.inr rfl) (pe_slice sl_list (pe_lst (pa_cons pe_str (pa_cons pe_str (pa_cons pe_str (pa_cons pe_str (pa_cons pe_str (pa_cons pe_str pa_nil))))))) po_none (po_some (pe_op op_add pe_int (C8.pe_c C1 hr (by decide) rfl (pa_cons (pv 0) (pa_cons pe_int pa_nil)))))))
      (pss_cons (ps_setLc (i := 3) (own := [("_law_k", 2)]) (g := gName 2) (tt := tYes) rfl scPairs.nd rfl rfl (sw_true rfl rfl rfl (by decide +kernel)) (pi_range1 (by rfl) gR (pa_cons (pe_callB call_len_seq (by rfl) gL PySem.boot_len (pa_cons (pv 1) pa_nil)) pa_nil)) (blkOk_by (N := ["_law_box", "_law_heads_here", "_law_k", "_law_rule_here", "_law_papers_here", "_law_turn", "_law_marks_here", "_law_mark"]) (sc := defScope sPairs) (by decide +kernel)) (fun _ _ _ _ _ => pg_name (i := 2) scPairs.nd rfl (Or.inl rfl)) (fun _ _ _ _ _ => pts_nil)
          (fun _ _ _ _ _ => pe_tup (pa_cons (pe_ix (ix_listK (K := K)) (pv 1) (pv 2) (fun _ _ => rfl)) (pa_cons (pe_item_str pe_str (pv 2) (fun _ _ => rfl)) (pa_cons pe_str pa_nil)))))
      (pss_cons (ps_if (pt_cmpR op_eq (C8.pe_c C1 hr (by decide) rfl (pa_cons (pv 0) (pa_cons pe_int pa_nil))) pe_int (nomark _)) (pss_one (ps_expr (pe_bm0 PySem.F.plainAttrs_list PySem.F.slot_list_reverse PySem.F.type_list_reverse mt_reverse (pv 3)))) pss_nil)
      (pss_cons (ps_set (i := 4) scPairs.nd rfl (Or.inl rfl) (pe_lst pa_nil))
      (pss_cons (ps_for PassesOwn.never rfl (pi_range1 (by rfl) gR (pa_cons (C8.pe_c C1 hr (by decide) rfl (pa_cons (pv 0) (pa_cons pe_int pa_nil))) pa_nil)) (pg_name (i := 2) scPairs.nd rfl (Or.inl rfl))
        (pss_cons (ps_setLc (i := 6) (own := [("_law_turn", 5)]) (g := gName 5) (tt := tYes) rfl scPairs.nd rfl rfl (sw_true rfl rfl rfl (by decide +kernel)) (pi_range1 (by rfl) gR (pa_cons (pe_op op_add pe_int (pe_op op_fdiv (C8.pe_c C1 hr (by decide) rfl (pa_cons (pv 0) (pa_cons pe_int pa_nil))) pe_int)) pa_nil)) (blkOk_by (N := ["_law_box", "_law_heads_here", "_law_k", "_law_rule_here", "_law_papers_here", "_law_turn", "_law_marks_here", "_law_mark"]) (sc := defScope sPairs) (by decide +kernel)) (fun _ _ _ _ _ => pg_name (i := 5) scPairs.nd rfl (Or.inl rfl)) (fun _ _ _ _ _ => pts_nil)
          (fun _ _ _ _ _ => C8.pe_c C1 hr (by decide) rfl (pa_cons (pv 0) (pa_cons (pe_callB (call_len_seqJ (K := K)) (by rfl) gL PySem.boot_len (pa_cons (pv 1) pa_nil)) pa_nil))))
        (pss_one (ps_expr (pe_bm PySem.F.plainAttrs_list PySem.F.slot_list_append PySem.F.type_list_append mt_append (pv 4) (pa_cons (pe_tup (pa_cons (pe_op op_add_str pe_str (pe_item_str pe_str (pv 2) (fun _ _ => rfl))) (pa_cons (pe_joinK (K := K) rfl pe_str (pe_lc (own := [("_law_mark", 7)]) (g := gName 7) (tt := tYes) rfl scPairs.nd (pi_list (pe_callB (cr_sortedSet rfl) (by rfl) gS boot_sorted (pa_cons (pe_callTy (cr_setI rfl) (by rfl) gT boot_set (pa_cons (pv 6) pa_nil)) pa_nil))) (blkOk_by (N := ["_law_box", "_law_heads_here", "_law_k", "_law_rule_here", "_law_papers_here", "_law_turn", "_law_marks_here", "_law_mark"]) (sc := defScope sPairs) (by decide +kernel)) (fun _ _ _ _ _ => pg_name (i := 7) scPairs.nd rfl (Or.inl rfl)) (fun _ _ _ _ _ => pts_nil) (fun _ _ _ _ _ => pe_item_str pe_str (pv 7) (fun _ _ => rfl)))) pa_nil))) pa_nil))))))
      (pss_one (ps_ret (pe_tup (pa_cons (pv 3) (pa_cons (pv 4) pa_nil))))))))), ?_⟩
    have sz : ∀ n : Nat, n ≤ 1000 → n ≤ sizeLine := fun n h => by rw [sizeLine_eq]; omega
    refine ⟨sz 6 (by decide), fun p1 f1 => ?_⟩
    have k1 : Kp N0 H (upd H p1 (.lst (six.map V.str))) := Kp.new f1
    have a1 : (upd H p1 (.lst (six.map V.str))) p1 = some (.lst (six.map V.str)) := upd_same
    have s1 : ¬ sB b l p1 := fun z => hB.on _ z f1
    refine ⟨_, rfl, b, l, 5, rfl, hB.kp k1, by decide, by decide, fun r H2 r0 r1 hB2 k2 => ⟨_, _, rfl, rfl, 2 + r, rfl, p1, six.map V.str, rfl, SqL.of (k2.obj a1 ntl s1), fun hh fh => ?_⟩⟩
    rw [cutV_take _ (by omega), ← List.map_take]
    have e6 : ∃ n, n ≤ 6 ∧ 2 ≤ n ∧ (2 + r).toNat = n := ⟨(2 + r).toNat, by omega, by omega, rfl⟩
    obtain ⟨n, n6, n2, en⟩ := e6
    rw [en]
    have ln : (six.take n).length = n := by rw [List.length_take]; show min n 6 = n; omega
    have k3 : Kp (sB b l) H (upd H2 hh (.lst ((six.take n).map V.str))) := (k1.up.trans k2).trans (Kp.new fh)
    have fh0 : H hh = none := (k1.up.trans k2).fresh fh
    have sh : ¬ sB b l hh := fun z => hB.on _ z fh0
    have hB3 : Box (upd H2 hh (.lst ((six.take n).map V.str))) b l := hB2.upd sh
    have ah : (upd H2 hh (.lst ((six.take n).map V.str))) hh = some (.lst ((six.take n).map V.str)) := upd_same
    generalize upd H2 hh (.lst ((six.take n).map V.str)) = H3 at k3 hB3 ah ⊢
    clear k1 a1 s1 k2 fh
    -- the rows
    have lm : ((six.take n).map V.str).length = n := by rw [List.length_map, ln]
    refine ⟨_, rfl, hh, _, rfl, .inl (SqL.of ah), _, rfl, by rw [lm]; omega, by rw [lm]; omega, fun C fC => ?_⟩
    rw [lm, Int.toNat_natCast]
    refine lc_gen walk_range (List.range n) (by simp) (fun _ => true) (fun i => rowD (row6 i)) N0 (fun _ z => z.elim) fC (by omega) (fun _ _ => trivial) (fun i q x H9 H10 hq k9 y Kt kt => ?_) fun H4 out k4 aC hdn => ?_
    · obtain ⟨rfl, rfl⟩ := y
      have hin : i < n := by
        have z := (List.getElem?_eq_some_iff.mp hq).1
        simpa using z
      have eq : i = q := by
        have z := (List.getElem?_eq_some_iff.mp hq).2
        simpa using z
      subst eq
      refine kt _ _ Kp.refl rfl (fun Q2 q2 => q2 _ Kp.refl) (fun _ H11 k11 S' _ hS' Q2 q2 => ?_)
      have e0 : ((0 : Int) + (i : Nat)) = ((i : Nat) : Int) := by omega
      have ah11 := (k9.trans k11).obj ah ntl nn
      have at1 : ((six.take n).map V.str)[i]? = some (V.str (six.getD i "")) := by
        have z : six.length = 6 := rfl
        have h6 : i < six.length := by omega
        rw [List.getElem?_map, List.getElem?_take_of_lt hin, List.getElem?_eq_getElem h6, List.getD_eq_getElem?_getD, List.getElem?_eq_getElem h6]
        rfl
      refine ⟨_, rfl, _, rfl, hh, _, (i : Nat), V.str (six.getD i ""), rfl, congrArg V.int e0, SqL.of ah11, atI_nat at1, ?_⟩
      refine ⟨_, rfl, "abcdef", _, 97 + i, rfl, rfl, by omega, by omega, by rw [e0, abc6_len]; omega, by rw [e0, Int.toNat_natCast]; exact abc6_at i (by omega), ?_⟩
      exact ⟨sz 3 (by decide), fun U fU => q2 _ _ (Kp.new fU) (.tup (fun z => hS' _ z fU) upd_same (DnA.strs [six.getD i "", lt6 i, ""]))⟩
    rw [List.filter_eq_self.mpr fun _ _ => rfl] at hdn
    have dR : DnA N0 H4 out ((rows6 n).map rowD) := by
      unfold rows6
      rw [List.map_map]
      exact hdn.weak fun _ z => z.elim
    have lo : out.length = n := by rw [dR.len, List.length_map]; unfold rows6; rw [List.length_map, List.length_range]
    have k4' : Kp (sB b l) H H4 := k3.trans k4.up
    have hB4 := hB3.kp k4
    have ah4 := k4.obj ah ntl nn
    have fC0 : H C = none := k3.fresh fC
    have sC : ¬ sB b l C := fun z => hB.on _ z fC0
    have neC : hh ≠ C := ne_of_none ah fC
    have offC : ∀ a, sD (sB b l) C a → ∃ xs, H4 a = some (.lst xs) := fun a z => by
      rcases z with z | z
      · exact hB4.lsts a z
      · exact ⟨_, by rw [z]; exact aC⟩
    have dS : DnA (sD (sB b l) C) H4 out ((rows6 n).map rowD) := rows_off offC dR
    clear hdn k3 k4 hB3 ah dR offC
    -- turned round
    refine ⟨_, rfl, b, l, 2, rfl, hB4, by decide, by decide, fun r2 H5 q0 q1 hB5 k5 => ⟨rfl, _, rfl, ite2 (fun c1 => ?_) (fun c1 => ?_)⟩⟩
    case' refine_1 =>
      have aC5 := k5.obj aC ntl sC
      refine ⟨_, rfl, .inl ⟨rfl, _, SqL.of aC5⟩, C, _, rfl, rfl, aC5, ?_⟩
      have hB6 := hB5.upd (o := .lst out.reverse) sC
      have k6 : Kp (sB b l) H (upd H5 C (.lst out.reverse)) := (k4'.trans k5).mut fC0
      have ah6 : (upd H5 C (.lst out.reverse)) hh = some (.lst ((six.take n).map V.str)) := by
        rw [upd_ne neC]
        exact k5.obj ah4 ntl sh
      have good : GoodR (rows6 n).reverse := good_rev (rows6_good n6)
      have dR6 : DnA (sD (sB b l) C) (upd H5 C (.lst out.reverse)) out.reverse ((rows6 n).reverse.map rowD) := by
        rw [List.map_reverse]
        exact ((dS.kp (k5.mono fun a z => .inl z)).kp (Kp.mutS (.inr rfl) aC5 ntl ntl)).rev
      have aC6 : (upd H5 C (.lst out.reverse)) C = some (.lst out.reverse) := upd_same
      generalize upd H5 C (.lst out.reverse) = H6 at hB6 k6 ah6 dR6 aC6 ⊢
      generalize out.reverse = xs at dR6 aC6
      generalize (rows6 n).reverse = rs at good dR6
    case' refine_2 =>
      have hB6 := hB5
      have k6 := k4'.trans k5
      have ah6 := k5.obj ah4 ntl sh
      have good : GoodR (rows6 n) := rows6_good n6
      have dR6 : DnA (sD (sB b l) C) H5 out ((rows6 n).map rowD) := dS.kp (k5.mono fun a z => .inl z)
      have aC6 := k5.obj aC ntl sC
      generalize H5 = H6 at hB6 k6 ah6 dR6 aC6 ⊢
      generalize out = xs at dR6 aC6
      generalize rows6 n = rs at good dR6
    all_goals
      clear k5 hB5 hB4 k4' ah4 aC dS
      refine ⟨Nat.zero_le _, fun F fF => ?_⟩
      have fF0 : H F = none := k6.fresh fF
      have sF : ¬ sB b l F := fun z => hB.on _ z fF0
      have FC : F ≠ C := fun e => by rw [e, aC6] at fF; cases fF
      have Fh : F ≠ hh := fun e => by rw [e, ah6] at fF; cases fF
      have hB7 := hB6.upd (o := .lst []) sF
      have k7 : Kp (sB b l) H (upd H6 F (.lst [])) := k6.trans (Kp.new fF)
      have aC7 : (upd H6 F (.lst [])) C = some (.lst xs) := by rw [upd_ne FC.symm]; exact aC6
      have ah7 : (upd H6 F (.lst [])) hh = some (.lst ((six.take n).map V.str)) := by rw [upd_ne Fh.symm]; exact ah6
      have aF7 : (upd H6 F (.lst [])) F = some (.lst []) := upd_same
      have dR7 : DnA (sCF b l C F) (upd H6 F (.lst [])) xs (rs.map rowD) := rows_off (fun a z => by
        rcases z with z | z | z
        · exact hB7.lsts a z
        · exact ⟨_, by rw [z]; exact aC7⟩
        · exact ⟨_, by rw [z]; exact aF7⟩) ((dR6.kp (Kp.new fF)).weak fun _ z => z.elim)
      generalize upd H6 F (.lst []) = H7 at hB7 k7 aC7 ah7 aF7 dR7 ⊢
      clear hB6 k6 aC6 ah6 dR6 fF
      refine ⟨_, rfl, b, l, 6, rfl, hB7, by decide, by decide, fun r6 H8 q2 q3 hB8 k8 => ⟨r6, rfl, by omega, by omega, for_range (fun i σ' H' => ∃ (ps : List P2) (ys : List V) (o2 o6 : Option V), σ' = [some (.ref b), some (.ref hh), o2, some (.ref C), some (.ref F), none, o6, none] ∧ Box H' b l ∧ Kp (sB b l) H H' ∧ H' C = some (.lst xs) ∧ H' hh = some (.lst ((six.take n).map V.str)) ∧ H' F = some (.lst ys) ∧
        DnA (sCF b l C F) H' xs (rs.map rowD) ∧ DnA (sCF b l C F) H' ys (ps.map paperD) ∧ ps.length = i ∧ ∀ j p, ps[j]? = some p → p.1 = "n" ++ lt6 j ∧ isMarksM p.2 = true)
        ⟨[], [], _, _, rfl, hB8, k7.trans k8, k8.obj aC7 ntl sC, k8.obj ah7 ntl sh, k8.obj aF7 ntl sF, dR7.kp (k8.mono fun a z => .inl z), .nil, rfl, fun j p z => by simp at z⟩ (fun i σ' H' hi ⟨ps, ys, o2, o6, es, hB', k', aC', ah', aF', dR', dP, lp, okp⟩ => ?_) fun σ' H' ⟨ps, ys, o2, o6, es, hB', k', aC', ah', aF', dR', dP, lp, okp⟩ => ?_⟩⟩
      · subst es
        have i6 : i < 5 := by omega
        refine ⟨_, rfl, b, l, 6, rfl, hB', by decide, by decide, fun r7 H9 q4 q5 hB9 k9 => ⟨_, _, rfl, rfl, ⟨by decide, by decide⟩, _, _, rfl, rfl, 2 + r7 / 5, rfl, by omega, by omega, fun M fM => ?_⟩⟩
        have k9' := k'.trans k9
        have fM0 : H M = none := k9'.fresh fM
        have sM : ¬ sB b l M := fun z => hB.on _ z fM0
        have aF9 := k9.obj aF' ntl sF
        have aC9 := k9.obj aC' ntl sC
        have ah9 := k9.obj ah' ntl sh
        have MF : M ≠ F := fun e => by rw [e, aF9] at fM; cases fM
        have hm : ∃ m : Nat, (2 + r7 / 5).toNat = m ∧ m ≤ 3 := ⟨_, rfl, by omega⟩
        obtain ⟨m, em, m3⟩ := hm
        rw [em]
        refine lc_it walk_range (fun j H' => ∃ ns : List Int, H' M = some (.lst (ns.map V.int)) ∧ ns.length = j ∧ (∀ x ∈ ns, 0 ≤ x ∧ x < 6) ∧ Box H' b l ∧ Kp (sB b l) H9 H') ⟨[], upd_same, rfl, (fun x z => nomatch z), hB9.upd sM, Kp.new fM⟩ (fun _ _ _ _ => trivial) (fun j x H10 H11 hj ⟨ns, aM, lns, bn, hB10, k10⟩ y => ?_) fun H10 ⟨ns, aM, lns, bn, hB10, k10⟩ => ?_
        · obtain ⟨rfl, rfl⟩ := y
          refine ⟨rfl, _, rfl, _, rfl, hh, _, rfl, .inl (SqL.of (k10.obj ah9 ntl sh)), b, l, _, rfl, hB10, by rw [lm]; omega, by rw [lm]; omega, fun r8 H12 q6 q7 hB12 k12 => ?_⟩
          rw [lm] at q7
          refine ⟨ns.map V.int, k12.obj aM ntl sM, by rw [List.length_map, sizeLine_eq]; omega, ns ++ [r8], ?_, by rw [List.length_append, lns]; rfl, fun x hx => ?_, hB12.upd sM, (k10.trans k12).mut fM⟩
          · rw [upd_same, List.map_append]
            rfl
          · rcases List.mem_append.mp hx with z | z
            · exact bn x z
            · rw [List.mem_singleton.mp z]
              omega
        · have k10' := k9'.trans k10
          have aF10 := k10.obj aF9 ntl sF
          have ei : ((0 : Int) + (i : Nat)) = ((i : Nat) : Int) := by omega
          refine ⟨_, rfl, .inl ⟨rfl, _, SqL.of aF10⟩, _, rfl, "abcdef", _, 97 + i, rfl, rfl, by omega, by omega, by rw [ei, abc6_len]; omega, by rw [ei, Int.toNat_natCast]; exact abc6_at i (by omega), _, _, rfl, rfl, sz _ (by rw [len_cps, len_cps]; show 1 + 1 ≤ 1000; decide), ?_⟩
          refine ⟨⟨_, rfl⟩, _, rfl, M, ns, rfl, SqL.of aM, by omega, fun p c hp lc => ⟨p, _, c, rfl, upd_same, by omega, fun ns' q pw hmm hlen hq => ⟨q, rfl, ⟨_, SqL.of upd_same⟩, fun G fG => ?_⟩⟩⟩
          have lns' : ns'.length ≤ 3 := by omega
          have bn' : ∀ x ∈ ns', 0 ≤ x ∧ x < 6 := fun x hx => bn x (of_decide_eq_true ((hmm x).mp hx))
          have k12 : Kp N0 H10 (upd (upd H10 p (SetO w p (fun j => decide (j ∈ ns)) c)) q (.lst (ns'.map V.int))) := (Kp.new hp).trans (Kp.new hq)
          have aQ : (upd (upd H10 p (SetO w p (fun j => decide (j ∈ ns)) c)) q (.lst (ns'.map V.int))) q = some (.lst (ns'.map V.int)) := upd_same
          change _ = none at fG
          refine lc_gen (walk_list (xs := ns'.map V.int)) ns' (by rw [List.length_map]) (fun _ => true) (fun x => PyData.str ⟨#[97 + x.toNat]⟩) N0 (fun _ z => z.elim) fG (by rw [List.length_map]; omega) (fun H' k' => SqL.of (k'.obj aQ ntl nn)) (fun j x v H13 H14 hx2 k13 y Kt kt => ?_) fun H13 out k13 aG hdn => ?_
          · obtain ⟨rfl, hx3⟩ := y
            rw [List.getElem?_map, hx2] at hx3
            have ex : V.int x = v := Option.some.inj hx3
            subst ex
            have bx := bn' x (List.mem_of_getElem? hx2)
            refine kt _ _ Kp.refl rfl (fun Q2 q2 => q2 _ Kp.refl) (fun _ H15 k15 S' _ _ Q2 q2 => ?_)
            exact ⟨_, rfl, "abcdef", _, 97 + x.toNat, rfl, rfl, by omega, by omega, by rw [abc6_len]; omega, abc6_at x.toNat (by omega), q2 _ _ Kp.refl (.str _)⟩
          · rw [List.filter_eq_self.mpr fun _ _ => rfl] at hdn
            have eo : out = ((ns'.map fun i => 97 + i.toNat).map fun c => (⟨#[c]⟩ : Str)).map V.str := DnA.strs_eq (xs := (ns'.map fun i => 97 + i.toNat).map fun c => (⟨#[c]⟩ : Str)) (by rw [List.map_map, List.map_map]; exact hdn)
            subst eo
            refine ⟨"", G, _, rfl, rfl, .inl (SqL.of aG), ?_, ?_⟩
            · rw [signs_sum, List.length_map, List.length_map, List.length_map]
              show _ + _ * 0 ≤ _
              omega
            rw [join_signs]
            have km := mk6_ok pw bn'
            unfold mk6 at km
            generalize oS (ns'.map fun i => 97 + i.toNat) = tm at km ⊢
            have k13' : Kp (sB b l) H' H13 := k9.trans (k10.trans (k12.trans k13).up)
            have hB13 := (hB10.kp k12).kp k13
            refine ⟨sz 2 (by decide), fun U fU => ?_⟩
            have U0 : H' U = none := k13'.fresh fU
            have kU : Kp (sB b l) H' (upd H13 U (.tup [.str ("n" ++ (⟨#[97 + i]⟩ : Str)), .str tm])) := k13'.trans (Kp.new fU)
            have aU : (upd H13 U (.tup [.str ("n" ++ (⟨#[97 + i]⟩ : Str)), .str tm])) U = some (.tup [.str ("n" ++ (⟨#[97 + i]⟩ : Str)), .str tm]) := upd_same
            have hBU := hB13.upd (o := .tup [.str ("n" ++ (⟨#[97 + i]⟩ : Str)), .str tm]) (p := U) fun z => hB'.on _ z U0
            generalize upd H13 U (.tup [.str ("n" ++ (⟨#[97 + i]⟩ : Str)), .str tm]) = H14 at kU aU hBU ⊢
            have aF14 := kU.obj aF' ntl sF
            have UF : U ≠ F := fun e => by rw [e, aF'] at U0; cases U0
            have UC : U ≠ C := fun e => by rw [e, aC'] at U0; cases U0
            have ly : ys.length = ps.length := by rw [dP.len, List.length_map]
            refine ⟨F, ys, _, rfl, rfl, aF14, by rw [sizeLine_eq]; omega, ?_⟩
            have kF : Kp (sCF b l C F) H' (upd H14 F (.lst (ys ++ [.ref U]))) := (kU.mono fun a z => .inl z).trans (Kp.mutS (.inr (.inr rfl)) aF14 ntl ntl)
            have aU2 : (upd H14 F (.lst (ys ++ [.ref U]))) U = some (.tup [.str ("n" ++ lt6 i), .str tm]) := by rw [upd_ne UF]; exact aU
            have CF : C ≠ F := FC.symm
            have hF : hh ≠ F := Fh.symm
            refine ⟨ps ++ [("n" ++ lt6 i, tm)], ys ++ [.ref U], _, _, rfl, hBU.upd sF, (k'.trans kU).mut fF0, by rw [upd_ne CF]; exact kU.obj aC' ntl sC, by rw [upd_ne hF]; exact kU.obj ah' ntl sh, upd_same, dR'.kp kF, ?_, by rw [List.length_append, lp]; rfl, fun j p hj => ?_⟩
            · rw [List.map_append]
              exact (dP.kp kF).app (.one (.tup (fun z => by
                rcases z with z | z | z
                · exact hB'.on _ z U0
                · exact UC z
                · exact UF z) aU2 (DnA.strs ["n" ++ lt6 i, tm])))
            · rcases Nat.lt_or_ge j ps.length with q | q
              · rw [List.getElem?_append_left q] at hj
                exact okp j p hj
              · rw [List.getElem?_append_right q] at hj
                have e : j - ps.length = 0 := by
                  have z := (List.getElem?_eq_some_iff.mp hj).1
                  rw [List.length_singleton] at z
                  omega
                rw [e] at hj
                have e2 : ("n" ++ lt6 i, tm) = p := Option.some.inj hj
                rw [← e2]
                exact ⟨by rw [show j = i by omega], km⟩
      · subst es
        refine ⟨_, rfl, _, rfl, sz 2 (by decide), fun t ft => ?_⟩
        have kt : Kp (sB b l) H' (upd H' t (.tup [.ref C, .ref F])) := Kp.new ft
        have goodP : GoodP ps := by
          have n5 : ps.length ≤ 5 := by omega
          refine ⟨by omega, fun p hp => ?_, ?_⟩
          · obtain ⟨j, hj⟩ := List.getElem?_of_mem hp
            have jl := (List.getElem?_eq_some_iff.mp hj).1
            obtain ⟨z1, z2⟩ := okp j p hj
            rw [z1]
            exact ⟨name6_ok j (by omega), z2⟩
          · rw [List.nodup_iff_pairwise_ne]
            refine List.pairwise_iff_getElem.mpr fun i j hi hj lt e => ?_
            rw [List.length_map] at hi hj
            rw [List.getElem_map, List.getElem_map, (okp i _ (List.getElem?_eq_getElem hi)).1, (okp j _ (List.getElem?_eq_getElem hj)).1] at e
            have z := name6_inj e
            omega
        exact k rs ps t C F _ good goodP (k'.fresh ft) (hB'.upd fun z => hB'.on _ z ft) (k'.trans kt) upd_same ((Dn.lst sC aC' (dR'.weak fun a z => .inl z)).kp kt) ((Dn.lst sF aF' (dP.weak fun a z => .inl z)).kp kt)
end
end Fc
set_option maxHeartbeats 4000000
namespace Fc
open PySem PySem.Spec PyProof.Rows L2
section
variable {P : Program} {w : World} {K : PySem.W.Frag} {mg : Str → Option Value} {base : Heap}
theorem scHeadsL : FnScope ["_law_rule_here", "_law_row"] ["_law_rule_here"] (defScope sHeadsL) := ⟨rfl, rfl, rfl, by decide +kernel, rfl, by decide +kernel, by decide +kernel⟩
theorem ok_headsL (D : DefAt K mg "_law_heads" sHeadsL) (gS : mg "sorted" = none) (gT : mg "set" = none) : C8.Cal P w K mg base 1 "_law_heads" spRuleHeads [] := by
  refine cal_mk D scHeadsL (fun vs H Q E h => ?_) (fun _ _ _ _ _ _ us hl => match us, hl with | [_], _ => rfl) (fun A outer s H vs Q E hr h => ?_)
  · obtain ⟨v, rs, rfl, _⟩ := h
    rfl
  · obtain ⟨v, rs, rfl, hd, hl, k⟩ := h
    obtain ⟨a, xs, rfl, _, ha, hx⟩ := hd.lst_ex
    have hlen : rs.length = xs.length := by rw [hx.len, List.length_map]
    refine ⟨_, pss_one (ps_ret (pe_callB (cr_sortSS rfl) (by rfl) gS boot_sorted (pa_cons (pe_callTy (cr_setS rfl) (by rfl) gT boot_set (pa_cons (pe_op op_cat
      (pe_lc (own := [("_law_row", 1)]) (g := gName 1) (tt := tYes) rfl scHeadsL.nd (pi_list (pv 0)) (blkOk_by (N := ["_law_rule_here", "_law_row"]) (sc := defScope sHeadsL) (by decide +kernel)) (fun _ _ _ _ _ => pg_name (i := 1) scHeadsL.nd rfl (Or.inl rfl))
        (fun _ _ _ _ _ => pts_nil) (fun _ _ _ _ _ => pe_ix (ix_tupK (K := K)) (pv 1) pe_int (fun _ _ => rfl)))
      (pe_lst (pa_cons pe_str pa_nil))) pa_nil)) pa_nil))), ?_⟩
    refine ⟨_, rfl, a, rfl, ⟨_, SqL.of ha⟩, fun D hD => lc_lst (xs := xs) rs (fun _ => true) (fun r => PyData.str r.1) N0 ha hlen (fun _ z => z.elim) hD (by omega) (fun _ => rfl) (fun i r x H2 hr2 hx2 k2 Q2 q2 => q2 H2 Kp.refl) (fun i r x H2 hr2 hx2 _ k2 S' _ _ Q2 q2 => ?_) fun H' out k2 hout hdn => ?_⟩
    · obtain ⟨b, rfl, _, hb⟩ := rowD_ex ((hx.map_at hx2 hr2).kp k2)
      exact ⟨_, rfl, b, _, 0, _, rfl, rfl, SqT.of hb, rfl, q2 _ _ Kp.refl (.str _)⟩
    · rw [List.filter_eq_self.mpr fun _ _ => rfl] at hdn
      have eo : out = (rs.map (·.1)).map V.str := DnA.strs_eq (xs := rs.map (·.1)) (by rw [List.map_map]; exact hdn)
      subst eo
      refine ⟨Nat.le_of_lt (by rw [sizeLine_eq]; exact (by decide : 1 < 16777216)), fun p1 f1 => ?_⟩
      have k3 : Kp N0 H' (upd H' p1 (.lst [.str "rest"])) := Kp.new f1
      refine ⟨D, p1, _, _, rfl, rfl, k3.obj hout ntl nn, upd_same, by rw [List.length_map, List.length_map, sizeLine_eq]; show _ + 1 ≤ _; omega, fun p2 f2 => ?_⟩
      have k4 : Kp N0 H' (upd (upd H' p1 (.lst [.str "rest"])) p2 (.lst ((rs.map (·.1)).map V.str ++ [.str "rest"]))) := k3.trans (Kp.new f2)
      have a4 : (upd (upd H' p1 (.lst [.str "rest"])) p2 (.lst ((rs.map (·.1)).map V.str ++ [.str "rest"]))) p2 = some (.lst ((rs.map (·.1) ++ (["rest"] : List Str)).map V.str)) := by
        rw [upd_same, List.map_append]
        rfl
      generalize upd (upd H' p1 (.lst [.str "rest"])) p2 (.lst ((rs.map (·.1)).map V.str ++ [.str "rest"])) = H4 at k4 a4 ⊢
      have k04 := k2.trans k4
      refine ⟨p2, rs.map (·.1) ++ (["rest"] : List Str), rfl, SqL.of a4, by rw [List.length_append, List.length_map]; show _ + 1 < _; omega, fun q l hq nd hm hll => ⟨q, l, rfl, upd_same, ?_, fun u hu => ?_⟩⟩
      · rw [List.length_append, List.length_map] at hll
        have : ([("rest" : Str)] : List Str).length = 1 := rfl
        omega
      have e : riseS l = ruleHeadsM rs := riseS_congr hm
      rw [e]
      have k5 : Kp N0 H4 (upd (upd H4 q (SetSO w q l)) u (.lst ((ruleHeadsM rs).map V.str))) := (Kp.new hq).trans (Kp.new hu)
      exact k u _ ((k04.trans (Kp.new hq)).fresh hu) (k04.trans k5) upd_same
end
end Fc
set_option maxHeartbeats 4000000
namespace Fc
open PySem PySem.Spec PyProof.Rows L2
section
variable {P : Program} {w : World} {K : PySem.W.Frag} {mg : Str → Option Value} {base : Heap}
theorem scHeldL : FnScope ["_law_rule_here", "_law_marks_here", "_law_found", "_law_head", "_law_needs_here", "_law_bars", "_law_mark"] ["_law_rule_here", "_law_marks_here"] (defScope sHeldL) := ⟨rfl, rfl, rfl, by decide +kernel, rfl, by decide +kernel, by decide +kernel⟩
theorem ok_heldL (D : DefAt K mg "_law_held" sHeldL) (gInt : mg "int" = none) : C8.Cal P w K mg base 1 "_law_held" spHeldL [] := by
  refine cal_mk D scHeldL (fun vs H Q E h => ?_) (fun _ _ _ _ _ _ us hl => match us, hl with | [_, _], _ => rfl) (fun A outer s H vs Q E hr h => ?_)
  · obtain ⟨v, rs, m, rfl, _⟩ := h
    rfl
  · obtain ⟨v, rs, m, rfl, hd, hg, k⟩ := h
    obtain ⟨a, xs, rfl, _, ha, hx⟩ := hd.lst_ex
    have hlen : xs.length = rs.length := by rw [hx.len, List.length_map]
    have few := hg.few
    refine ⟨_, pss_cons (ps_set (i := 2) scHeldL.nd rfl (Or.inl rfl) (pe_lst pa_nil))
      (pss_cons (ps_for PassesOwn.never rfl (pi_list (pv 0)) (pg_tup rfl (pgs_cons (pg_name (i := 3) scHeldL.nd rfl (Or.inl rfl)) (pgs_cons (pg_name (i := 4) scHeldL.nd rfl (Or.inl rfl)) (pgs_cons (pg_name (i := 5) scHeldL.nd rfl (Or.inl rfl)) pgs_nil))))
        (pss_one (ps_if (pt_cmpR (op_eqD (hu64 hr)) (pe_op op_cat
            (pe_lc (own := [("_law_mark", 6)]) (g := gName 6) rfl scHeldL.nd (pi_str (pv 4)) (blkOk_by (N := ["_law_rule_here", "_law_marks_here", "_law_found", "_law_head", "_law_needs_here", "_law_bars", "_law_mark"]) (sc := defScope sHeldL) (by decide +kernel)) (fun _ _ _ _ _ => pg_name (i := 6) scHeldL.nd rfl (Or.inl rfl)) (fun _ _ _ _ _ => pts_one (pt_cmpR op_notIn_sign (pv 6) (pv 1) rfl)) (fun _ _ _ _ _ => pv 6))
            (pe_lc (own := [("_law_mark", 6)]) (g := gName 6) rfl scHeldL.nd (pi_str (pv 5)) (blkOk_by (N := ["_law_rule_here", "_law_marks_here", "_law_found", "_law_head", "_law_needs_here", "_law_bars", "_law_mark"]) (sc := defScope sHeldL) (by decide +kernel)) (fun _ _ _ _ _ => pg_name (i := 6) scHeldL.nd rfl (Or.inl rfl)) (fun _ _ _ _ _ => pts_one (pt_cmpR op_in_sign (pv 6) (pv 1) rfl)) (fun _ _ _ _ _ => pv 6))) (pe_lst pa_nil) (nomark _))
          (pss_one (ps_expr (pe_bm PySem.F.plainAttrs_list PySem.F.slot_list_append PySem.F.type_list_append mt_append (pv 2) (pa_cons (pv 3) pa_nil)))) pss_nil)))
      (pss_one (ps_ret (pe_op op_cat (pv 2) (pe_op op_rep (pe_lst (pa_cons pe_str pa_nil)) (pe_callTy call_int1 (by rfl) gInt PyProof.Rows.boot_int (pa_cons (pe_cmpR (op_eqD (hu64 hr)) (pv 2) (pe_lst pa_nil) (nomark _)) pa_nil))))))), ?_⟩
    refine ⟨Nat.zero_le _, fun F fF => ?_⟩
    refine ⟨_, rfl, a, rfl, ⟨_, SqL.of ((Kp.new fF).obj ha ntl nn)⟩, for_list (K := K) (a := a) (xs := xs) (fun i σ' H' => ∃ o3 o4 o5 : Option V, σ' = [some (.ref a), some (.str m), some (.ref F), o3, o4, o5, none] ∧ Kp N0 H H' ∧ H' F = some (.lst ((heldM (rs.take i) m).map V.str)))
      ⟨none, none, none, rfl, Kp.new fF, upd_same⟩ (fun i σ' H' _ ⟨_, _, _, _, k1, _⟩ => SqL.of (k1.obj ha ntl nn)) (fun i x σ' H' hx2 ⟨o3, o4, o5, es, k1, hF⟩ => ?_) fun σ' H' ⟨o3, o4, o5, es, k1, hF⟩ => ?_⟩
    · subst es
      have hi : i < rs.length := by rw [← hlen]; exact (List.getElem?_eq_some_iff.mp hx2).1
      have hr2 : rs[i]? = some rs[i] := List.getElem?_eq_getElem hi
      have hin : rs[i] ∈ rs := List.getElem_mem hi
      have row := hg.row _ hin
      have tk : rs.take (i + 1) = rs.take i ++ [rs[i]] := by rw [List.take_append_getElem]
      generalize rs[i] = r at hr2 hin row tk
      obtain ⟨b, rfl, _, hb⟩ := rowD_ex ((hx.map_at hx2 hr2).kp k1)
      obtain ⟨l1, l2, l3⟩ := isRowM_len row
      have e2 : ∀ z : Str, z.length = z.cps.toList.length := fun z => by simp [PySem.Str.length]
      rw [e2] at l2 l3
      refine ⟨b, _, rfl, SqT.of hb, rfl, _, _, rfl, _, _, rfl, _, _, rfl, rfl, ?_⟩
      refine ⟨_, rfl, r.2.1, rfl, fun D1 f1 => lc_txt (fun c => !sg m c) (fun c => PyData.str ⟨#[c]⟩) N0 (fun _ z => z.elim) f1 (by omega) (fun _ => rfl) (fun c H9 _ k9 Q2 q => ?_) (fun c H9 _ _ k9 S' _ _ Q2 q => ?_) fun H2 out1 k2 hout1 hdn1 => ?_⟩
      · exact ⟨_, rfl, _, rfl, c, m, rfl, rfl, _, rfl, q H9 Kp.refl⟩
      · exact ⟨_, rfl, q _ H9 Kp.refl (.str _)⟩
      refine ⟨_, rfl, r.2.2, rfl, fun D2 f2 => lc_txt (fun c => sg m c) (fun c => PyData.str ⟨#[c]⟩) N0 (fun _ z => z.elim) f2 (by omega) (fun _ => rfl) (fun c H9 _ k9 Q2 q => ?_) (fun c H9 _ _ k9 S' _ _ Q2 q => ?_) fun H3 out2 k3 hout2 hdn2 => ?_⟩
      · exact ⟨_, rfl, _, rfl, c, m, rfl, rfl, _, rfl, q H9 Kp.refl⟩
      · exact ⟨_, rfl, q _ H9 Kp.refl (.str _)⟩
      rw [signs_map] at hdn1 hdn2
      have eo1 := hdn1.strs_eq
      have eo2 := hdn2.strs_eq
      subst eo1
      subst eo2
      have n1 : (r.2.1.cps.toList.filter fun c => !sg m c).length ≤ 8 := Nat.le_trans (List.length_filter_le _ _) l2
      have n2 : (r.2.2.cps.toList.filter fun c => sg m c).length ≤ 8 := Nat.le_trans (List.length_filter_le _ _) l3
      have ok1 := isRowM_sg row
      refine ⟨D1, D2, _, _, rfl, rfl, k3.obj hout1 ntl nn, hout2, by rw [List.length_map, List.length_map, List.length_map, List.length_map, sizeLine_eq]; omega, fun p fp => ⟨Nat.zero_le _, fun q fq => ?_⟩⟩
      have kq : Kp N0 H' (upd (upd H3 p (.lst (((r.2.1.cps.toList.filter fun c => !sg m c).map fun c => (⟨#[c]⟩ : Str)).map V.str ++ ((r.2.2.cps.toList.filter fun c => sg m c).map fun c => (⟨#[c]⟩ : Str)).map V.str))) q (.lst [])) := k2.trans (k3.trans ((Kp.new fp).trans (Kp.new fq)))
      have hp : (upd (upd H3 p (.lst (((r.2.1.cps.toList.filter fun c => !sg m c).map fun c => (⟨#[c]⟩ : Str)).map V.str ++ ((r.2.2.cps.toList.filter fun c => sg m c).map fun c => (⟨#[c]⟩ : Str)).map V.str))) q (.lst [])) p = some (.lst ((((r.2.1.cps.toList.filter fun c => !sg m c).map fun c => (⟨#[c]⟩ : Str)) ++ ((r.2.2.cps.toList.filter fun c => sg m c).map fun c => (⟨#[c]⟩ : Str))).map V.str)) := by
        rw [upd_ne (ne_of_none upd_same fq), upd_same, List.map_append]
      have hq : (upd (upd H3 p (.lst (((r.2.1.cps.toList.filter fun c => !sg m c).map fun c => (⟨#[c]⟩ : Str)).map V.str ++ ((r.2.2.cps.toList.filter fun c => sg m c).map fun c => (⟨#[c]⟩ : Str)).map V.str))) q (.lst [])) q = some (.lst []) := upd_same
      generalize upd (upd H3 p _) q (.lst []) = H4 at kq hp hq ⊢
      have eh : ((((r.2.1.cps.toList.filter fun c => !sg m c).map fun c => (⟨#[c]⟩ : Str)) ++ ((r.2.2.cps.toList.filter fun c => sg m c).map fun c => (⟨#[c]⟩ : Str)))).isEmpty = holdsM r m := by
        rw [isE_app, List.isEmpty_map, List.isEmpty_map, filt_all, filt_any]
        rfl
      refine ⟨.list (_), .list [], .lst (SqL.of hp) (dpS _), .lst (SqL.of hq) .nil, shapedS _ (fun z hz => ?_), by decide, ?_⟩
      · have key : ∀ c : Nat, c ∈ a2h.cps.toList → PyData.strOk ⟨#[c]⟩ = true := fun c hc => strOk_of fun d hd => by
          have e : d = c := by simpa using hd
          rw [e]
          exact Nat.lt_trans (a2h_small c hc) (by decide)
        rcases List.mem_append.mp hz with q | q
        · obtain ⟨c, hc, e⟩ := List.mem_map.mp q
          rw [← e]
          exact key c (ok1.1 c (List.mem_filter.mp hc).1)
        · obtain ⟨c, hc, e⟩ := List.mem_map.mp q
          rw [← e]
          exact key c (ok1.2 c (List.mem_filter.mp hc).1)
      rw [eqvS_nil, eh]
      refine ⟨_, rfl, ?_⟩
      cases c : holdsM r m with
      | false =>
        refine iteF ⟨_, _, _, rfl, k1.trans kq, ?_⟩
        rw [tk, kq.obj hF ntl nn]
        unfold heldM
        rw [List.filter_append, List.filter_cons, if_neg (by rw [c]; exact Bool.false_ne_true)]
        simp
      | true =>
        refine iteT ?_
        have hF4 := kq.obj hF ntl nn
        have small : (heldM (rs.take i) m).length ≤ 12 := Nat.le_trans (heldM_len _ _) (Nat.le_trans (List.length_take_le _ _) (by omega))
        refine ⟨_, rfl, .inl ⟨rfl, _, SqL.of hF4⟩, _, rfl, F, _, _, rfl, rfl, hF4, by rw [List.length_map, sizeLine_eq]; omega, ?_⟩
        refine ⟨_, _, _, rfl, (k1.trans kq).mut fF, ?_⟩
        rw [upd_same, tk]
        unfold heldM
        rw [List.filter_append, List.filter_cons, if_pos c]
        simp
    · subst es
      rw [hlen, List.take_length] at hF
      have small := heldM_len rs m
      refine ⟨_, rfl, (by rw [sizeLine_eq]; exact (by decide : 1 ≤ 16777216)), fun p fp => ⟨_, rfl, Nat.zero_le _, fun q fq => ?_⟩⟩
      have kq : Kp N0 H' (upd (upd H' p (.lst [V.str "rest"])) q (.lst [])) := (Kp.new fp).trans (Kp.new fq)
      have hp : (upd (upd H' p (.lst [V.str "rest"])) q (.lst [])) p = some (.lst [V.str "rest"]) := by rw [upd_ne (ne_of_none upd_same fq), upd_same]
      have hq : (upd (upd H' p (.lst [V.str "rest"])) q (.lst [])) q = some (.lst []) := upd_same
      generalize upd (upd H' p _) q (.lst []) = H4 at kq hp hq ⊢
      have hF4 := kq.obj hF ntl nn
      refine ⟨.list (_), .list [], .lst (SqL.of hF4) (dpS _), .lst (SqL.of hq) .nil, shapedS _ (fun z hz => ?_), by decide, ?_⟩
      · obtain ⟨r, hr2, e⟩ := List.mem_map.mp hz
        have row := hg.row r (List.mem_filter.mp hr2).1
        rw [← e]
        exact isRowM_ok row
      rw [eqvS_nil]
      refine .inr ⟨_, rfl, ?_⟩
      refine ⟨p, _, _, rfl, rfl, hp, by split <;> decide, by split <;> decide, by split <;> (rw [sizeLine_eq]; decide), fun u fu => ?_⟩
      have ku : Kp N0 H' (upd H4 u (.lst (List.replicate (if (heldM rs m).isEmpty = true then (1 : Int) else 0).toNat [V.str "rest"]).flatten)) := kq.trans (Kp.new fu)
      have hu : (upd H4 u (.lst (List.replicate (if (heldM rs m).isEmpty = true then (1 : Int) else 0).toNat [V.str "rest"]).flatten)) u = some (.lst (List.replicate (if (heldM rs m).isEmpty = true then (1 : Int) else 0).toNat [V.str "rest"]).flatten) := upd_same
      generalize upd H4 u _ = H5 at ku hu ⊢
      have hF5 := ku.obj hF ntl nn
      have e : (heldM rs m).map V.str ++ (List.replicate (if (heldM rs m).isEmpty = true then (1 : Int) else 0).toNat [V.str "rest"]).flatten = (turnM rs m).map V.str := by
        unfold turnM
        cases c : (heldM rs m).isEmpty with
        | true =>
          rw [if_pos rfl, if_pos rfl, List.isEmpty_iff.mp c]
          rfl
        | false =>
          rw [if_neg Bool.false_ne_true, if_neg Bool.false_ne_true]
          simp
      have len := turnM_len rs m
      refine ⟨F, u, _, _, rfl, rfl, hF5, hu, ?_, fun x fx => ?_⟩
      · rw [← List.length_append, e, List.length_map, sizeLine_eq]
        omega
      · rw [e]
        exact k x _ ((k1.trans ku).fresh fx) ((k1.trans ku).trans (Kp.new fx)) upd_same
end
end Fc
set_option maxHeartbeats 4000000
namespace Fc
open PySem PySem.Spec PyProof.Rows L2
section
variable {P : Program} {w : World} {K : PySem.W.Frag} {mg : Str → Option Value} {base : Heap}
theorem scNeedsL : FnScope ["_law_rule_here", "_law_papers_here", "_law_found", "_law_name", "_law_marks_here", "_law_held_here", "_law_head"] ["_law_rule_here", "_law_papers_here"] (defScope sNeedsL) := ⟨rfl, rfl, rfl, by decide +kernel, rfl, by decide +kernel, by decide +kernel⟩
theorem ok_needsL (D : DefAt K mg "_law_needs" sNeedsL) (C1 : C8.Cal P w K mg base 1 "_law_held" spHeldL []) (gS : mg "sorted" = none) (gT : mg "set" = none) : C8.Cal P w K mg base 2 "_law_needs" spNeedsL [] := by
  refine cal_mk D scNeedsL (fun vs H Q E h => ?_) (fun _ _ _ _ _ _ us hl => match us, hl with | [_, _], _ => rfl) (fun A outer s H vs Q E hr h => ?_)
  · obtain ⟨v, u, rs, ps, rfl, _⟩ := h
    rfl
  · obtain ⟨v, u, rs, ps, rfl, hd, hp, hg, hgp, k⟩ := h
    refine ⟨_, pss_cons (ps_set (i := 2) scNeedsL.nd rfl (Or.inl rfl) (pe_lst pa_nil))
      (pss_cons (ps_for PassesOwn.never rfl (pi_list (pv 1)) (pg_tup rfl (pgs_cons (pg_name (i := 3) scNeedsL.nd rfl (Or.inl rfl)) (pgs_cons (pg_name (i := 4) scNeedsL.nd rfl (Or.inl rfl)) pgs_nil)))
        (pss_cons (ps_set (i := 5) scNeedsL.nd rfl (Or.inr rfl) (C8.pe_c C1 hr (by decide) rfl (pa_cons (pv 0) (pa_cons (pv 4) pa_nil))))
        (pss_one (ps_set (i := 2) scNeedsL.nd rfl (Or.inl rfl) (pe_op op_cat (pv 2) (pe_lc (own := [("_law_head", 6)]) (g := gName 6) rfl scNeedsL.nd (pi_list (pv 5)) (blkOk_by (N := ["_law_rule_here", "_law_papers_here", "_law_found", "_law_name", "_law_marks_here", "_law_held_here", "_law_head"]) (sc := defScope sNeedsL) (by decide +kernel)) (fun _ _ _ _ _ => pg_name (i := 6) scNeedsL.nd rfl (Or.inl rfl))
          (fun _ _ _ _ _ => pts_one (pt_cmpR op_ne (pv 6) (pe_ix (ix_listK (K := K)) (pv 5) pe_int (fun _ _ => rfl)) (nomark _))) (fun _ _ _ _ _ => pe_tup (pa_cons (pv 6) (pa_cons (pe_ix (ix_listK (K := K)) (pv 5) pe_int (fun _ _ => rfl)) pa_nil)))))))))
      (pss_one (ps_ret (pe_callB (cr_sortPS rfl) (by rfl) gS boot_sorted (pa_cons (pe_callTy (cr_setPPK (K := K) rfl rfl (hu64 hr)) (by rfl) gT boot_set (pa_cons (pv 2) pa_nil)) pa_nil))))), ?_⟩
    have sz : ∀ n : Nat, n ≤ 1000 → n ≤ sizeLine := fun n h => by rw [sizeLine_eq]; omega
    have few := hg.few
    have fewp := hgp.few
    refine ⟨Nat.zero_le _, fun F fF => ?_⟩
    have k0 : Kp N0 H (upd H F (.lst [])) := Kp.new fF
    have aF0 : (upd H F (.lst [])) F = some (.lst []) := upd_same
    generalize upd H F (.lst []) = H0 at k0 aF0 ⊢
    obtain ⟨a, xs, rfl, _, ha, hx⟩ := hp.lst_ex
    have hlen : xs.length = ps.length := by rw [hx.len, List.length_map]
    refine ⟨_, rfl, a, rfl, ⟨_, SqL.of (k0.obj ha ntl nn)⟩, for_list (K := K) (a := a) (xs := xs) (fun i σ' H' => ∃ (C : Addr) (zs : List V) (o3 o4 o5 o6 : Option V), σ' = [some v, some (.ref a), some (.ref C), o3, o4, o5, o6] ∧ Kp N0 H H' ∧ H' C = some (.lst zs) ∧ zs.length ≤ 13 * i ∧ DnA N0 H' zs (((ps.take i).flatMap fun p => needsT rs p.2).map paperD))
      ⟨F, [], _, _, _, _, rfl, k0, aF0, Nat.zero_le _, .nil⟩ (fun i σ' H' _ ⟨_, _, _, _, _, _, _, k', _⟩ => SqL.of (k'.obj ha ntl nn)) (fun i x σ' H' hx2 ⟨C, zs, o3, o4, o5, o6, es, k1, aC, lz, dz⟩ => ?_) fun σ' H' ⟨C, zs, o3, o4, o5, o6, es, k1, aC, lz, dz⟩ => ?_⟩
    · subst es
      have hi : i < ps.length := by
        have q := (List.getElem?_eq_some_iff.mp hx2).1
        omega
      have ep : ps[i]? = some ps[i] := List.getElem?_eq_getElem hi
      have tk : ps.take (i + 1) = ps.take i ++ [ps[i]] := by rw [List.take_append_getElem]
      generalize ps[i] = q at ep tk
      obtain ⟨t, rfl, _, at0⟩ := paperD_ex ((hx.map_at hx2 ep).kp k1)
      refine ⟨t, _, rfl, SqT.of at0, rfl, _, _, rfl, _, _, rfl, rfl, ?_⟩
      refine ⟨_, rfl, _, rfl, v, rs, q.2, rfl, hd.kp k1, hg, fun B H1 fB k2 aB => ?_⟩
      have lt := turnM_len rs q.2
      refine ⟨_, rfl, _, rfl, B, rfl, ⟨_, SqL.of aB⟩, fun M fM => lc_gen (walk_list (xs := (turnM rs q.2).map V.str)) (turnM rs q.2) (by rw [List.length_map]) (fun h => decide (h ≠ mainM rs q.2)) (fun h => paperD (h, mainM rs q.2)) N0 (fun _ z => z.elim) fM (by rw [List.length_map]; omega) (fun H' k' => SqL.of (k'.obj aB ntl nn)) (fun j h x H7 H7' hp2 k7 y Kt kt => ?_) fun H7 out k7 aM hdn => ?_⟩
      · obtain ⟨rfl, hx3⟩ := y
        rw [List.getElem?_map, hp2] at hx3
        have ex : V.str h = x := Option.some.inj hx3
        subst ex
        have ef : (!decide (V.str h = V.str (mainM rs q.2))) = decide (h ≠ mainM rs q.2) := by simp
        have aB7 := k7.obj aB ntl nn
        have main0 : atI ((turnM rs q.2).map V.str) 0 = some (V.str (mainM rs q.2)) := atI_nat (j := 0) (by rw [List.getElem?_map, turnM_0]; rfl)
        refine kt _ _ Kp.refl rfl (fun Q2 q2 => ⟨_, rfl, _, rfl, B, _, 0, _, rfl, rfl, SqL.of aB7, main0, rfl, _, rfl, ?_⟩) fun _ H8 k8 S' _ hS' Q2 q2 => ?_
        · rw [ef]
          exact q2 _ Kp.refl
        · exact ⟨_, rfl, _, rfl, B, _, 0, _, rfl, rfl, SqL.of (k8.obj aB7 ntl nn), main0, sz 2 (by decide), fun U fU => q2 _ _ (Kp.new fU) (.tup (fun z => hS' _ z fU) upd_same (DnA.strs [h, mainM rs q.2]))⟩
      · have aC7 := k7.obj (k2.obj aC ntl nn) ntl nn
        have lo : out.length = (needsT rs q.2).length := by rw [hdn.len]; unfold needsT; rw [List.length_map, List.length_map]
        have ln := needsT_len rs q.2
        have k17 := k2.trans k7
        refine ⟨C, M, _, _, rfl, rfl, aC7, aM, by rw [sizeLine_eq]; omega, fun X fX => ?_⟩
        refine ⟨X, zs ++ out, _, _, _, _, rfl, (k1.trans k17).trans (Kp.new fX), upd_same, by rw [List.length_append]; omega, ?_⟩
        rw [tk, List.flatMap_append, List.map_append]
        show DnA _ _ _ (_ ++ List.map paperD (needsT rs q.2 ++ []))
        rw [List.append_nil]
        have d2 : DnA N0 H7 out ((needsT rs q.2).map paperD) := by
          unfold needsT
          rw [List.map_map]
          exact hdn.weak fun _ z => z.elim
        exact ((dz.kp k17).app d2).kp (Kp.new fX)
    · subst es
      rw [hlen, List.take_length] at dz
      obtain ⟨Ds, d1, d2⟩ := pairs_few hg
      have sub : ∀ p ∈ ps.flatMap (fun p => needsT rs p.2), p ∈ Ds := fun p hp => by
        obtain ⟨q, _, hq⟩ := List.mem_flatMap.mp hp
        obtain ⟨_, _, _, h4, h5⟩ := needs_from (needsT_mem.mp hq)
        exact d2 p h4 h5
      refine ⟨_, rfl, N0, C, zs, _, rfl, SqL.of aC, dz, ⟨Ds, d1, sub⟩, fun a2 L ha2 hL hall nd => ?_⟩
      refine ⟨N0, a2, L, rfl, upd_same, fun q hq => ⟨nn, (by rw [upd_ne (fun e => by have z := (hL q hq).2.2; rw [e, ha2] at z; cases z)]; exact (hL q hq).2.2)⟩, nd, fun ys p dn hp => ?_⟩
      have er : riseP (L.map (·.2)) = neededM rs ps := (riseP_congr fun x => ⟨fun z => by
        obtain ⟨q, hq, e⟩ := List.mem_map.mp z
        rw [← e]
        exact (hL q hq).2.1, fun z => hall x z⟩).trans neededT
      rw [er] at dn
      refine k p _ ((k1.trans (Kp.new ha2)).trans (Kp.new hp)) ⟨(k1.trans (Kp.new ha2)).fresh hp, ys, upd_same, ?_⟩
      exact (DnA.offs (fun a e => by rw [e]; exact hp) dn).kp (Kp.new hp)
end
end Fc
set_option maxHeartbeats 4000000
/-! Rules as texts. -/
namespace Fc
open PySem PySem.Spec PyProof.Rows L2
def dashM (m : Str) : Str := if m = "" then "-" else m
def rowT (r : Row) : Str := (((r.1 ++ " ") ++ dashM r.2.1) ++ " ") ++ dashM r.2.2
def ruleT (rs : List Row) : Str := Txt.join "\n" (rs.map rowT)
theorem join3 (a b c : Str) : Txt.join " " [a, b, c] = (((a ++ " ") ++ b) ++ " ") ++ c := by
  have e : [a, b, c] = [a.cps.toList, b.cps.toList, c.cps.toList].map SX.S := by
    show [a, b, c] = [SX.S a.cps.toList, SX.S b.cps.toList, SX.S c.cps.toList]
    rw [← show a = SX.S a.cps.toList from oS_eq rfl, ← show b = SX.S b.cps.toList from oS_eq rfl, ← show c = SX.S c.cps.toList from oS_eq rfl]
  have e0 : (" " : Str) = SX.S [32] := rfl
  rw [e]
  conv => lhs; rw [e0]
  rw [SX.join_S]
  refine str_ext ?_
  show (oS (TL.joinL [32] [a.cps.toList, b.cps.toList, c.cps.toList])).cps.toList = _
  rw [oS_cps, add_cps, add_cps, add_cps, add_cps]
  show a.cps.toList ++ ([32] ++ (b.cps.toList ++ ([32] ++ c.cps.toList))) = (((a.cps.toList ++ [32]) ++ b.cps.toList) ++ [32]) ++ c.cps.toList
  simp only [List.append_assoc]
theorem join_row (r : Row) : Txt.join " " [r.1, dashM r.2.1, dashM r.2.2] = rowT r := join3 _ _ _
theorem word_sg {t : Str} (h : isWordM t = true) : (∀ c ∈ t.cps.toList, c ∈ abc.cps.toList) ∧ t ≠ "" := by
  rw [isWord_small] at h
  unfold isSmallM at h
  simp only [Bool.and_eq_true, Bool.not_eq_true', decide_eq_true_eq, decide_eq_false_iff_not] at h
  refine ⟨fun c hc => ?_, h.1.1⟩
  have z := List.all_eq_true.mp h.1.2 c hc
  exact of_decide_eq_true z
theorem a2h_abc : ∀ c ∈ a2h.cps.toList, c ∈ abc.cps.toList := by decide +kernel
theorem dash_sg {m : Str} (h : isMarksM m = true) : ∀ c ∈ (dashM m).cps.toList, c ∈ abc.cps.toList ∨ c = 45 := fun c hc => by
  unfold dashM at hc
  split at hc
  · have e : (("-" : Str)).cps.toList = [45] := by decide
    rw [e] at hc
    exact .inr (List.mem_singleton.mp hc)
  · exact .inl (a2h_abc c (isMarksM_sub h c hc))
theorem abc_plain : ∀ c ∈ abc.cps.toList, c ≠ 32 ∧ c ≠ 10 := by decide +kernel
theorem row_parts {r : Row} (h : isRowM r = true) : isWordM r.1 = true ∧ isMarksM r.2.1 = true ∧ isMarksM r.2.2 = true := by
  unfold isRowM at h
  simp only [Bool.and_eq_true] at h
  exact ⟨h.1.1, h.2.1.1, h.2.1.2⟩
theorem part_sg {r : Row} (h : isRowM r = true) : ∀ p ∈ [r.1, dashM r.2.1, dashM r.2.2], ∀ c ∈ p.cps.toList, c ≠ 32 ∧ c ≠ 10 := fun p hp c hc => by
  obtain ⟨h1, h2, h3⟩ := row_parts h
  have d : c ∈ abc.cps.toList ∨ c = 45 := by
    simp only [List.mem_cons, List.not_mem_nil, or_false] at hp
    rcases hp with e | e | e
    · rw [e] at hc
      exact .inl ((word_sg h1).1 c hc)
    · rw [e] at hc
      exact dash_sg h2 c hc
    · rw [e] at hc
      exact dash_sg h3 c hc
  rcases d with z | z
  · exact abc_plain c z
  · rw [z]
    exact ⟨by decide, by decide⟩
theorem row_split {r : Row} (h : isRowM r = true) : Txt.split (rowT r) " " = [r.1, dashM r.2.1, dashM r.2.2] := by
  rw [← join_row]
  exact TL.split_join (s := 32) (S := []) (by decide +kernel) (by decide +kernel) (by simp) fun p hp c => (part_sg h p hp 32 c).1 rfl
theorem rowT_sg {r : Row} (h : isRowM r = true) : (10 : Nat) ∉ (rowT r).cps.toList := fun hc => by
  have p := part_sg h
  unfold rowT at hc
  rw [add_cps, add_cps, add_cps, add_cps] at hc
  have e : ((" " : Str)).cps.toList = [32] := by decide
  rw [e] at hc
  simp only [List.mem_append, List.mem_singleton] at hc
  rcases hc with ((((z | z) | z) | z) | z)
  · exact (p r.1 (by simp) 10 z).2 rfl
  · cases z
  · exact (p (dashM r.2.1) (by simp) 10 z).2 rfl
  · cases z
  · exact (p (dashM r.2.2) (by simp) 10 z).2 rfl
theorem rule_split {rs : List Row} (h : ∀ r ∈ rs, isRowM r = true) (ne : rs ≠ []) : Txt.split (ruleT rs) "\n" = rs.map rowT := by
  unfold ruleT
  refine TL.split_join (s := 10) (S := []) (by decide +kernel) (by decide +kernel) (fun e => ne (List.map_eq_nil_iff.mp e)) fun p hp => ?_
  obtain ⟨r, hr, e⟩ := List.mem_map.mp hp
  rw [← e]
  exact rowT_sg (h r hr)
theorem dash_len {m : Str} (h : m.length ≤ 8) : (dashM m).length ≤ 8 := by
  unfold dashM
  split
  · decide
  · exact h
theorem rowT_len {r : Row} (h : isRowM r = true) : (rowT r).length ≤ 24 ∧ 1 ≤ (rowT r).length := by
  obtain ⟨l1, l2, l3⟩ := isRowM_len h
  have d2 := dash_len l2
  have d3 := dash_len l3
  have e : ((" " : Str)).cps.toList = [32] := by decide
  rw [len_cps] at l1 d2 d3 ⊢
  unfold rowT
  rw [add_cps, add_cps, add_cps, add_cps, e]
  simp only [List.length_append, List.length_singleton]
  omega
theorem joinL_len (s : Nat) : ∀ l : List (List Nat), (TL.joinL [s] l).length ≤ (l.map List.length).sum + l.length
  | [] => Nat.le_refl _
  | [p] => by show p.length ≤ p.length + 0 + 1; omega
  | p :: q :: r => by
    have ih := joinL_len s (q :: r)
    show (p ++ ([s] ++ TL.joinL [s] (q :: r))).length ≤ _
    rw [List.length_append, List.length_append]
    simp only [List.map_cons, List.sum_cons, List.length_cons, List.length_nil] at ih ⊢
    omega
theorem rows_sum {rs : List Row} (h : ∀ r ∈ rs, isRowM r = true) : ((rs.map rowT).map (·.length)).sum ≤ 24 * rs.length := by
  induction rs with
  | nil => exact Nat.le_refl _
  | cons r rs ih =>
    have i := ih fun x hx => h x (List.mem_cons_of_mem _ hx)
    have l := (rowT_len (h r List.mem_cons_self)).1
    rw [List.map_cons, List.map_cons, List.sum_cons, List.length_cons]
    omega
theorem ruleT_eq (rs : List Row) : (ruleT rs).cps.toList = TL.joinL [10] ((rs.map rowT).map fun z => z.cps.toList) := by
  unfold ruleT
  have e : rs.map rowT = ((rs.map rowT).map fun z => z.cps.toList).map SX.S := by
    rw [List.map_map]
    exact (List.map_id _).symm.trans (List.map_congr_left fun z _ => (oS_eq (z := z) rfl))
  have e0 : ("\n" : Str) = SX.S [10] := rfl
  have z := SX.join_S [10] ((rs.map rowT).map fun z => z.cps.toList)
  rw [← e, ← e0] at z
  rw [z]
theorem ruleT_len {rs : List Row} (h : ∀ r ∈ rs, isRowM r = true) : (ruleT rs).length ≤ 25 * rs.length := by
  rw [len_cps, ruleT_eq]
  have z := joinL_len 10 ((rs.map rowT).map fun z => z.cps.toList)
  have s := rows_sum h
  have e : (((rs.map rowT).map fun z => z.cps.toList).map List.length) = (rs.map rowT).map (·.length) := by
    rw [List.map_map]
    exact List.map_congr_left fun x _ => (len_cps x).symm
  rw [e, List.length_map, List.length_map] at z
  omega
theorem ruleT_pos {r : Row} {rs : List Row} (h : isRowM r = true) : 1 ≤ (ruleT (r :: rs)).length := by
  rw [len_cps, ruleT_eq]
  have l := (rowT_len h).2
  rw [len_cps] at l
  cases rs with
  | nil => exact l
  | cons q rs =>
    show 1 ≤ ((rowT r).cps.toList ++ ([10] ++ TL.joinL [10] _)).length
    rw [List.length_append]
    omega
theorem small_word {t : Str} (h : isWordM t = true) : isSmallM t = true := by
  rw [isWord_small, Bool.and_eq_true] at h
  exact h.1
theorem dash_small {m : Str} (h : isMarksM m = true) : (decide (dashM m = "-") || isSmallM (dashM m)) = true := by
  unfold dashM
  split
  · rfl
  · rename_i ne
    have e : isSmallM m = true := by
      unfold isSmallM
      rw [Bool.and_eq_true]
      refine ⟨by simpa using ne, List.all_eq_true.mpr fun c hc => decide_eq_true (a2h_abc c (isMarksM_sub h c hc))⟩
    rw [e, Bool.or_true]
theorem dash_back {m : Str} (h : isMarksM m = true) : (if dashM m = "-" then ("" : Str) else dashM m) = m := by
  unfold dashM
  by_cases e : m = ""
  · rw [if_pos e, if_pos rfl, e]
  · rw [if_neg e, if_neg]
    intro z
    have c : (45 : Nat) ∈ a2h.cps.toList := isMarksM_sub h 45 (by rw [z]; decide)
    exact absurd c (by decide)
theorem ruleT_ok {rs : List Row} (h : ∀ r ∈ rs, isRowM r = true) : (ruleT rs).cps.size ≤ 25 * rs.length := ruleT_len h
theorem ruleD_small {rs : List Row} (g : GoodR rs) : PyData.depth (ruleD rs) < 3 ∧ PyData.weight (ruleD rs) ≤ 1000000 := by
  have few := g.few
  have key : ∀ l : List Row, (∀ r ∈ l, isRowM r = true) → PyData.depthAll (l.map rowD) ≤ 1 ∧ PyData.weightAll (l.map rowD) ≤ 100 * l.length := by
    intro l
    induction l with
    | nil => exact fun _ => ⟨by simp [PyData.depthAll], by simp [PyData.weightAll]⟩
    | cons r l ih =>
      intro h
      obtain ⟨i1, i2⟩ := ih fun x hx => h x (List.mem_cons_of_mem _ hx)
      obtain ⟨l1, l2, l3⟩ := isRowM_len (h r List.mem_cons_self)
      have e : ∀ z : Str, z.length = z.cps.size := fun _ => rfl
      rw [e] at l1 l2 l3
      simp only [List.map_cons, PyData.depthAll, PyData.weightAll, rowD, PyData.depth, PyData.weight, List.length_cons]
      omega
  obtain ⟨a, b⟩ := key rs g.row
  unfold ruleD
  simp only [PyData.depth, PyData.weight]
  omega
section
variable {X : Cx}
theorem pe_conv {e : Expr} {t t' : TE} (h : PE X e t) (c : ∀ σ H Q, t' σ H Q → t σ H Q) : PE X e t' :=
  ⟨fun pins s σ H Q I h' => h.run pins s σ H Q I (c σ H Q h')⟩
end
/-- what stands for marks in a text, of the name in slot i -/
def dashT (i : Nat) : TE := fun σ H Q => ∃ m : Str, σ[i]? = some (some (.str m)) ∧ m.length ≤ 1000 ∧ ∀ H', Kp N0 H H' → Q (.str (dashM m)) H'
theorem dash_tru {K : PySem.W.Frag} {H : Hp} {m : Str} (hm : m.length ≤ 1000) : ∃ k, TruV K (.str m) H k ∧ ((k = true ∧ dashM m = m) ∨ (k = false ∧ dashM m = "-")) := by
  refine ⟨_, ⟨by rw [sizeLine_eq]; omega, rfl⟩, ?_⟩
  unfold dashM
  by_cases e : m = ""
  · rw [if_pos e]
    subst e
    exact .inr ⟨rfl, rfl⟩
  · rw [if_neg e]
    have ne : m.length ≠ 0 := fun z => e (str_ext (by
      have y : m.cps.toList.length = 0 := by rw [← len_cps]; exact z
      rw [List.length_eq_zero_iff.mp y]
      rfl))
    exact .inl ⟨by simpa using ne, rfl⟩
theorem dash_pick (m : Str) : atI [V.str "-", V.str m] (if (!decide (V.str m = V.str "")) = true then 1 else 0) = some (V.str (dashM m)) := by
  unfold dashM
  by_cases e : m = ""
  · subst e
    rfl
  · rw [if_neg e, if_pos (by simpa using e)]
    rfl
/-! ### what is promised -/
def spWrittenRow : Sp := fun vs H Q _ => ∃ (v : V) (r : Row), vs = [v] ∧ Dn N0 H v (rowD r) ∧ isRowM r = true ∧ ∀ H', Kp N0 H H' → Q (.str (rowT r)) H'
def spWritten (T : List Addr) : Sp := fun vs H Q _ => ∃ (v : V) (rs : List Row), vs = [v] ∧ Dn N0 H v (ruleD rs) ∧ GoodR rs ∧ Tbs T H ∧ ∀ H', Kp N0 H H' → Q (.str (ruleT rs)) H'
def spTextL : Sp := fun vs H Q _ => ∃ (v : V) (rs : List Row), vs = [v] ∧ Dn N0 H v (ruleD rs) ∧ GoodR rs ∧ ∀ H', Kp N0 H H' → Q (.str (ruleT rs)) H'
def spMarksWord (T : List Addr) : Sp := fun vs H Q _ => ∃ t : Str, vs = [.str t] ∧ Tbs T H ∧ ∀ H', Kp N0 H H' → Q (.bl (decide (t = "-") || isSmallM t)) H'
def spReadMarks : Sp := fun vs H Q _ => ∃ t : Str, vs = [.str t] ∧ ∀ H', Kp N0 H H' → Q (.str (if t = "-" then "" else t)) H'
def spReadRow (T : List Addr) : Sp := fun vs H Q _ => ∃ (n : Int) (r : Row), vs = [.int n, .str (rowT r)] ∧ isRowM r = true ∧ Tbs T H ∧ ∀ t H', H t = none → Kp N0 H H' → H' t = some (.tup [.str r.1, .str r.2.1, .str r.2.2]) → Q (.ref t) H'
def spReadRule (T : List Addr) : Sp := fun vs H Q _ => ∃ (rs : List Row), vs = [.str (ruleT rs)] ∧ GoodR rs ∧ Tbs T H ∧ ∀ p H', H p = none → Kp N0 H H' → Dn N0 H' (.ref p) (ruleD rs) → Q (.ref p) H'
end Fc
set_option maxHeartbeats 4000000
/-! One sheet taken out of the right cabinet, or laid elsewhere. -/
namespace Fc
open PySem PySem.Spec PyProof.Rows L2
/-- who lies where behind a deed -/
theorem step_iff {f : Str → List Str} {n b e x h : Str} (ok : b = "" ∨ n ∈ f b) : x ∈ stepD f (n, b, e) h ↔ (x ∈ f h ∧ ¬ (h = b ∧ b ≠ "" ∧ x = n)) ∨ (h = e ∧ e ≠ "" ∧ x = n) := by
  have tk : ∀ y, x ∈ takeOut f n b y ↔ x ∈ f y ∧ ¬ (y = b ∧ b ≠ "" ∧ x = n) := fun y => by
    unfold takeOut
    by_cases cb : b = ""
    · rw [if_pos cb]
      exact ⟨fun z => ⟨z, fun q => q.2.1 cb⟩, fun z => z.1⟩
    · rw [if_neg cb]
      show x ∈ (if y = b then (f b).filter (fun x => !decide (x = n)) else f y) ↔ _
      by_cases c : y = b
      · rw [if_pos c, List.mem_filter, c]
        constructor
        · rintro ⟨z1, z2⟩
          have z3 : x ≠ n := by simpa using z2
          exact ⟨z1, fun q => z3 q.2.2⟩
        · rintro ⟨z1, z2⟩
          have z3 : x ≠ n := fun q => z2 ⟨rfl, cb, q⟩
          exact ⟨z1, by simpa using z3⟩
      · rw [if_neg c]
        exact ⟨fun z => ⟨z, fun q => c q.1⟩, fun z => z.1⟩
  unfold stepD
  rw [if_pos ok]
  show x ∈ putIn (takeOut f n b) n e h ↔ _
  unfold putIn
  by_cases ce : e = ""
  · rw [if_pos ce, tk]
    exact ⟨.inl, fun z => z.elim id fun q => (q.2.1 ce).elim⟩
  · rw [if_neg ce]
    show x ∈ (if h = e then riseS (takeOut f n b e ++ [n]) else takeOut f n b h) ↔ _
    by_cases c : h = e
    · rw [if_pos c, riseS_mem, List.mem_append, List.mem_singleton, tk, c]
      exact ⟨fun z => z.elim .inl fun q => .inr ⟨rfl, ce, q⟩, fun z => z.elim .inl fun q => .inr q.2.2⟩
    · rw [if_neg c, tk]
      exact ⟨.inl, fun z => z.elim id fun q => (c q.1).elim⟩
theorem inD_iff {rs : List Row} {ps : List P2} {x h : Str} : x ∈ inDrawer rs ps h ↔ ∃ p ∈ ps, p.1 = x ∧ mainM rs p.2 = h := by
  unfold inDrawer
  rw [riseS_mem, List.mem_map]
  constructor
  · rintro ⟨p, hp, e⟩
    obtain ⟨h1, h2⟩ := List.mem_filter.mp hp
    exact ⟨p, h1, e, of_decide_eq_true h2⟩
  · rintro ⟨p, h1, e, h2⟩
    exact ⟨p, List.mem_filter.mpr ⟨h1, decide_eq_true h2⟩, e⟩
theorem nd_paper {ps : List P2} (nd : (ps.map (·.1)).Nodup) {p q : P2} (hp : p ∈ ps) (hq : q ∈ ps) (e : p.1 = q.1) : p = q := by
  obtain ⟨i, hi, ei⟩ := List.getElem_of_mem hp
  obtain ⟨j, hj, ej⟩ := List.getElem_of_mem hq
  have z := nd_at nd (i := i) (j := j) (x := p.1) (by rw [List.getElem?_map, List.getElem?_eq_getElem hi, ei]; rfl) (by rw [List.getElem?_map, List.getElem?_eq_getElem hj, ej, e]; rfl)
  subst z
  rw [← ei, ← ej]
theorem inD_paper {rs : List Row} {ps : List P2} (nd : (ps.map (·.1)).Nodup) {p : P2} (hp : p ∈ ps) {h : Str} : p.1 ∈ inDrawer rs ps h ↔ h = mainM rs p.2 := by
  rw [inD_iff]
  constructor
  · rintro ⟨q, hq, e, e2⟩
    rw [← nd_paper nd hq hp e]
    exact e2.symm
  · intro e
    exact ⟨p, hp, rfl, e.symm⟩
theorem isRowM_word {r : Row} (h : isRowM r = true) : isWordM r.1 = true := by
  unfold isRowM at h
  exact (Bool.and_eq_true_iff.mp (Bool.and_eq_true_iff.mp h).1).1
theorem heads_ne {rs : List Row} (g : GoodR rs) : ∀ h ∈ ruleHeadsM rs, h ≠ "" := fun h hh e => by
  rcases List.mem_append.mp ((riseS_mem _ _).mp hh) with z | z
  · obtain ⟨r, hr, q⟩ := List.mem_map.mp z
    have w := g.row r hr
    have w2 := isRowM_word w
    rw [q, e] at w2
    exact absurd w2 (by decide +kernel)
  · rw [List.mem_singleton.mp z] at e
    exact absurd e (by decide)
theorem fm_one {α β : Type} {g : α → List β} {p : α} : ∀ {l : List α}, l.Nodup → p ∈ l → (∀ q ∈ l, q ≠ p → g q = []) → l.flatMap g = g p
  | [], _, h, _ => by cases h
  | q :: l, nd, h, k => by
    obtain ⟨n1, n2⟩ := List.nodup_cons.mp nd
    rw [List.flatMap_cons]
    by_cases e : q = p
    · have z : l.flatMap g = [] := List.flatMap_eq_nil_iff.mpr fun x hx => k x (List.mem_cons_of_mem _ hx) fun c => n1 (by rw [e, ← c]; exact hx)
      rw [z, e, List.append_nil]
    · rw [k q List.mem_cons_self e, List.nil_append]
      refine fm_one n2 ?_ fun x hx => k x (List.mem_cons_of_mem _ hx)
      rcases List.mem_cons.mp h with z | z
      · exact (e z.symm).elim
      · exact z
theorem sort3_one (r : Row) : sort3 [r] = [r] := List.perm_singleton.mp (sort3_perm [r])
theorem filter_one {l : List Str} {x : Str} (nd : l.Nodup) (hx : x ∈ l) : l.filter (fun h => decide (h = x)) = [x] := by
  have z1 : ∀ y ∈ l.filter (fun h => decide (h = x)), y = x := fun y hy => of_decide_eq_true (List.mem_filter.mp hy).2
  have z2 := nd.filter fun h => decide (h = x)
  have z3 : x ∈ l.filter (fun h => decide (h = x)) := List.mem_filter.mpr ⟨hx, decide_eq_true rfl⟩
  generalize l.filter (fun h => decide (h = x)) = m at z1 z2 z3
  match m, z1, z2, z3 with
  | [], _, _, z3 => cases z3
  | [a], z1, _, _ => rw [z1 a List.mem_cons_self]
  | a :: b :: r, z1, z2, _ =>
    have e : a = b := (z1 a List.mem_cons_self).trans (z1 b (List.mem_cons_of_mem _ List.mem_cons_self)).symm
    exact absurd (List.mem_cons_self (a := b) (l := r)) (by rw [← e]; exact fun c => (List.nodup_cons.mp z2).1 (by rw [← e]; exact List.mem_cons_self))
section
variable {rs : List Row} {ps : List P2} {p : P2} {there : Str}
/-- the cabinet with one sheet elsewhere -/
noncomputable def oneF (rs : List Row) (ps : List P2) (p : P2) (there : Str) : Str → List Str := doneF (inDrawer rs ps) [(p.1, mainM rs p.2, there)]
theorem one_iff (hg : GoodR rs) (q : GoodP ps) (hp : p ∈ ps) {x h : Str} : x ∈ oneF rs ps p there h ↔ (x ∈ inDrawer rs ps h ∧ ¬ (h = mainM rs p.2 ∧ x = p.1)) ∨ (h = there ∧ there ≠ "" ∧ x = p.1) := by
  have mne := heads_ne hg _ (main_in rs p.2)
  show x ∈ stepD (inDrawer rs ps) (p.1, mainM rs p.2, there) h ↔ _
  rw [step_iff (.inr ((inD_paper q.nd hp).mpr rfl))]
  refine or_congr (and_congr Iff.rfl (not_congr ⟨fun z => ⟨z.1, z.2.2⟩, fun z => ⟨z.1, mne, z.2⟩⟩)) Iff.rfl
theorem one_self (hg : GoodR rs) (q : GoodP ps) (hp : p ∈ ps) {h : Str} : p.1 ∈ oneF rs ps p there h ↔ h = there ∧ there ≠ "" := by
  rw [one_iff hg q hp]
  constructor
  · rintro (⟨z1, z2⟩ | z)
    · exact (z2 ⟨(inD_paper q.nd hp).mp z1, rfl⟩).elim
    · exact ⟨z.1, z.2.1⟩
  · rintro ⟨z1, z2⟩
    exact .inr ⟨z1, z2, rfl⟩
theorem one_other (hg : GoodR rs) (q : GoodP ps) (hp : p ∈ ps) {r : P2} (hr : r ∈ ps) (ne : r.1 ≠ p.1) {h : Str} : r.1 ∈ oneF rs ps p there h ↔ h = mainM rs r.2 := by
  rw [one_iff hg q hp, ← inD_paper (rs := rs) q.nd hr (h := h)]
  exact ⟨fun z => z.elim (fun y => y.1) fun y => (ne y.2.2).elim, fun z => .inl ⟨z, fun y => ne y.2⟩⟩
theorem one_name (hg : GoodR rs) (q : GoodP ps) (hp : p ∈ ps) {x h : Str} (hx : x ∈ oneF rs ps p there h) : x ∈ ps.map (·.1) := by
  rcases (one_iff hg q hp).mp hx with ⟨z, _⟩ | ⟨_, _, z⟩
  · obtain ⟨r, hr, e, _⟩ := inD_iff.mp z
    exact List.mem_map.mpr ⟨r, hr, e⟩
  · exact List.mem_map.mpr ⟨p, hp, z.symm⟩
theorem inD_len (q : GoodP ps) (h : Str) : (inDrawer rs ps h).length ≤ 12 := by
  have z := riseS_len ((ps.filter fun p => decide (mainM rs p.2 = h)).map (·.1))
  rw [List.length_map] at z
  have y := List.length_filter_le (fun p : P2 => decide (mainM rs p.2 = h)) ps
  have l := q.few
  unfold inDrawer
  omega
theorem inD_good (q : GoodP ps) : GoodC rs (inDrawer rs ps) :=
  ⟨fun h _ x hx => by
    obtain ⟨r, hr, e, _⟩ := inD_iff.mp hx
    rw [← e]
    exact (q.ok r hr).1, fun h _ => riseS_rs _, fun h _ => Nat.le_trans (inD_len q h) (by decide)⟩
theorem one_ok (ht : there = "" ∨ there ∈ ruleHeadsM rs) : DeedsOk (ruleHeadsM rs) [(p.1, mainM rs p.2, there)] := fun d hd => by
  rw [List.mem_singleton.mp hd]
  exact ⟨.inr (main_in rs p.2), ht⟩
theorem one_good (hg : GoodR rs) (q : GoodP ps) (hp : p ∈ ps) (ht : there = "" ∨ there ∈ ruleHeadsM rs) : GoodC rs (oneF rs ps p there) := by
  refine ⟨fun h _ x hx => ?_, fun h hh => done_rs (hs := ruleHeadsM rs) _ (fun _ _ => riseS_rs _) h hh, fun h hh => ?_⟩
  · obtain ⟨r, hr, e⟩ := List.mem_map.mp (one_name hg q hp hx)
    rw [← e]
    exact (q.ok r hr).1
  · have z := done_len (hs := ruleHeadsM rs) [(p.1, mainM rs p.2, there)] (f := inDrawer rs ps) (N := 12) (fun h _ => inD_len q h) (one_ok ht) h hh
    exact Nat.le_trans z (by show 12 + 1 ≤ 100; decide)
/-- what is amiss: that sheet -/
def wrongR (rs : List Row) (p : P2) (there : Str) : Row := (p.1, (if there = "" then ("gone" : Str) else "astray"), (if there = "" then mainM rs p.2 else there))
theorem one_amiss (hg : GoodR rs) (q : GoodP ps) (hp : p ∈ ps) (ht : there = "" ∨ there ∈ ruleHeadsM rs) (hne : there ≠ mainM rs p.2) : amissF rs ps (oneF rs ps p there) = [wrongR rs p there] := by
  have e1 : strangeM (ruleHeadsM rs) ps (oneF rs ps p there) = [] := by
    refine List.flatMap_eq_nil_iff.mpr fun h _ => ?_
    unfold strangeH
    rw [List.map_eq_nil_iff, List.filter_eq_nil_iff]
    intro x hx c
    have z := one_name hg q hp hx
    rw [decide_eq_true z] at c
    cases c
  have e2 : ps.flatMap (amissP rs (oneF rs ps p there)) = amissP rs (oneF rs ps p there) p := by
    refine fm_one (List.Pairwise.of_map (·.1) (fun a b h e => h (congrArg (·.1) e)) q.nd) hp fun r hr ne => ?_
    have n1 : r.1 ≠ p.1 := fun e => ne (nd_paper q.nd hr hp e)
    have ho := order_ex hg r.2
    have el : liesM rs (oneF rs ps p there) r.1 r.2 = [mainM rs r.2] := by
      unfold liesM
      rw [show (fun h => decide (r.1 ∈ oneF rs ps p there h)) = fun h => decide (h = mainM rs r.2) from funext fun h => decide_eq_decide.mpr (one_other hg q hp hr n1)]
      exact filter_one (orderM_nd ho) ((orderM_mem ho _).mpr (main_in rs r.2))
    unfold amissP
    rw [el]
    show _ ++ (if mainM rs r.2 = mainM rs r.2 then [] else _) = []
    rw [if_pos rfl]
    rfl
  have e3 : amissP rs (oneF rs ps p there) p = [wrongR rs p there] := by
    have ho := order_ex hg p.2
    have ef : (fun h => decide (p.1 ∈ oneF rs ps p there h)) = fun h => decide (h = there ∧ there ≠ "") := funext fun h => decide_eq_decide.mpr (one_self hg q hp)
    unfold amissP wrongR
    by_cases c : there = ""
    · have el : liesM rs (oneF rs ps p there) p.1 p.2 = [] := by
        unfold liesM
        rw [ef, List.filter_eq_nil_iff]
        intro x _ z
        exact (of_decide_eq_true z).2 c
      rw [el, if_pos c, if_pos c]
      rfl
    · have el : liesM rs (oneF rs ps p there) p.1 p.2 = [there] := by
        unfold liesM
        rw [ef, show (fun h => decide (h = there ∧ there ≠ "")) = fun h => decide (h = there) from funext fun h => decide_eq_decide.mpr ⟨fun z => z.1, fun z => ⟨z, c⟩⟩]
        exact filter_one (orderM_nd ho) ((orderM_mem ho _).mpr (ht.resolve_left c))
      rw [el, if_neg c, if_neg c]
      show _ ++ (if there = mainM rs p.2 then [] else _) = _
      rw [if_neg hne]
      rfl
  unfold amissF amissA
  rw [e1, e2, e3, List.nil_append, sort3_one]
theorem one_mended (hg : GoodR rs) (q : GoodP ps) (hp : p ∈ ps) (ht : there = "" ∨ there ∈ ruleHeadsM rs) (hne : there ≠ mainM rs p.2) : mendedF rs ps (oneF rs ps p there) = [(p.1, there, mainM rs p.2)] := by
  unfold mendedF
  rw [one_amiss hg q hp ht hne]
  show sort3 [deedM (mainsF rs ps) (wrongR rs p there)] = _
  rw [sort3_one]
  unfold wrongR deedM
  by_cases c : there = ""
  · rw [if_pos c, if_pos c, if_pos rfl, c]
  · rw [if_neg c, if_neg c, if_neg (show ¬ ("astray" : Str) = "gone" by decide), if_pos rfl]
    show [(p.1, there, mainsF rs ps p.1)] = _
    rw [mains_at q.nd hp]
/-- and back -/
theorem one_back (hg : GoodR rs) (q : GoodP ps) (hp : p ∈ ps) (hne : there ≠ mainM rs p.2) : ∀ h ∈ ruleHeadsM rs, doneF (oneF rs ps p there) [(p.1, there, mainM rs p.2)] h = inDrawer rs ps h := fun h hh => by
  have mne := heads_ne hg _ (main_in rs p.2)
  have r1 : Rs (doneF (oneF rs ps p there) [(p.1, there, mainM rs p.2)] h) := done_rs (hs := ruleHeadsM rs) _ (fun h hh => done_rs (hs := ruleHeadsM rs) _ (fun _ _ => riseS_rs _) h hh) h hh
  refine Rs.uniq r1 (riseS_rs _) fun x => ?_
  show x ∈ stepD (oneF rs ps p there) (p.1, there, mainM rs p.2) h ↔ x ∈ inDrawer rs ps h
  have ok : there = "" ∨ p.1 ∈ oneF rs ps p there there := by
    by_cases c : there = ""
    · exact .inl c
    · exact .inr ((one_self hg q hp).mpr ⟨rfl, c⟩)
  rw [step_iff ok, one_iff hg q hp]
  constructor
  · rintro (⟨(⟨z, _⟩ | z), y⟩ | ⟨z1, _, z2⟩)
    · exact z
    · exact (y z).elim
    · rw [z2, z1]
      exact (inD_paper q.nd hp).mpr rfl
  · intro z
    by_cases c : x = p.1
    · rw [c] at z ⊢
      exact .inr ⟨(inD_paper q.nd hp).mp z, mne, rfl⟩
    · exact .inl ⟨.inl ⟨z, fun y => c y.2⟩, fun y => c y.2.2⟩
theorem one_seen (hg : GoodR rs) (q : GoodP ps) (hp : p ∈ ps) (ht : there = "" ∨ there ∈ ruleHeadsM rs) (hne : there ≠ mainM rs p.2) :
    (orderF rs p.2).find? (fun h => decide (p.1 ∈ oneF rs ps p there h)) = (if there = "" then none else some there) ∧ (upTo (fun h => decide (p.1 ∈ oneF rs ps p there h)) (orderF rs p.2))[0]? = some (mainM rs p.2) ∧ (there = "" → upTo (fun h => decide (p.1 ∈ oneF rs ps p there h)) (orderF rs p.2) = orderF rs p.2) := by
  have ho := order_ex hg p.2
  have h0 := order_first (q.ok p hp).2 ho
  have ef : (fun h => decide (p.1 ∈ oneF rs ps p there h)) = fun h => decide (h = there ∧ there ≠ "") := funext fun h => decide_eq_decide.mpr (one_self hg q hp)
  rw [ef]
  by_cases c : there = ""
  · have fl : ∀ h, decide (h = there ∧ there ≠ "") = false := fun h => decide_eq_false fun z => z.2 c
    have u := upTo_none (p := fun h => decide (h = there ∧ there ≠ "")) (l := orderF rs p.2) fun x _ => fl x
    refine ⟨?_, by rw [u]; exact h0, fun _ => u⟩
    rw [if_pos c]
    exact List.find?_eq_none.mpr fun x _ => by rw [fl x]; exact Bool.false_ne_true
  · rw [if_neg c, show (fun h => decide (h = there ∧ there ≠ "")) = fun h => decide (h = there) from funext fun h => decide_eq_decide.mpr ⟨fun z => z.1, fun z => ⟨z, c⟩⟩]
    obtain ⟨j, hj⟩ := List.getElem?_of_mem ((orderM_mem ho there).mpr (ht.resolve_left c))
    obtain ⟨u1, u2⟩ := find_head (orderM_nd ho) hj
    refine ⟨u2, ?_, fun z => (c z).elim⟩
    rw [u1]
    cases j with
    | zero =>
      rw [h0] at hj
      exact (hne (Option.some.inj hj).symm).elim
    | succ j =>
      have jl := (List.getElem?_eq_some_iff.mp hj).1
      rw [List.getElem?_append_left (by rw [List.length_take]; omega), List.getElem?_take, if_pos (Nat.succ_pos j)]
      exact h0
theorem one_seen2 (hg : GoodR rs) (q : GoodP ps) (hp : p ∈ ps) {r : P2} (hr : r ∈ ps) (ne : r.1 ≠ p.1) :
    (orderF rs r.2).find? (fun h => decide (r.1 ∈ oneF rs ps p there h)) = some (mainM rs r.2) ∧ upTo (fun h => decide (r.1 ∈ oneF rs ps p there h)) (orderF rs r.2) = [mainM rs r.2] := by
  have ho := order_ex hg r.2
  have h0 := order_first (q.ok r hr).2 ho
  rw [show (fun h => decide (r.1 ∈ oneF rs ps p there h)) = fun h => decide (h = mainM rs r.2) from funext fun h => decide_eq_decide.mpr (one_other hg q hp hr ne)]
  obtain ⟨u1, u2⟩ := find_head (orderM_nd ho) h0
  exact ⟨u2, u1⟩
end
theorem rows_shaped : ∀ l : List Row, (∀ t ∈ l, PyData.strOk t.1 = true ∧ PyData.strOk t.2.1 = true ∧ PyData.strOk t.2.2 = true) → PyData.canLayAll0 (l.map rowD) = true ∧ PyData.depthAll (l.map rowD) ≤ 1
  | [], _ => ⟨by simp [PyData.canLayAll0], by simp [PyData.depthAll]⟩
  | t :: l, h => by
    obtain ⟨i1, i2⟩ := rows_shaped l fun x hx => h x (List.mem_cons_of_mem _ hx)
    obtain ⟨a, b, c⟩ := h t List.mem_cons_self
    refine ⟨?_, ?_⟩
    · rw [List.map_cons, PyData.canLayAll0, i1, Bool.and_true]
      simp [rowD, PyData.canLay0, PyData.canLayAll0, a, b, c]
    · rw [List.map_cons, PyData.depthAll]
      simp only [rowD, PyData.depth, PyData.depthAll]
      omega
theorem row_shaped {t : Row} (a : PyData.strOk t.1 = true) (b : PyData.strOk t.2.1 = true) (c : PyData.strOk t.2.2 = true) : SeqAt.shaped (.list [rowD t]) = true := by
  unfold SeqAt.shaped
  rw [Bool.and_eq_true]
  obtain ⟨h1, h2⟩ := rows_shaped [t] fun x hx => by rw [List.mem_singleton.mp hx]; exact ⟨a, b, c⟩
  refine ⟨?_, decide_eq_true ?_⟩
  · rw [PyData.canLay0]
    exact h1
  · simp only [PyData.depth]
    simp only [List.map_cons, List.map_nil] at h2
    omega
def pickT (i : Nat) (a b : Str) : TE := fun σ H Q => ∃ x : Str, σ[i]? = some (some (.str x)) ∧ Q (.str (if x = "" then a else b)) H
def pickV (i j : Nat) : TE := fun σ H Q => ∃ x y : Str, σ[i]? = some (some (.str x)) ∧ σ[j]? = some (some (.str y)) ∧ Q (.str (if x = "" then y else x)) H
def pickN (i : Nat) : TE := fun σ H Q => ∃ x : Str, σ[i]? = some (some (.str x)) ∧ Q (if x = "" then .non else .str x) H
end Fc
set_option maxHeartbeats 4000000
/-! Found by heads. -/
namespace Fc
open PySem PySem.Spec PyProof.Rows L2
section
variable {X : Cx} {tg e : Expr} {a b : TI}
theorem pi_or (h1 : PI X tg e a) (h2 : PI X tg e b) : PI X tg e (fun σ H Q => a σ H Q ∨ b σ H Q) := ⟨fun pins s σ H R I h => h.elim (fun z => h1.run pins s σ H R I z) fun z => h2.run pins s σ H R I z⟩
end
def spHasAll (T : List Addr) : Sp := fun vs H Q _ => ∃ (a b : Addr) (hs ss : List Str), vs = [.ref a, .ref b] ∧ H a = some (.lst (hs.map V.str)) ∧ (H b = some (.lst (ss.map V.str)) ∨ H b = some (.tup (ss.map V.str))) ∧ Tbs T H ∧ ∀ H', Kp N0 H H' → Q (.bl (ss.all fun x => decide (x ∈ hs))) H'
/-- the first of the fewest heads that none of the others has all of -/
def lackedM (oss : List (List Str)) (s : List Str) : Bool := !oss.any fun o => s.all fun x => decide (x ∈ o)
def fewerM (hs : List Str) : List (List Str) := (List.range hs.length).flatMap fun k => combs k hs
def aloneM (hs : List Str) (oss : List (List Str)) : List Str := ((fewerM hs).find? (lackedM oss)).getD hs
def spAlone (T : List Addr) : Sp := fun vs H Q _ => ∃ (a b : Addr) (hs : List Str) (bs : List Addr) (oss : List (List Str)), vs = [.ref a, .ref b] ∧ H a = some (.lst (hs.map V.str)) ∧ hs.length ≤ 13 ∧ H b = some (.lst (bs.map V.ref)) ∧ bs.length = oss.length ∧ (∀ (j : Nat) (c : Addr) (o : List Str), bs[j]? = some c → oss[j]? = some o → H c = some (.lst (o.map V.str))) ∧ Tbs T H ∧
  ∀ p H', H p = none → Kp N0 H H' → H' p = some (.lst ((aloneM hs oss).map V.str)) → Q (.ref p) H'
theorem any_range {α : Type} (P : α → Bool) (d : α) (l : List α) : (List.range l.length).any (fun i => P (l.getD i d)) = l.any P := by
  have e : (List.range l.length).map (fun k => l.getD k d) = l := by
    refine List.ext_getElem (by simp) fun i h1 h2 => ?_
    simp [List.getD, h2]
  have z : ((List.range l.length).map fun k => l.getD k d).any P = l.any P := by rw [e]
  rw [List.any_map] at z
  exact z
theorem fewer_at {hs : List Str} {i j : Nat} {s : List Str} (hi : i < hs.length) (h : (combs i hs)[j]? = some s) : ∃ B, fewerM hs = (((List.range i).flatMap fun k => combs k hs) ++ (combs i hs).take j) ++ s :: B := by
  have e1 : List.range hs.length = List.range i ++ (i :: (List.range hs.length).drop (i + 1)) := by
    conv => lhs; rw [← List.take_append_drop i (List.range hs.length)]
    rw [List.take_range, Nat.min_eq_left (by omega)]
    congr 1
    rw [List.drop_eq_getElem_cons (by rw [List.length_range]; omega), List.getElem_range]
  have e2 : combs i hs = (combs i hs).take j ++ (s :: (combs i hs).drop (j + 1)) := by
    obtain ⟨hl, he⟩ := List.getElem?_eq_some_iff.mp h
    conv => lhs; rw [← List.take_append_drop j (combs i hs)]
    rw [List.drop_eq_getElem_cons hl, he]
  unfold fewerM
  rw [e1, List.flatMap_append, List.flatMap_cons]
  conv => enter [1, B, 1, 2, 1]; rw [e2]
  exact ⟨(combs i hs).drop (j + 1) ++ ((List.range hs.length).drop (i + 1)).flatMap (fun k => combs k hs), by simp only [List.append_assoc, List.cons_append]⟩
theorem all_range {α : Type} (P : α → Bool) (d : α) (l : List α) : (List.range l.length).all (fun i => P (l.getD i d)) = l.all P := by
  have e : (List.range l.length).map (fun k => l.getD k d) = l := by
    refine List.ext_getElem (by simp) fun i h1 h2 => ?_
    simp [List.getD, h2]
  have z : ((List.range l.length).map fun k => l.getD k d).all P = l.all P := by rw [e]
  rw [List.all_map] at z
  exact z
end Fc
set_option maxHeartbeats 4000000
/-! Pairs of a number and a list of texts in order. -/
namespace Fc
open PySem PySem.Spec PyProof.Rows L2
/-- one list of texts stands ahead of another -/
def lexT : List Str → List Str → Bool
  | _, [] => false
  | [], _ :: _ => true
  | x :: xs, y :: ys => if x = y then lexT xs ys else ltS x y
theorem lexT_irr : ∀ l : List Str, lexT l l = false
  | [] => rfl
  | x :: l => by
    unfold lexT
    rw [if_pos rfl]
    exact lexT_irr l
theorem lexT_tri : ∀ a b : List Str, lexT a b = true ∨ a = b ∨ lexT b a = true
  | [], [] => .inr (.inl rfl)
  | [], _ :: _ => .inl rfl
  | _ :: _, [] => .inr (.inr rfl)
  | x :: a, y :: b => by
    unfold lexT
    by_cases e : x = y
    · subst e
      rw [if_pos rfl, if_pos rfl]
      rcases lexT_tri a b with z | z | z
      · exact .inl z
      · exact .inr (.inl (by rw [z]))
      · exact .inr (.inr z)
    · rw [if_neg e, if_neg (fun z => e z.symm)]
      rcases ltS_tri x y with z | z | z
      · exact .inl z
      · exact (e z).elim
      · exact .inr (.inr z)
theorem lexT_trans : ∀ {a b c : List Str}, lexT a b = true → lexT b c = true → lexT a c = true
  | _, [], _, h, _ => by unfold lexT at h; cases h
  | _, _ :: _, [], _, k => by unfold lexT at k; cases k
  | [], _ :: _, _ :: _, _, _ => rfl
  | x :: a, y :: b, z :: c, h, k => by
    unfold lexT at h k ⊢
    by_cases e1 : x = y
    · subst e1
      rw [if_pos rfl] at h
      by_cases e2 : x = z
      · rw [if_pos e2] at k ⊢
        exact lexT_trans h k
      · rw [if_neg e2] at k ⊢
        exact k
    · rw [if_neg e1] at h
      by_cases e2 : y = z
      · subst e2
        rw [if_neg e1]
        exact h
      · rw [if_neg e2] at k
        have t := ltS_trans h k
        rw [if_neg]
        · exact t
        · intro e
          subst e
          have q := ltS_asym h
          rw [k] at q
          cases q
abbrev NT := Int × List Str
def lexN (p q : NT) : Bool := if p.1 = q.1 then lexT p.2 q.2 else decide (p.1 < q.1)
theorem lexN_irr (p : NT) : lexN p p = false := by
  unfold lexN
  rw [if_pos rfl]
  exact lexT_irr _
theorem lexN_tri (p q : NT) : lexN p q = true ∨ p = q ∨ lexN q p = true := by
  obtain ⟨p1, p2⟩ := p
  obtain ⟨q1, q2⟩ := q
  unfold lexN
  by_cases e : p1 = q1
  · subst e
    rw [if_pos rfl, if_pos rfl]
    rcases lexT_tri p2 q2 with z | z | z
    · exact .inl z
    · exact .inr (.inl (by rw [z]))
    · exact .inr (.inr z)
  · rw [if_neg e, if_neg (fun z => e z.symm)]
    rcases Int.lt_trichotomy p1 q1 with z | z | z
    · exact .inl (decide_eq_true z)
    · exact (e z).elim
    · exact .inr (.inr (decide_eq_true z))
theorem lexN_trans {p q r : NT} (h : lexN p q = true) (k : lexN q r = true) : lexN p r = true := by
  obtain ⟨p1, p2⟩ := p
  obtain ⟨q1, q2⟩ := q
  obtain ⟨r1, r2⟩ := r
  unfold lexN at h k ⊢
  dsimp only at h k ⊢
  by_cases e1 : p1 = q1
  · subst e1
    rw [if_pos rfl] at h
    by_cases e2 : p1 = r1
    · rw [if_pos e2] at k ⊢
      exact lexT_trans h k
    · rw [if_neg e2] at k ⊢
      exact k
  · rw [if_neg e1] at h
    have h' := of_decide_eq_true h
    by_cases e2 : q1 = r1
    · subst e2
      rw [if_neg e1]
      exact h
    · rw [if_neg e2] at k
      have k' := of_decide_eq_true k
      rw [if_neg (by omega)]
      exact decide_eq_true (by omega)
theorem lexN_asym {p q : NT} (h : lexN p q = true) : lexN q p = false := by
  cases z : lexN q p with
  | false => rfl
  | true =>
    have t := lexN_trans h z
    rw [lexN_irr] at t
    cases t
theorem swo_lexN {α : Type} (k : α → NT) : SrtO.Swo fun v u => lexN (k v) (k u) := by
  refine ⟨fun x y h => lexN_asym h, fun x y z h1 h2 => ?_⟩
  show lexN (k z) (k x) = false
  cases c : lexN (k z) (k x) with
  | false => rfl
  | true =>
    have h1' : lexN (k y) (k x) = false := h1
    have h2' : lexN (k z) (k y) = false := h2
    rcases lexN_tri (k x) (k y) with q | q | q
    · have t := lexN_trans c q
      rw [t] at h2'
      cases h2'
    · rw [q] at c
      rw [c] at h2'
      cases h2'
    · rw [q] at h1'
      cases h1'
theorem srtdN_uniq {l m : List NT} (hl : SrtO.Srtd (fun v u => lexN v u) l) (hm : SrtO.Srtd (fun v u => lexN v u) m) (p : l.Perm m) : l = m := by
  refine List.Perm.eq_of_pairwise (le := fun a b => lexN b a = false) (fun a b _ _ h1 h2 => ?_) hl hm p
  rcases lexN_tri a b with z | z | z
  · rw [z] at h2
    cases h2
  · exact z
  · rw [z] at h1
    cases h1
/-! ### how the program compares them -/
/-- at the address a: a list of these texts -/
def TextsL (h : Heap) (v : Value) (l : List Str) : Prop := ∃ (a : Addr) (its : Array Value), v = .ref a ∧ h.IsList a its ∧ its.size = l.length ∧ ∀ (j : Nat) (x : Value), its[j]? = some x → ∃ y t, l[j]? = some y ∧ x = .str y t
theorem firstLt_lex {x y : List Str} (hl : x.length = y.length) : PySem.SeqAt.firstLt (fun j => decide (x.getD j "" = y.getD j "")) (fun j => ltS (x.getD j "") (y.getD j "")) false (List.range x.length) = lexT x y := by
  have key : ∀ (k i : Nat), i + k = x.length → PySem.SeqAt.firstLt (fun j => decide (x.getD j "" = y.getD j "")) (fun j => ltS (x.getD j "") (y.getD j "")) false ((List.range x.length).drop i) = lexT (x.drop i) (y.drop i) := by
    intro k
    induction k with
    | zero =>
      intro i e
      rw [List.drop_eq_nil_of_le (by rw [List.length_range]; omega), List.drop_eq_nil_of_le (by omega : x.length ≤ i), List.drop_eq_nil_of_le (by omega : y.length ≤ i)]
      rfl
    | succ k ih =>
      intro i e
      have hx : i < x.length := by omega
      have hy : i < y.length := by omega
      rw [List.drop_eq_getElem_cons (by rw [List.length_range]; omega : i < (List.range x.length).length), List.getElem_range, List.drop_eq_getElem_cons hx, List.drop_eq_getElem_cons hy]
      have ex : x.getD i "" = x[i] := by simp [List.getD, hx]
      have ey : y.getD i "" = y[i] := by simp [List.getD, hy]
      unfold lexT PySem.SeqAt.firstLt
      rw [ih (i + 1) (by omega), ex, ey]
      by_cases q : x[i] = y[i]
      · rw [if_pos (decide_eq_true q), if_pos q]
      · rw [if_neg (by simpa using q), if_neg q]
  exact key x.length 0 (by omega)
section
variable {prog : Program} {w : World} {A : Around} {s : Shared}
theorem TextsL.item {h : Heap} {a : Addr} {its : Array Value} {l : List Str} (e : its.size = l.length) (hx : ∀ (j : Nat) (x : Value), its[j]? = some x → ∃ y t, l[j]? = some y ∧ x = .str y t) {j : Nat} (hj : j < its.size) : ∃ t, its[j] = .str (l.getD j "") t := by
  obtain ⟨y, t, h1, h2⟩ := hx j its[j] (Array.getElem?_eq_getElem hj)
  exact ⟨t, by rw [h2]; simp [List.getD, h1]⟩
theorem texts_eq {v u : Value} {x y : List Str} (h1 : TextsL s.heap v x) (h2 : TextsL s.heap u y) (hl : x.length = y.length) (hu : A.units < cLine) : PySem.SeqAt.EqAt A s v u (decide (x = y)) := by
  obtain ⟨a, its, rfl, ha, ea, xa⟩ := h1
  obtain ⟨b, jts, rfl, hb, eb, xb⟩ := h2
  by_cases q : a = b
  · subst q
    have ei : its = jts := by
      obtain ⟨o, h1, _, n, h2⟩ := ha
      obtain ⟨o', h3, _, n', h4⟩ := hb
      rw [h1] at h3
      cases h3
      rw [h2] at h4
      cases h4
      rfl
    subst ei
    have exy : x = y := by
      refine List.ext_getElem hl fun j p1 p2 => ?_
      obtain ⟨t, e1⟩ := TextsL.item (a := a) (h := s.heap) ea xa (j := j) (by omega)
      obtain ⟨u, e2⟩ := TextsL.item (a := a) (h := s.heap) eb xb (j := j) (by omega)
      rw [e1] at e2
      have e3 := (Value.str.inj e2).1
      simpa [List.getD, p1, p2] using e3
    rw [decide_eq_true exy]
    exact PySem.SeqAt.EqAt.same _
  · have z := PySem.SeqAt.EqAt.of_refs q (PySem.SeqAt.RcAt.lists (A := A) (e := fun j => (x.getD j "" == y.getD j "")) ha hb (by omega) hu fun j p1 p2 => by
      obtain ⟨t, e1⟩ := TextsL.item (a := a) (h := s.heap) ea xa p1
      obtain ⟨u, e2⟩ := TextsL.item (a := b) (h := s.heap) eb xb p2
      rw [e1, e2]
      exact PySem.SeqAt.EqAt.str_str _ t _ u)
    have e : (List.range its.size).all (fun j => (x.getD j "" == y.getD j "")) = decide (x = y) := by
      rw [ea]
      rw [Bool.eq_iff_iff, List.all_eq_true, decide_eq_true_eq]
      refine ⟨fun k => List.ext_getElem hl fun j p1 p2 => ?_, fun k j _ => by rw [k]; exact beq_self_eq_true _⟩
      have z := beq_iff_eq.mp (k j (List.mem_range.mpr p1))
      simpa [List.getD, p1, p2] using z
    rw [e] at z
    exact z
theorem texts_lt {v u : Value} {x y : List Str} (h1 : TextsL s.heap v x) (h2 : TextsL s.heap u y) (hl : x.length = y.length) (hu : A.units < cLine) : PySem.SeqAt.RcLt A s v u (lexT x y) := by
  obtain ⟨a, its, rfl, ha, ea, xa⟩ := h1
  obtain ⟨b, jts, rfl, hb, eb, xb⟩ := h2
  have z := PySem.SeqAt.RcLt.lists (A := A) (e := fun j => decide (x.getD j "" = y.getD j "")) (r := fun j => ltS (x.getD j "") (y.getD j "")) ha hb hu (fun j p1 p2 => by
      obtain ⟨t, e1⟩ := TextsL.item (a := a) (h := s.heap) ea xa p1
      obtain ⟨u, e2⟩ := TextsL.item (a := b) (h := s.heap) eb xb p2
      rw [e1, e2]
      have k := PySem.SeqAt.EqAt.str_str (A := A.in1) (s := s) (x.getD j "") t (y.getD j "") u
      have ek : (x.getD j "" == y.getD j "") = decide (x.getD j "" = y.getD j "") := by
        rw [Bool.eq_iff_iff, beq_iff_eq, decide_eq_true_eq]
      rw [ek] at k
      exact k) (fun j p1 p2 _ => by
      obtain ⟨t, e1⟩ := TextsL.item (a := a) (h := s.heap) ea xa p1
      obtain ⟨u, e2⟩ := TextsL.item (a := b) (h := s.heap) eb xb p2
      rw [e1, e2]
      exact fun prog w E Q h => PyProof.Rows.lt_str h)
  have e1 : min its.size jts.size = x.length := by omega
  have e2 : decide (its.size < jts.size) = false := decide_eq_false (by omega)
  rw [e1, e2, firstLt_lex hl] at z
  exact z
/-- v: a tuple of the number and a list of the texts, as many -/
def NumT (h : Heap) (v : Value) (p : NT) : Prop := ∃ a o t u n, v = .ref a ∧ h.get? a = some o ∧ o.cls = .type "tuple" ∧ o.data = .seq #[.int p.1 t, u] n ∧ TextsL h u p.2 ∧ p.1 = p.2.length
theorem num_heads {h : Heap} (k : Value → NT) (vs : List Value) (hp : ∀ v ∈ vs, NumT h v (k v)) : ∃ fs : List Value, PySem.W.KatTups h vs fs ∧ fs.length = vs.length ∧ ∀ f ∈ fs, ∃ x t, f = Value.int x t := by
  induction vs with
  | nil => exact ⟨[], PySem.W.KatTups.nil, rfl, fun _ hm => nomatch hm⟩
  | cons v vs ih =>
    obtain ⟨fs, h1, h2, h3⟩ := ih fun v' hm => hp v' (List.mem_cons_of_mem _ hm)
    obtain ⟨a, o, t, u, n, e, ho, hc, hd, _⟩ := hp v List.mem_cons_self
    rw [e]
    refine ⟨.int (k v).1 t :: fs, PySem.W.KatTups.cons ho hc hd rfl h1, congrArg (· + 1) h2, fun f hm => ?_⟩
    rcases List.mem_cons.mp hm with z | z
    · exact ⟨_, t, z⟩
    · exact h3 f z
theorem num_cmp {vs : List Value} {k : Value → NT} (hu : A.units < cLine) (hp : ∀ v ∈ vs, NumT s.heap v (k v)) : SrtO.Cmp prog w A s (tuples' true) (fun p => p.1 ∈ vs) (SrtO.lt2 fun v u => lexN (k v) (k u)) := by
  intro p q hm hm'
  have h1 := hp _ hm
  have h2 := hp _ hm'
  show wpAny (model prog w) A (keyLt' (tuples' true) p.1 q.1) (fun r s' => s' = s ∧ r = lexN (k p.1) (k q.1)) (fun _ _ => False) s
  generalize k p.1 = x at h1 ⊢
  generalize k q.1 = y at h2 ⊢
  obtain ⟨x1, x2⟩ := x
  obtain ⟨y1, y2⟩ := y
  obtain ⟨a, o, t, u, n, e, ho, hc, hd, tu, en⟩ := h1
  obtain ⟨b, r, i, j, m, e', ho', hc', hd', tj, em⟩ := h2
  rw [e, e']
  refine PySem.W.kat_lt ho hd ho' hd' (PySem.W.kat_cons (SeqAt.EqAt.int_int x1 t y1 i prog w _ _ (PySem.W.kat_go (fun e1 => ?_) (fun e1 => ?_))))
  · have ex : x1 = y1 := by simpa using e1
    have el : x2.length = y2.length := by
      have z1 : x1 = (x2.length : Int) := en
      have z2 : y1 = (y2.length : Int) := em
      omega
    refine PySem.W.kat_yes (PySem.W.kat_cons (texts_eq tu tj el hu prog w _ _ (PySem.W.kat_go (fun e2 => ?_) (fun e2 => ?_))))
    · have ey : x2 = y2 := of_decide_eq_true e2
      refine PySem.W.kat_yes (PySem.W.kat_nil ⟨rfl, ?_⟩)
      subst ex ey
      exact (lexN_irr _).symm
    · refine PySem.W.kat_no (PySem.W.kat_one _ _ (texts_lt tu tj el hu prog w _ _ ?_))
      refine ⟨rfl, ?_⟩
      unfold lexN
      rw [if_pos ex]
  · have ex : ¬ x1 = y1 := by simpa using e1
    refine PySem.W.kat_no (oneLt_int ⟨rfl, ?_⟩)
    unfold lexN
    rw [if_neg ex]
end
end Fc
set_option maxHeartbeats 4000000
/-! The least of texts; list(d.values()); sorted pairs of a number and a list of texts. -/
namespace Fc
open PySem PySem.Spec PyProof.Rows L2
/-! ### the least text -/
def leastS (l : List Str) : Str := (riseS l).headD ""
theorem least_is {l : List Str} {m : Str} (hm : m ∈ l) (h : ∀ x ∈ l, ltS x m = false) : m = leastS l := by
  have z := (riseS_mem m l).mpr hm
  have rs := riseS_rs l
  unfold leastS
  cases e : riseS l with
  | nil => rw [e] at z; cases z
  | cons y ys =>
    rw [e] at z rs
    have hy : y ∈ l := (riseS_mem y l).mp (by rw [e]; exact List.mem_cons_self)
    rcases List.mem_cons.mp z with q | q
    · exact q
    · have a := (List.pairwise_cons.mp rs).1 m q
      rw [h y hy] at a
      cases a
theorem minD_str (x : Str) : ∀ xs : List Str, PySem.W.minD (.str x) (xs.map PyData.str) = .str (xs.foldl (fun a y => if ltS y a then y else a) x) := by
  intro xs
  unfold PySem.W.minD
  induction xs generalizing x with
  | nil => rfl
  | cons y r ih =>
    rw [List.map_cons, List.foldl_cons, List.foldl_cons, ← ih]
    have e : PySem.W.dataLt (.str y) (.str x) = ltS y x := PySem.W.dataLt_str y x
    rw [e]
    congr 1
    cases ltS y x <;> rfl
theorem fold_least : ∀ (xs : List Str) (x : Str), (xs.foldl (fun a y => if ltS y a then y else a) x) ∈ x :: xs ∧ ∀ z ∈ x :: xs, ltS z (xs.foldl (fun a y => if ltS y a then y else a) x) = false
  | [], x => ⟨List.mem_cons_self, fun z hz => by rw [List.mem_singleton.mp hz]; exact ltS_irr _⟩
  | y :: r, x => by
    rw [List.foldl_cons]
    obtain ⟨h1, h2⟩ := fold_least r (if ltS y x then y else x)
    generalize hm : (r.foldl (fun a y => if ltS y a then y else a) (if ltS y x then y else x)) = m at h1 h2 ⊢
    have hx : ltS x m = false ∧ ltS y m = false := by
      have z := h2 _ List.mem_cons_self
      cases c : ltS y x with
      | true =>
        rw [c, if_pos rfl] at z
        refine ⟨?_, z⟩
        cases q : ltS x m with
        | false => rfl
        | true => rw [ltS_trans c q] at z; cases z
      | false =>
        rw [c, if_neg Bool.false_ne_true] at z
        refine ⟨z, ?_⟩
        cases q : ltS y m with
        | false => rfl
        | true =>
          rcases ltS_tri x y with t | t | t
          · rw [ltS_trans t q] at z; cases z
          · rw [t, q] at z; cases z
          · rw [t] at c; cases c
    refine ⟨?_, fun z hz => ?_⟩
    · rcases List.mem_cons.mp h1 with e | e
      · rw [e]
        cases ltS y x with
        | true => exact List.mem_cons_of_mem _ List.mem_cons_self
        | false => exact List.mem_cons_self
      · exact List.mem_cons_of_mem _ (List.mem_cons_of_mem _ e)
    · rcases List.mem_cons.mp hz with e | e
      · rw [e]; exact hx.1
      · rcases List.mem_cons.mp e with e | e
        · rw [e]; exact hx.2
        · exact h2 z (List.mem_cons_of_mem _ e)
section
variable {X : Cx} {K : PySem.W.Frag}
/-- min(list of texts) -/
def rMinS (K : PySem.W.Frag) : List V → Hp → VK → Prop := fun vs H Q => ∃ (a : Addr) (xs : List Str), vs = [.ref a] ∧ SqL K H a (xs.map V.str) ∧ xs ≠ [] ∧ Q (.str (leastS xs)) H
theorem cr_minS (hc : X.calm = true) (hu : X.A.units + 10 < cLine) : CallR X (.builtin "min") (rMinS X.K) := by
  intro pins s σ H vs us Q I r h
  obtain ⟨a, xs, rfl, hs, hne, q⟩ := h
  obtain ⟨its, rv, hl, _⟩ := I.list hs
  rw [Vals.ref1 r]
  cases xs with
  | nil => exact (hne rfl).elim
  | cons x xs =>
    obtain ⟨as, ra⟩ := Dp.readsAll I ((x :: xs).map PyData.str) _ its (DnA.strs (S := N0) (H := H) (x :: xs)).dp rv
    have al : PySem.W.AlikeAll ((x :: xs).map PyData.str) := by
      refine ⟨fun p hp t ht => ?_, fun p hp => ?_⟩
      · obtain ⟨_, _, rfl⟩ := List.mem_map.mp hp
        obtain ⟨_, _, rfl⟩ := List.mem_map.mp ht
        rfl
      · obtain ⟨_, _, rfl⟩ := List.mem_map.mp hp
        exact fun z => nomatch z
    have dz : ∀ l : List Str, PyData.depthAll (l.map PyData.str) ≤ 1 := fun l => by
      induction l with
      | nil => simp [PyData.depthAll]
      | cons y l ih => simp only [List.map_cons, PyData.depthAll, PyData.depth]; omega
    refine PySem.W.min_list_data (I.ok.hd hc) hl.isList ra al (by have := dz (x :: xs); rw [List.map_cons] at this; omega) fun i v h' tk bs hv rd hk => ?_
    rw [minD_str] at rd
    obtain ⟨h1, h2⟩ := fold_least xs x
    rw [least_is h1 h2] at rd
    cases rd with
    | str _ t => exact ⟨.str (leastS (x :: xs)), H, I.kept hk, ⟨t, rfl⟩, q⟩
end
/-! ### list(d.values()) -/
section
variable {X : Cx} {e : Expr} {te : TE} {p apos cpos pos : Pos}
def tListVals (te : TE) : TE := fun σ H Q => te σ H fun x H1 => ∃ (d : Addr) (kvs : List (Key × V)), x = .ref d ∧ H1 d = some (.dK kvs) ∧ ∀ q, H1 q = none → Q (.ref q) (upd H1 q (.lst (kvs.map (·.2))))
theorem pe_listVals (hc : X.calm = true) (he : PE X e te) (hg : Gl X "list") (hm : X.mg "list" = none) (hv : bootBuiltins "list" = some (.type "list")) (hbase : attributeBase e "values" X.env (eval e X.env) = eval e X.env := by rfl) (hline : (apos.endLine == cpos.line) = true := by rfl)
    (hs : starEach [.Call (.Attribute e "values" apos) [] [] cpos] X.env = (false, eval (.Call (.Attribute e "values" apos) [] [] cpos) X.env) :: starEach [] X.env := by rfl) :
    PE X (.Call (.Name "list" p) [.Call (.Attribute e "values" apos) [] [] cpos] [] pos) (tListVals te) := by
  refine ⟨fun pins s σ H Q I hq => wpAny_Call_Name_kw (ld_blt I hg hm hv (PyProof.Rows.callWith_type1 ?_ hs rfl))⟩
  rw [hs]
  refine Calls.spliced_cons ?_
  refine wpAny_Call_method (T := "dict") (id := "dict.values") hbase rfl hline F.plainAttrs_dict F.slot_dict_values F.type_dict_values (thn (he.run pins s σ H _ I hq) fun u s1 hh => ?_)
  obtain ⟨x, H1, I1, rx, d, kvs, ex, hd, q⟩ := hh
  subst ex
  obtain rfl : u = Value.ref d := rx
  obtain ⟨hz, hs0, vs, kv, hdo⟩ := I1.hok d _ hd
  obtain ⟨ep, hat⟩ := hdo.dictAt
  have lk : kvs.length = vs.length := Paired.length kv
  have I2 : Inv X pins σ H1 { s1 with heap := s1.heap.push { cls := .type "dict_values", data := .fields #[.ref d] } } := I1.kept (t' := s1.toks) fun b ob q => Heap.get?_push_of_some _ q
  refine ⟨hdo.typeIs, hdo.mapOf.noDict, ?_⟩
  refine method_meetsIn F.slot_dict_values F.entry_dict_values rfl (PySem.evalArgs_none ⟨rfl, hdo.typeIs, F.args_dict_values_1 _, _, meets_dict_values (mixKind X.prog X.w) d hs0, ⟨vs, hdo⟩, ?_⟩)
  refine Calls.spliced_nil ?_
  have lv : ∀ b, b = s1.heap.objs.size → True := fun _ _ => trivial
  refine PySem.W.kdl_call (PySem.W.kdl_values (knd := mixKind X.prog X.w) (kvs := vs) (ep := ep) (r := s1.heap.objs.size) (d := d)) (I1.ok.hd hc) ⟨⟨_, Heap.get?_push_size _ rfl, rfl, rfl⟩, hat.push _⟩ (by omega) fun h' tk acc c hk hL hacc => ?_
  have nS : H1 (s1.heap.objs.size + 1) = none := I1.hok.fresh (Nat.le_succ _)
  have rv : Vals (kvs.map (·.2)) acc.toList := by
    refine vals_of_at (by rw [List.length_map, lk]; exact hacc.1.symm) fun j x v h1 h2 => ?_
    obtain ⟨k, hkj⟩ := hacc.2 j v (by rw [← Array.getElem?_toList]; exact h2)
    obtain ⟨y, h3, h4⟩ := KV.at' kv hkj
    rw [List.getElem?_map, h3] at h1
    have e := Option.some.inj h1
    subst e
    exact h4
  have eS : (s1.heap.push ({ cls := .type "dict_values", data := .fields #[.ref d] } : Obj)).objs.size = s1.heap.objs.size + 1 := Heap.size_push _ _
  rw [show ({ s1 with heap := s1.heap.push ({ cls := .type "dict_values", data := .fields #[.ref d] } : Obj) } : Shared).heap.objs.size = s1.heap.objs.size + 1 from eS] at hL ⊢
  have lz : (kvs.map (·.2)).length ≤ sizeLine := by rw [List.length_map]; exact hz
  refine ⟨.ref (s1.heap.objs.size + 1), upd H1 (s1.heap.objs.size + 1) (.lst (kvs.map (·.2))), I1.laid (t' := tk) (a := s1.heap.objs.size + 1) (fun b o z => hk b o (Heap.get?_push_of_some _ z)) (Nat.le_succ _) ⟨lz, acc.toList, c, rv, ?_⟩, rfl, q _ nS⟩
  rw [Array.toArray_toList]
  exact hL
end
/-! ### sorted(pairs of a number and a list of texts) -/
/-- which pair a value is -/
def keyN (H : Hp) : V → NT
  | .ref t => match H t with
    | some (.tup [.int i, .ref a]) => match H a with
      | some (.lst xs) => (i, xs.map fun x => match x with | .str y => y | _ => "")
      | _ => (0, [])
    | _ => (0, [])
  | _ => (0, [])
/-- x is a pair of a number and a list, as long -/
def NumV (H : Hp) (x : V) (p : NT) : Prop := ∃ t a, x = V.ref t ∧ H t = some (.tup [.int p.1, .ref a]) ∧ H a = some (.lst (p.2.map V.str)) ∧ p.1 = p.2.length
theorem strs_back (l : List Str) : (l.map V.str).map (fun x => match x with | .str y => y | _ => ("" : Str)) = l := by
  induction l with
  | nil => rfl
  | cons x l ih =>
    rw [List.map_cons, List.map_cons, ih]
theorem NumV.key {H : Hp} {x : V} {p : NT} (h : NumV H x p) : keyN H x = p := by
  obtain ⟨t, a, rfl, h1, h2, _⟩ := h
  unfold keyN
  simp only [h1, h2]
  exact Prod.ext rfl (strs_back p.2)
section
variable {X : Cx} {K : PySem.W.Frag}
theorem texts_of {pins : List (Addr × Obj)} {σ : L2.St} {H : Hp} {s : Shared} {a : Addr} {l : List Str} (I : Inv X pins σ H s) (h : H a = some (.lst (l.map V.str))) : TextsL s.heap (.ref a) l := by
  obtain ⟨its, rv, pl, _⟩ := I.list (SqL.of h)
  refine ⟨a, its.toArray, rfl, pl.isList, ?_, fun j x hx => ?_⟩
  · have z := rv.length
    rw [List.length_map] at z
    exact z.symm
  · have hx' : its[j]? = some x := by simpa using hx
    have lj : j < its.length := (List.getElem?_eq_some_iff.mp hx').1
    have ll : j < l.length := by
      have z := rv.length
      rw [List.length_map] at z
      omega
    obtain ⟨u, hu, ru⟩ := rv.get (i := j) (x := V.str l[j]) (by rw [List.getElem?_map, List.getElem?_eq_getElem ll]; rfl)
    rw [hx'] at hu
    cases hu
    obtain ⟨t, rfl⟩ := ru
    exact ⟨l[j], t, List.getElem?_eq_getElem ll, rfl⟩
theorem num_sortable {prog : Program} {w : World} {A : Around} {s : Shared} {a : Addr} {vs : List Value} {k : Value → NT} (hu : A.units < cLine) (h0 : 0 < vs.length) (hp : ∀ h', (∀ b o, b ≠ a → s.heap.get? b = some o → h'.get? b = some o) → ∀ v ∈ vs, NumT h' v (k v)) : SrtO.SortableO prog w A s a vs fun v u => lexN (k v) (k u) := by
  intro h' keep
  have hp' := hp h' keep
  obtain ⟨fs, h1, h2, h3⟩ := num_heads k vs hp'
  refine ⟨tuples' true, fun Q E hq => PySem.W.kat_kind (T := .type "int") h1 (by omega) (fun f hm => ?_) (by rfl) ?_, num_cmp hu hp'⟩
  · obtain ⟨x, t, rfl⟩ := h3 f hm
    exact PySem.W.Looks.now
  · have e : (Value.type "int" != Value.type "tuple") = true := by first | decide +kernel | rfl | decide
    rw [e]
    exact hq
def rSortNT (K : PySem.W.Frag) : List V → Hp → VK → Prop := fun vs H Q => ∃ (a : Addr) (xs : List V), vs = [.ref a] ∧ SqL K H a xs ∧ (∀ x ∈ xs, ∃ p, NumV H x p) ∧
  ∀ ys p, SrtO.Srtd (fun v u => lexN v u) (ys.map (keyN H)) → ys.Perm xs → H p = none → Q (.ref p) (upd H p (.lst ys))
theorem cr_sortNT (hu : X.A.units + 10 < cLine) : CallR X (.builtin "sorted") (rSortNT X.K) := by
  intro pins s σ H vs us Q I r h
  obtain ⟨a, xs, rfl, hs, hx, q⟩ := h
  obtain ⟨its, rv, hl, hz⟩ := I.list hs
  rw [Vals.ref1 r]
  obtain ⟨e1, e2⟩ := refs_back rv fun x m => by
    obtain ⟨p, t, _, e, _⟩ := hx x m
    exact ⟨t, e⟩
  have old : ∀ v ∈ its, NumT s.heap v (keyN H (backV v)) := fun v hv => by
    obtain ⟨t, rfl⟩ := e2 v hv
    have hm : V.ref t ∈ xs := by
      rw [e1]
      exact List.mem_map.mpr ⟨_, hv, rfl⟩
    obtain ⟨p, hp⟩ := hx _ hm
    have ek : keyN H (backV (.ref t)) = p := hp.key
    rw [ek]
    obtain ⟨t', b, e, ht, hb, en⟩ := hp
    cases e
    obtain ⟨_, its2, r2, o, ho, hc, n, hd⟩ := I.hok _ _ ht
    cases its2 with
    | nil => cases r2
    | cons i1 its2 =>
    cases r2 with
    | cons g1 r2 =>
    cases its2 with
    | nil => cases r2
    | cons i2 its2 =>
    cases r2 with
    | cons g2 r2 =>
    cases r2
    obtain ⟨t1, rfl⟩ := g1
    obtain rfl := g2
    exact ⟨t, o, t1, .ref b, n, rfl, ho, hc, hd, texts_of I hb, en⟩
  refine SrtO.sorted_ord (swo_lexN fun u => keyN H (backV u)) hl.isList (by rw [← rv.length]; exact hz) (fun h2 h₁ b hb kk => ?_) fun out hs hb => ?_
  · refine num_sortable (s := { s with heap := h₁ }) (k := fun u => keyN H (backV u)) (by show X.A.units + 1 + 1 < cLine; omega) (by omega) fun h' keep v hm => ?_
    have keep2 : ∀ c o, s.heap.get? c = some o → h'.get? c = some o := fun c o e => keep c o (kk c o e).1 (kk c o e).2
    obtain ⟨t, o, t1, u, n, e, ho, hc, hd, ⟨b1, js, eu, ⟨o1, ho1, hc1, n1, hd1⟩, ez, ex⟩, en⟩ := old v hm
    exact ⟨t, o, t1, u, n, e, keep2 _ _ ho, hc, hd, ⟨b1, js, eu, ⟨o1, keep2 _ _ ho1, hc1, n1, hd1⟩, ez, ex⟩, en⟩
  · have h3 : ∀ u ∈ out, ∃ a, u = Value.ref a := fun u hu => e2 u (hb.perm.mem_iff.mp hu)
    obtain ⟨n, hn⟩ := sortedAll_at s.heap its out.toArray
    have pm : (out.map backV).Perm xs := by
      rw [e1]
      exact hb.perm.map backV
    have so : SrtO.Srtd (fun v u => lexN v u) ((out.map backV).map (keyN H)) := List.pairwise_map.mpr (SrtO.srtd_map (lt := fun v u => lexN (keyN H v) (keyN H u)) hs)
    refine ⟨.ref _, upd H (s.heap.objs.size + 1) (.lst (out.map backV)), I.laid (t' := s.toks) (fun _ _ => sortedAll_old) (Nat.le_succ _) ⟨?_, out, n, vals_back h3, hn⟩, rfl, q _ _ so pm (I.hok.fresh (Nat.le_succ _))⟩
    rw [pm.length_eq]
    exact hz
end
end Fc
set_option maxHeartbeats 4000000
/-! Refusals with an own __init__ that calls super().__init__. -/
namespace Fc
open PySem PySem.Spec PyProof.Rows L2
abbrev veI : String := "ValueError.__init__"
section
variable {prog : Program} {w : World} {A : Around} {E : Value → Shared → Prop} {h : Heap} {g : Array GenState} {d : Drawn} {t : Nat} {os : OsState}
/-- the bound __init__ of ValueError, called -/
theorem mw_call {nm qn : Str} {C N u e t0 : Addr} {bs bm : List Value} {hd : Bool} {sn : List Str} {sub : List Value} {ab : Bool} {col : Option Bool} {dd : Option Addr} {k0 k1 k2 k3 k5 : Option Value} {us : List Value} {Q : Value → Shared → Prop}
    (oC : h.get? C = some (excClassObj nm qn C N bs bm hd sn sub ab col dd k0 k1 k2 k3 k5 "ValueError.__new__")) (oe : h.get? e = some (PySem.HandSPX.excO C t0)) (ou : h.get? u = some (PySem.W.kxs_mw veI e)) (few : us.length ≤ sizeLine)
    (k : ∀ h2 t1, (∀ b o, b ≠ e → h.get? b = some o → h2.get? b = some o) → h2.get? e = some (PySem.HandSPX.excO C t1) → Q .none ⟨h2, g, d, t, os⟩) :
    wpAny (model prog w) A (call (.ref u) us) Q E ⟨h, g, d, t, os⟩ := by
  refine wpAny_call (codeAny_of_tree ?_)
  show wpAny (model prog w) A.in1 (callAny (.ref u) ⟨us, []⟩) _ _ ⟨h, g, d, t, os⟩
  simp only [callAny]
  refine wpAny_bind (wpAny_load ou ?_)
  have isMw : (Value.type "method-wrapper" == Value.type "method" || Value.type "method-wrapper" == Value.type "builtin_function_or_method" || Value.type "method-wrapper" == Value.type "method-wrapper") = true := by decide
  simp only [PySem.W.kxs_mw, isMw, if_true]
  refine PySem.W.KFB.if_so (by decide) ?_
  refine wpAny_bind (PySem.W.check_bound_init PySem.F.excBase_ValueError.toExcCallFacts oC oe rfl ?_)
  refine wpAny_bind (wpAny_pure (wpAny_pure ⟨plainId_quiet PySem.F.excBase_ValueError.init.plain _, codeAny_builtin PySem.F.excBase_ValueError.initEntry ?_⟩))
  exact PySem.W.exc_init_tree (cls := .ref C) (t0 := t0) (dv := none) (c2 := .none) (c3 := .none) (b4 := .bool false) oe few fun h2 kb e2 _ => k h2 h.objs.size kb e2
end
/-- what the written part must say of a class whose __init__ stands at f -/
structure SupC (K : PySem.W.Frag) (file : Str) (C f cc cda : Addr) (ar : Arg) : Prop where
  ox : OexC K C
  fn : ∃ oc od fd osl, K.lookup f = some ⟨oc, od, .func fd, osl⟩ ∧ (fd.params.posonlyargs ++ fd.params.args).head? = some ar
  code : ∃ oc od vs osl fi tf, K.lookup cda = some ⟨oc, od, .fields vs, osl⟩ ∧ vs[2]? = some (.str fi tf) ∧ (file == fi) = true
  cell : ∃ oc od osl, K.lookup cc = some ⟨oc, od, .cell (some (.ref C)), osl⟩
  cls : ∃ cd, PySem.W.clsIn K C = some cd
  own : PySem.W.mroIn K C (.ref C) = some true
  any : PySem.W.nsIn K cStatics "thirdparty.any" = some none
  sup : PySem.W.ks_superIn K C C "__init__" = some (some (.builtin veI))
  isVE : PySem.W.subIn K (.ref C) (.type "ValueError") = some true
theorem clsIn_obj {K : PySem.W.Frag} {h : Heap} {D : Addr} {cd : ClassData} (X : K.In h) (e : PySem.W.clsIn K D = some cd) : ∃ o, h.get? D = some o ∧ o.data = .cls cd := by
  unfold PySem.W.clsIn at e
  split at e
  · rename_i c d cd' sl ho
    cases e
    exact ⟨_, X _ _ ho, rfl⟩
  · cases e
section
variable {X : Cx} {pins : List (Addr × Obj)} {σ : L2.St} {H : Hp} {s : Shared} {C f cc cda a : Addr} {ar : Arg} {e1 : Expr} {ta : TA} {p0 p1 p2 p3 p4 : Pos} {body : List Stmt}
/-- super().__init__(e1) -/
theorem sup_run (T : SupC X.K X.prog.main.file C f cc cda ar) (I : Inv X pins σ H s) (hks : X.env.kindOf "super" = some .globalImplicit) (hkc : X.env.kindOf "__class__" = some .free) (hfu : X.env.func = some f) (hco : X.env.code = .ref cda)
    (htop : (X.prog.main.scope.names.lookup ("super" : Str)).isSome = false) (hcl : X.env.cells.lookup ("__class__" : Str) = some cc) (hN : X.N[0]? = some ar.arg) (hσ : σ[0]? = some (some (.ref a))) (hloc : X.env.kindOf ar.arg = some .local) (msup : X.mg "super" = none)
    (he : H a = some (exo a C none)) {D : Hp → Prop} (ha : PA X [e1] ta) (h : ta σ H fun vs H1 => H1 a = some (exo a C none) ∧ vs.length ≤ 1000 ∧ D H1) (hse : starEach [e1] X.env = (false, eval e1 X.env) :: starEach [] X.env := by rfl)
    {pl : Sem Bool} (hev : eval (.Call (.Attribute (.Call (.Name "super" p0) [] [] p1) "__init__" p2) [e1] [] p3) X.env = (do
      let ov ← attributeBase (.Call (.Name "super" p0) [] [] p1) "__init__" X.env (eval (.Call (.Name "super" p0) [] [] p1) X.env)
      standAt p2.atName
      let (f, first) ← holding [ov] (getMethod ov "__init__" pl)
      callWith p3 f first (backTo p3 (starEach [e1] X.env)) []))
    (hi : interactive X.env = false) (hs : swapsWith (.Call (.Attribute (.Call (.Name "super" p0) [] [] p1) "__init__" p2) [e1] [] p3) none p4.line X.env = pure false := by rfl) :
    _root_.PySem.wpAt (model X.prog X.w) X.A (.func body X.env) (exec (.Expr (.Call (.Attribute (.Call (.Name "super" p0) [] [] p1) "__init__" p2) [e1] [] p3) p4) X.env) (fun fl s2 => fl = .next ∧ ∃ H1, Inv X pins σ H1 s2 ∧ D H1) X.xe s := by
  obtain ⟨oc, od, fd, osl, kf, hp⟩ := T.fn
  obtain ⟨oc2, od2, vs2, osl2, fi, tf, kc, hvs, hfile⟩ := T.code
  obtain ⟨oc3, od3, osl3, kl⟩ := T.cell
  obtain ⟨cdC, hcd⟩ := T.cls
  have KI := I.kIn
  obtain ⟨oD, hD1, hD2⟩ := clsIn_obj KI hcd
  obtain ⟨t1, ho⟩ := exo_at I.hok he
  obtain ⟨mb, hb1, hb2⟩ := I.mod.blt
  obtain ⟨m, hns, hlook⟩ := I.loc
  obtain ⟨u0, ru0, look0⟩ := hlook 0 ar.arg (.ref a) hN hσ (.inl hloc)
  have eu0 : u0 = Value.ref a := ru0
  subst eu0
  have hm0 : m ar.arg = some (.ref a) := by
    rcases look0 with ⟨_, z⟩ | ⟨z, _⟩
    · exact z
    · rw [hloc] at z
      rcases z with z | z <;> cases z
  have neC : a ≠ C := fun z => by
    rw [z] at ho
    rw [hD1] at ho
    cases ho
    cases hD2
  refine ks_wpAt_Expr_any (ks_wpAt_MethodCall (Q := fun _ s2 => Flow.next = Flow.next ∧ ∃ H1, Inv X pins σ H1 s2 ∧ D H1) ?_ hev) hi hs
  refine ks_wpAt_super_base hks hkc (by decide) hfu (KI _ _ kf) rfl hp hco (KI _ _ kc) rfl hvs hfile htop ?_
  refine PySem.W.ks_loadName_global I.ok.kind hks (Calls.loadGlobal_builtin (by rw [I.ok.glob]; exact I.mod.glob.keeps I.bk) msup (by rw [I.ok.blt]; exact hb1.keeps I.bk) ((hb2 "super" (by decide)).trans PyProof.Rows.Boot.«super») ⟨rfl, ?_⟩)
  refine wpAny_loadName_free I.ok.kind hkc hcl ⟨_, KI _ _ kl, rfl⟩ ?_
  refine wpAny_loadName_local I.ok.kind hloc hns hm0 ?_
  obtain ⟨hp0, g, dr, tk, os⟩ := s
  refine ks_wpAny_isType_cls hD1 hD2 ⟨rfl, ?_⟩
  refine ks_wpAny_call_super (prog := X.prog) (w := X.w) hD1 hD2 ho rfl (fun c z => by cases z) (PySem.W.looks_mroIn KI T.own) (fun h1 so1 k1 => ?_)
  have I1 : Inv X pins σ H ⟨h1, g, dr, tk, os⟩ := I.kept (t' := tk) k1
  have K1 := I1.kIn
  obtain ⟨bm, hsup⟩ : ∃ l, PySem.W.alongIn X.K "__init__" ((cdC.mro.dropWhile (· != .ref C)).drop 1) = some (some (.builtin veI)) := by
    have z := T.sup
    unfold PySem.W.ks_superIn at z
    rw [hcd] at z
    exact ⟨(), z⟩
  have isI : PySem.W.Looks (model X.prog X.w) h1 (isInstance (.ref a) (.type "ValueError")) true :=
    (show PySem.W.Looks (model X.prog X.w) h1 (typeOf (.ref a)) (.ref C) from fun A Q E s k q => wpAny_typeOf_ref (k _ _ (k1 _ _ ho)) q).andThen (PySem.W.looks_subIn K1 T.isVE)
  refine PySem.W.kxs_getMethod PySem.W.kxs_ValueError so1 (PySem.W.looks_opaque K1 T.any) (l₀ := cdC.mro) (fun A Q E s k q => wpAny_bind ((PySem.W.looks_clsIn K1 hcd) A _ E s k (wpAny_pure q))) rfl K1 hsup isI neC (by decide) ?_
  have k2 : ∀ b o, h1.get? b = some o → (h1.push (PySem.W.kxs_mw veI a)).get? b = some o := fun b o e => Heap.get?_push_of_some _ e
  have gq : (h1.push (PySem.W.kxs_mw veI a)).get? h1.objs.size = some (PySem.W.kxs_mw veI a) := Heap.get?_push_at rfl rfl
  have I2 : Inv X pins σ H ⟨h1.push (PySem.W.kxs_mw veI a), g, dr, tk + 1, os⟩ := I1.kept (t' := tk + 1) k2
  have big : h1.objs.size ≤ h1.objs.size := Nat.le_refl _
  have nL : h1.objs.size ≠ X.env.locals := Nat.ne_of_gt I1.lt
  have I3 : Inv X ((h1.objs.size, PySem.W.kxs_mw veI a) :: pins) σ H ⟨h1.push (PySem.W.kxs_mw veI a), g, dr, tk + 1, os⟩ := I2.pins_of fun p hp => by
    rcases List.mem_cons.mp hp with e | e
    · subst e
      exact ⟨gq, I1.hok.fresh big, nL, I1.nofs big, fun v z => by cases z⟩
    · exact I2.pin p (List.mem_append_right _ e)
  show wpAny _ _ (callWith p3 (.ref h1.objs.size) [] (backTo p3 (starEach [e1] X.env)) []) _ _ _
  rw [hse]
  refine PySem.W.kxs_callWith (i := veI) (x := a) rfl (PySem.Calls.evalArgs_plain ?_)
  refine thn ((hse ▸ ha.run p3 ((h1.objs.size, PySem.W.kxs_mw veI a) :: pins) ⟨h1.push (PySem.W.kxs_mw veI a), g, dr, tk + 1, os⟩ σ H _ I3 h)) fun us s4 ⟨vs, H4, I4, r4, e4, l4, q4⟩ => ?_
  have g4 := (I4.pin (h1.objs.size, PySem.W.kxs_mw veI a) (List.mem_append_right _ List.mem_cons_self)).1
  refine ⟨g4, ?_⟩
  obtain ⟨t4, o4⟩ := exo_at I4.hok e4
  obtain ⟨nm, q, N, bs, bm, sn, sub, ab, col, dd, j0, j1, j2, j3, j5, hC, hbm⟩ := T.ox.cls
  obtain ⟨hp4, g', dr', tk', os'⟩ := s4
  refine mw_call (I4.kIn _ _ hC) o4 g4 (by show us.length ≤ sizeLine; rw [← r4.length, sizeLine_eq]; omega) fun h5 t5 k5 o5 => ⟨rfl, H4, ?_, q4⟩
  have J := I4.write (t' := tk') (x := a) (e := a) (o := exo a C none) (by rw [e4]; exact True.intro) (.inl rfl) k5 ⟨_, o5⟩ (exo_ok o5)
  have eu : upd H4 a (exo a C none) = H4 := by
    funext b
    by_cases hb : b = a
    · rw [hb, upd_same, e4]
    · rw [upd_ne hb]
  rw [eu] at J
  exact J.pins_of fun p hp => J.pin p (List.mem_append_right _ (List.mem_cons_of_mem _ hp))
end
/-! ### the def -/
/-- what such an __init__ promises -/
def SmallV (y : V) : Prop := (∃ z : Str, y = .str z ∧ z.length ≤ 1000) ∨ ∃ i : Int, y = .int i ∧ i.natAbs.log2 < 1920
def spIni (C : Addr) (fld : Str) : Sp := fun vs H Q _ => ∃ (a : Addr) (y : V), vs = [.ref a, y] ∧ SmallV y ∧ H a = some (exo a C none) ∧ ∀ dx, H dx = none → dx ≠ a → Q .non (upd (upd H dx (exd dx [(fld, y)])) a (exo a C (some dx)))
/-- the text that it is made with can be put together -/
def Msg (par : Str) (e1 : Expr) : Prop := ∀ X : Cx, X.N[1]? = some par → X.env.scope.names.lookup par = some .local → ∃ ta : TA, PA X [e1] ta ∧ starEach [e1] X.env = (false, eval e1 X.env) :: starEach [] X.env ∧
  ∀ (σ : L2.St) (H : Hp) (y : V), σ[1]? = some (some y) → SmallV y → ∀ R : List V → Hp → Prop, (∀ vs, vs.length = 1 → R vs H) → ta σ H R
structure IniD where
  cls : Str
  par : Str
  fld : Str
  qual : Str
  params : Arguments
  scope : Scope
  e1 : Expr
  p : List Pos
def IniD.pos (d : IniD) (i : Nat) : Pos := d.p.getD i ⟨0, 0, 0, 0⟩
def IniD.s1 (d : IniD) : Stmt := .Expr (.Call (.Attribute (.Call (.Name "super" (d.pos 0)) [] [] (d.pos 1)) "__init__" (d.pos 2)) [d.e1] [] (d.pos 3)) (d.pos 4)
def IniD.s2 (d : IniD) : Stmt := .Assign [.Attribute (.Name "self" (d.pos 5)) d.fld (d.pos 6)] (.Name d.par (d.pos 7)) (d.pos 8)
def IniD.body (d : IniD) : List Stmt := [d.s1, d.s2]
def IniD.nf (d : IniD) (cc cda : Addr) : NdefX.NF := ⟨"__init__", d.qual, d.params, d.body, d.scope, [(("__class__" : Str), cc)], cda⟩
section
variable {P : Program} {w : World} {K : PySem.W.Frag} {mg : Str → Option Value} {base : Heap}
theorem fn_ini {d : IniD} {C f cc cda : Addr} {ar : Arg} {fd : FuncData} {oc : Value} {od : Option Addr} {osl : Array (Option Value)} (T : SupC K P.main.file C f cc cda ar) (har : ar.arg = "self") (lk : K.lookup f = some ⟨oc, od, .func fd, osl⟩)
    (h1 : fd.qualname = d.qual) (h2 : fd.scope = d.scope) (h3 : fd.globals = mainGlobals) (h4 : fd.closure = [(("__class__" : Str), cc)]) (h5 : fd.builtins = builtinsNs) (h6 : fd.body = .stmts d.body) (h7 : fd.code = .ref cda) (hcd : PySem.W.codeIn K (.ref cda) d.qual = true)
    (S : NdefX.NScope [("self" : Str), d.par, "__class__"] [("self" : Str), d.par] [("__class__" : Str)] d.scope) (hsup : d.scope.names.lookup ("super" : Str) = some .globalImplicit) (hmsg : Msg d.par d.e1) (hno : PySem.W.findIn K (.ref C) d.fld = some none) (msup : mg "super" = none)
    (hdb1 : (d.par == ("__debug__" : Str)) = false) (hdb2 : (d.par == ("__classdict__" : Str)) = false) (htop : (P.main.scope.names.lookup ("super" : Str)).isSome = false) (hev : ∀ env : Env, ∃ pl : Sem Bool, eval (.Call (.Attribute (.Call (.Name "super" (d.pos 0)) [] [] (d.pos 1)) "__init__" (d.pos 2)) [d.e1] [] (d.pos 3)) env = (do
      let ov ← attributeBase (.Call (.Name "super" (d.pos 0)) [] [] (d.pos 1)) "__init__" env (eval (.Call (.Name "super" (d.pos 0)) [] [] (d.pos 1)) env)
      standAt (d.pos 2).atName
      let (f, first) ← holding [ov] (getMethod ov "__init__" pl)
      callWith (d.pos 3) f first (backTo (d.pos 3) (starEach [d.e1] env)) []))
    (hs1 : ∀ env : Env, swapsWith (.Call (.Attribute (.Call (.Name "super" (d.pos 0)) [] [] (d.pos 1)) "__init__" (d.pos 2)) [d.e1] [] (d.pos 3)) none (d.pos 4).line env = pure false)
    (hs2 : ∀ env : Env, swapsWith (.Name d.par (d.pos 7)) (some (.Attribute (.Name "self" (d.pos 5)) d.fld (d.pos 6))) (d.pos 8).line env = pure false) : FnOk P w K mg base CX0 0 f fd [("self" : Str), d.par] (spIni C d.fld) := by
  refine ⟨fun vs H Q E h => by obtain ⟨a, y, rfl, _⟩ := h; rfl, fun A outer s H args us vs Q E hr e0 hbind r h => ?_⟩
  obtain ⟨a, y, rfl, sy, ea, kq⟩ := h
  obtain ⟨cells, cdt, cvs, csl, fi, tf, kc, hvs, hfile⟩ := T.code
  obtain ⟨oc3, od3, osl3, kl⟩ := T.cell
  have KX : K.In s.heap := e0.mod.kin.keeps fun b o e => (e0.bs b o e).1
  have lim : s.heap.NoLimit := e0.mod.nolimit.keeps fun b o e => (e0.bs b o e).1
  have hl : us.length = 2 := r.length.symm
  have eEnv : callEnv fd s.heap.objs.size f = NdefX.envF (d.nf cc cda) f s.heap.objs.size := by
    unfold callEnv
    rw [h1, h2, h3, h4, h5, h7]
    rfl
  have hCell : NdefX.CellsAt (d.nf cc cda).cl [("__class__" : Str)] [some (.ref C)] s.heap H := by
    refine ⟨rfl, fun y c e => ?_, fun x y c e1 e2 => ?_, fun i y hi => ?_⟩
    · have e' : List.lookup y [(("__class__" : Str), cc)] = some c := e
      have ec : c = cc := by
        rw [List.lookup_cons] at e'
        split at e'
        · exact (Option.some.inj e').symm
        · cases e'
      subst ec
      exact ⟨(e0.bs _ _ (e0.mod.kin _ _ kl)).2, _, _, KX _ _ kl, rfl⟩
    · have z : ∀ {x : Str}, List.lookup x [(("__class__" : Str), cc)] = some c → x = ("__class__" : Str) := fun {x} e => by
        rw [List.lookup_cons] at e
        split at e
        · rename_i q
          exact beq_iff_eq.mp q
        · cases e
      rw [z e1, z e2]
    · cases i with
      | zero =>
        have ey : ("__class__" : Str) = y := by simpa using hi
        subst ey
        exact ⟨cc, rfl, fun v hv => by
          have ev : V.ref C = v := by simpa using hv
          subst ev
          exact ⟨.ref C, rfl, _, KX _ _ kl, rfl⟩⟩
      | succ i => simp at hi
  refine ks_codeAny_call_defAt (body := d.body) hr.depth (KX _ _ lk) rfl lim (by rw [h1, h7]; exact PySem.W.codeRec_of KX hcd) h6 hbind (by rw [h2]; exact S.nocell) (fun x hx => by rw [h2]; exact S.par x.1 (List.of_mem_zip hx).1) (fun h₁ hns kp => ?_) (by rw [h2]; exact S.co) (by rw [h2]; exact S.gen) (by rw [h2]; exact S.kind)
  rw [eEnv]
  have I := NdefX.inv_startN (CX := CX0) (P := P) (w := w) (F := d.nf cc cda) (f := f) (A := A) (E := E) (us := us) (tk := s.toks + ([("self" : Str), d.par].zip us).length) S hr.hd e0 (vs := [.ref a, y]) rfl r hCell hns kp
  generalize hX : NdefX.ncx CX0 P w K mg base [("self" : Str), d.par, "__class__"] (d.nf cc cda) f A outer s H E = X at I
  have kSelf : X.env.kindOf "self" = some .local := by rw [← hX]; exact S.par "self" List.mem_cons_self
  have kPar : X.env.scope.names.lookup d.par = some .local := by rw [← hX]; exact S.par d.par (List.mem_cons_of_mem _ List.mem_cons_self)
  obtain ⟨ta, pa, hse, hta⟩ := hmsg X (by rw [← hX]; rfl) kPar
  obtain ⟨pl1, hev1⟩ := hev X.env
  have run1 := sup_run (X := X) (f := f) (cc := cc) (cda := cda) (ar := ar) (a := a) (C := C) (body := d.body) (p0 := d.pos 0) (p1 := d.pos 1) (p2 := d.pos 2) (p3 := d.pos 3) (p4 := d.pos 4) (D := fun H1 => H1 = H)
    (by rw [← hX]; exact T) I (by rw [← hX]; exact hsup) (by rw [← hX]; exact S.frk "__class__" List.mem_cons_self) (by rw [← hX]; rfl) (by rw [← hX]; rfl) (by rw [← hX]; exact htop) (by rw [← hX]; rfl) (by rw [har, ← hX]; rfl) rfl (by rw [har]; exact kSelf) (by rw [← hX]; exact msup) ea pa
    (hta (NdefX.startF [("self" : Str), d.par, "__class__"] [.ref a, y] [some (.ref C)]) H y rfl sy _ fun vs lv => ⟨ea, by omega, rfl⟩) hse hev1 I.quiet (hs1 _)
  subst hX
  refine ks_wpAt_execs_cons (ks_wpAt_mono (show _root_.PySem.wpAt (model P w) (A.deeper (NdefX.envF (d.nf cc cda) f s.heap.objs.size)) (.func d.body (NdefX.envF (d.nf cc cda) f s.heap.objs.size)) (exec d.s1 (NdefX.envF (d.nf cc cda) f s.heap.objs.size)) _ _ _ from run1) (fun fl s2 hfl => ?_) (fun _ _ x => x))
  obtain ⟨rfl, H1, I1, eH⟩ := hfl
  subst eH
  have fin : ∀ {σ' : L2.St} {H' : Hp} {s3 : Shared}, Inv (NdefX.ncx CX0 P w K mg base [("self" : Str), d.par, "__class__"] (d.nf cc cda) f A outer s H1 E) [] σ' H' s3 → Q .non H' → CE outer P w H1 s Q .none s3 := fun {σ' H' s3} J q => ⟨.non, H', J.os, J.bare, J.base, J.hok, rfl, q⟩
  refine ks_wpAt_execs_cons (PyProof.Rows.wpAt_of_any ?_)
  have r2 := (ps_ost (X := NdefX.ncx CX0 P w K mg base [("self" : Str), d.par, "__class__"] (d.nf cc cda) f A outer s H1 E) (f := d.fld) (p' := d.pos 6) (pos := d.pos 8) (pe_var (pos := d.pos 5) (i := 0) rfl (.inl (S.par _ List.mem_cons_self))) (pe_var (pos := d.pos 7) (i := 1) rfl (.inl (S.par d.par (List.mem_cons_of_mem _ List.mem_cons_self))) hdb1 hdb2) (hs2 _)).run [] s2 _ _ { nx := fun _ H2 => Q .non H2, rt := fun _ _ => False } I1 ?_
  · refine wpAny_mono r2 (fun fl s3 h3 => ?_) (fun _ _ x => x)
    cases fl with
    | next =>
      obtain ⟨σ', H', J, q⟩ := h3
      exact PyProof.Rows.wpAt_of_any (wpAny_execs_nil (fin J q))
    | brk =>
      obtain ⟨σ', H', J, q⟩ := h3
      exact q.elim
    | cont =>
      obtain ⟨σ', H', J, q⟩ := h3
      exact q.elim
    | ret u =>
      obtain ⟨v, σ', H', J, rv, q⟩ := h3
      exact q.elim
  · exact ⟨_, rfl, _, rfl, a, C, rfl, T.ox, hno, .inl ⟨ea, kq⟩⟩
end
end Fc
set_option maxHeartbeats 4000000
/-! Defs that refuse; what is caught, handed on and asked. -/
namespace Fc
open PySem PySem.Spec PyProof.Rows L2
section
variable {X : Cx}
/-- what is wanted of one argument -/
def One1 (R : V → Hp → Prop) : List V → Hp → Prop
  | [y], H => R y H
  | _, _ => False
theorem one1_is {R : V → Hp → Prop} : ∀ {vs : List V} {H : Hp}, One1 R vs H → ∃ y, vs = [y] ∧ R y H
  | [y], _, h => ⟨y, rfl, h⟩
/-- the reading of C(e): the refusal's dict is new -/
def tRef (C : Addr) (fld : Str) (te : TE) : L2.St → Hp → XK → Prop := fun σ H Q => te σ H fun y H1 => SmallV y ∧ ∀ d, H1 d = none → Q (.ref C) (some d) (upd H1 d (.xd [(fld, y)]))
theorem pmk_ini {x par fld : Str} {C fI : Addr} {e : Expr} {te : TE} {fd : FuncData} {p pos : Pos} (T : OexC X.K C) (hI : PySem.W.findIn X.K (.ref C) "__init__" = some (some (.ref fI))) (tI : PySem.W.typeIn X.K (.ref fI) = some (.type "function"))
    (F1 : FnOk X.prog X.w X.K X.mg X.base CX0 0 fI fd [("self" : Str), par] (spIni C fld)) (hr : Room 1 X.A) (hb : Binds X.K fd [("self" : Str), par] []) (hg : Gl X x) (hm : X.mg x = some (.ref C)) (he : PE X e te)
    (hst : starEach [e] X.env = (false, eval e X.env) :: starEach [] X.env := by rfl) (hdb : (x == ("__debug__" : Str)) = false := by decide) : L2N.PMk X (.Call (.Name x p) [e] [] pos) (tRef C fld te) := by
  intro pins s σ H Q I h
  obtain ⟨nm, qn, N, bs, bm, sn, sub, ab, col, dd, j0, j1, j2, j3, j5, kC, vb⟩ := T.cls
  have ha : PA X [e] (tCons te tNil) := pa_cons he pa_nil hst
  refine wpAny_Call_Name_kw (ld_glob I hg hm ?_ hdb)
  refine PySem.W.callWith_K (h₀ := X.base) I.ok.mod.kin T.kC (thn (ha.run pos pins s σ H (One1 fun y H1 => SmallV y ∧ ∀ d, H1 d = none → Q (.ref C) (some d) (upd H1 d (.xd [(fld, y)]))) I h) fun us s1 hh => ?_) hst (by rfl)
  obtain ⟨vs, H1, I1, r1, q1⟩ := hh
  obtain ⟨y, rfl, sy, q1⟩ := one1_is q1
  refine ⟨I1.kIn, ?_⟩
  show wpAny _ _ (call (.ref C) us) _ _ _
  obtain ⟨hp, g, dr, tk, os⟩ := s1
  generalize ht : hp.objs.size = t0
  have na : H1 (t0 + 1) = none := I1.hok.fresh (by rw [← ht]; exact Nat.le_succ _)
  generalize hh2 : (hp.push (PySem.W.kdv_tup us)).push (PySem.HandSPX.excO C t0) = h2
  have up2 : ∀ b o, hp.get? b = some o → h2.get? b = some o := fun b o z => by
    rw [← hh2]
    exact Heap.get?_push_of_some _ (Heap.get?_push_of_some _ z)
  have at2 : h2.get? (t0 + 1) = some (PySem.HandSPX.excO C t0) := by
    rw [← hh2, ← ht]
    heap_get
  have I2 : Inv X pins σ (upd H1 (t0 + 1) (exo (t0 + 1) C none)) ⟨h2, g, dr, tk, os⟩ := I1.laid (t' := tk) up2 (by show hp.objs.size ≤ t0 + 1; omega) (exo_ok at2)
  have q0 : spIni C fld [.ref (t0 + 1), y] (upd H1 (t0 + 1) (exo (t0 + 1) C none)) (fun v H2 => v = .non ∧ ∃ (d : Addr) (fs : List (Str × V)), H2 (t0 + 1) = some (exo (t0 + 1) C (some d)) ∧ H2 d = some (exd d fs) ∧ H1 d = none ∧ Q (.ref C) (some d) (upd (del H2 (t0 + 1)) d (.xd fs))) (fun _ _ _ => False) := by
    refine ⟨t0 + 1, y, rfl, sy, upd_same, fun dx n1 n2 => ⟨rfl, dx, [(fld, y)], upd_same, by rw [upd_ne n2, upd_same], by rw [upd_ne n2] at n1; exact n1, ?_⟩⟩
    have nd : H1 dx = none := by
      rw [upd_ne n2] at n1
      exact n1
    have e2 : upd (del (upd (upd (upd H1 (t0 + 1) (exo (t0 + 1) C none)) dx (exd dx [(fld, y)])) (t0 + 1) (exo (t0 + 1) C (some dx))) (t0 + 1)) dx (.xd [(fld, y)]) = upd H1 dx (.xd [(fld, y)]) := by
      funext b
      by_cases b1 : b = dx
      · rw [b1, upd_same, upd_same]
      · rw [upd_ne b1, upd_ne b1]
        by_cases b2 : b = t0 + 1
        · rw [b2, del_same, na]
        · rw [del_ne b2, upd_ne b2, upd_ne b1, upd_ne b2]
    rw [e2]
    exact q1 dx nd
  have rv : Vals [V.ref (t0 + 1), y] (Value.ref (t0 + 1) :: us) := .cons rfl r1
  have lu : us.length = 1 := r1.length.symm
  have hbd := hb ⟨h2, g, dr, tk, os⟩ (Value.ref (t0 + 1) :: us) I2.kIn (by rw [List.append_nil, List.length_cons, lu]; rfl)
  rw [List.append_nil] at hbd
  have call1 := F1.run (X.A.under (.builtin "type.__call__" ⟨.ref C :: us, []⟩)) X.stack _ _ ⟨Value.ref (t0 + 1) :: us, []⟩ _ _ _ _ (hr.make C us []) (I2.env0.make C us []) hbd rv q0
  subst hh2
  subst ht
  refine wpAny_call (PySem.HandSPX.call_own F.excBase_ValueError (fun Y => PySem.HandSPX.refsVE_contains Y bm vb) (I1.kIn _ _ kC) (PySem.W.looks_findIn I1.kIn hI) (fun self => PySem.W.bind_fn I1.kIn self tI) (by rw [lu]; decide) (codeAny_mono call1 fun r s3 hq => ?_))
  cases r with
  | error er => exact hq.elim
  | ok fl =>
    cases fl with
    | next => exact hq.elim
    | brk => exact hq.elim
    | cont => exact hq.elim
    | ret u =>
      obtain ⟨v, H2, os2, bare2, un2, hok2, rv2, ev, d, fs, ea, ed, nd, q2⟩ := hq
      subst ev
      obtain ⟨h3, g3, d3, t3, os3⟩ := s3
      obtain ⟨tt, G, J, keepG, noG, atE, noE⟩ := mk_end0 (d2 := d3) (t2 := t3) I1 (Nat.le_succ _) up2 un2 hok2 os2 bare2 ea ed nd
      exact ⟨rv2, hp.objs.size + 1, _, _, ⟨G, g3, d3, t3, os3⟩, _, .ref C, some d, rfl, J, keepG, noG, atE, ⟨rfl, rfl, fun ws z => by cases z; rfl⟩, rfl, rfl, noE, rfl, bare2, raises_own T.exC T.tyC, q2⟩
end
/-! ### a def that may refuse -/
structure CalX (P : Program) (w : World) (K : PySem.W.Frag) (mg : Str → Option Value) (base : Heap) (k : Nat) (x : Str) (sp : Sp) : Prop where
  ex : ∃ (f : Addr) (fd : FuncData) (ps : List Str), FnOk P w K mg base (L2N.CX P w) k f fd ps sp ∧ mg x = some (.ref f) ∧ PySem.W.keepIn K (.ref f) = true ∧ Binds K fd ps []
section
variable {P : Program} {w : World} {K : PySem.W.Frag} {mg : Str → Option Value} {base : Heap}
theorem cal_mkX {x : Str} {st : Stmt} {N ps : List Str} {k : Nat} {sp : Sp} (D : DefAt K mg x st) (S : FnScope N ps (defScope st)) (len : ∀ vs H Q E, sp vs H Q E → vs.length = ps.length)
    (hb : ∀ (kV doc pm : Value) (an : Option Addr) (cdv ct : Value) (us : List Value), us.length = ps.length → bindArgs (PySem.W.fnOf x x (defArgs st) (defBody st) (defScope st) .none kV doc pm an cdv ct) ⟨us, []⟩ = pure (ps.zip us))
    (hbody : ∀ (A : Around) (outer : List Env) (s : Shared) (H : Hp) (vs : List V) (Q : VK) (E : XK), Room k (A.deeper (envOfC x (defScope st) s.heap.objs.size (He.ga K x) (.ref (cO K x)))) → sp vs H Q E →
      L2N.Takes (cxOf (L2N.CX P w) P w K mg base N x (defScope st) (He.ga K x) (.ref (cO K x)) A outer s H E) (fun cls d _ H => E cls d H) →
      ∃ t, PSs (cxOf (L2N.CX P w) P w K mg base N x (defScope st) (He.ga K x) (.ref (cO K x)) A outer s H E) (defBody st) t ∧ t { nx := fun _ H' => Q .non H', rt := Q } (start N vs) H) : CalX P w K mg base (k + 1) x sp := by
  obtain ⟨fd, F⟩ := D.fn
  exact ⟨_, fd, ps, fn_mk F S len fun A outer s H vs Q E hr hsp => hbody A outer s H vs Q E hr hsp (L2N.takes_of rfl rfl rfl rfl), D.mgf, F.kp, F.bindsN hb⟩
end
section
variable {X : Cx} {k j : Nat} {x : Str} {sp : Sp} {p pos : Pos} {e : Expr} {es : List Expr} {t : TA} {W : WX}
/-- such a def called -/
theorem pe_cX (c : CalX X.prog X.w X.K X.mg X.base k x sp) (hr : Room j X.A) (hk : k ≤ j) (hg : Gl X x) (tk : L2N.Takes X W) (ha : PA X (e :: es) t) (hdb : (x == ("__debug__" : Str)) = false := by decide)
    (he : starEach (e :: es) X.env = (false, eval e X.env) :: starEach es X.env := by rfl) (hpl : (backTo pos (starEach es X.env)).any (·.1) = false := by rfl) :
    PE X (.Call (.Name x p) (e :: es) [] pos) (tCallS sp (WE W) t) := by
  obtain ⟨f, fd, ps, F, hm, hkp, hb⟩ := c.ex
  exact pe_callS (F.mono hk) hr hg hm hkp hb (fun σ => L2N.passAt tk σ) ha hdb he hpl
end
/-! ### a def that is handed what is handled -/
structure FnE (P : Program) (w : World) (K : PySem.W.Frag) (mg : Str → Option Value) (base : Heap) (k : Nat) (x : Str) (sp : Addr × Obj → Sp) : Prop where
  ex : ∃ (f : Addr) (fd : FuncData) (ps : List Str), mg x = some (.ref f) ∧ PySem.W.keepIn K (.ref f) = true ∧ Binds K fd ps [] ∧ (∀ z vs H Q E, sp z vs H Q E → vs.length = ps.length) ∧
    ∀ (A : Around) (outer : List Env) (s : Shared) (H : Hp) (as : Args) (us : List Value) (vs : List V) (Q : VK) (E : XK) (z : Addr × Obj), L2H.RoomH k A → L2H.Hot1 A z → L2H.PinOk outer H s z → Env0 P w K mg base A outer s H → BindsTo s fd as (ps.zip us) → Vals vs us → sp z vs H Q E →
      codeAny (model P w) A (.call (.ref f) as) (CR CX0 outer P w H s Q E) s
section
variable {P : Program} {w : World} {K : PySem.W.Frag} {mg : Str → Option Value} {base : Heap}
theorem fnE_mk {x : Str} {st : Stmt} {N ps : List Str} {k : Nat} {sp : Addr × Obj → Sp} (D : DefAt K mg x st) (S : FnScope N ps (defScope st)) (len : ∀ z vs H Q E, sp z vs H Q E → vs.length = ps.length)
    (hb : ∀ (kV doc pm : Value) (an : Option Addr) (cdv ct : Value) (us : List Value), us.length = ps.length → bindArgs (PySem.W.fnOf x x (defArgs st) (defBody st) (defScope st) .none kV doc pm an cdv ct) ⟨us, []⟩ = pure (ps.zip us))
    (hbody : ∀ (A : Around) (outer : List Env) (s : Shared) (H : Hp) (vs : List V) (Q : VK) (E : XK) (z : Addr × Obj), L2H.Hot1 A z → L2H.RoomH k (A.deeper (envOfC x (defScope st) s.heap.objs.size (He.ga K x) (.ref (cO K x)))) → sp z vs H Q E →
      ∃ t, PSs (L2H.cxH CX0 P w K mg base N x (defScope st) (He.ga K x) (.ref (cO K x)) A outer s H E z) (defBody st) t ∧ t { nx := fun _ H' => Q .non H', rt := Q } (L2.start N vs) H) : FnE P w K mg base (k + 1) x sp := by
  obtain ⟨fd, F⟩ := D.fn
  have hBinds := F.bindsN hb
  have hkp := F.kp
  obtain ⟨oc, od, dV, kV, doc, pm, an, cdv, ct, osl, rfl, lk, hcd, _, _⟩ := F.ex
  obtain ⟨c, rfl⟩ := He.codeIn_ref hcd
  have ec : cO K x = c := He.codeOf_eq (p := (x, none)) lk rfl
  refine ⟨_, _, ps, D.mgf, hkp, hBinds, len, fun A outer s H as us vs Q E z room hot pin e0 hbt r hsp => ?_⟩
  obtain ⟨t, ht, hq⟩ : ∃ t, PSs (L2H.cxH CX0 P w K mg base N x (defScope st) (He.ga K x) (.ref c) A outer s H E z) (defBody st) t ∧ t { nx := fun _ H' => Q .non H', rt := Q } (L2.start N vs) H := by
    have b := hbody A outer s H vs Q E z hot
    rw [ec] at b
    exact b (room.deeper _) hsp
  have KS : K.In s.heap := e0.mod.kin.keeps fun b o e => (e0.bs b o e).1
  have parKind : ∀ y ∈ ps.zip us, (defScope st).names.lookup y.1 = some .local ∨ ((defScope st).names.lookup y.1 = some .cell ∧ ((cellsFrom (s.heap.objs.size + 1) (defScope st).names []).lookup y.1).isSome = true) := fun y hy =>
    (S.par y.1 (List.of_mem_zip (a := y.1) (b := y.2) hy).1).imp id fun q => ⟨q, PySem.W.cellsFrom_some _ _ _ (.inl q)⟩
  refine codeAny_call_function room.depth (KS _ _ lk) rfl S.co S.gen rfl (PySem.W.codeRec_of KS hcd) (hbt _ _ _ _ (wpAny_newFunctionEnv_cells S.kind parKind fun env ee s1 inC => ?_))
  subst ee
  refine ⟨(e0.mod.nolimit.keeps fun b o e => (e0.bs b o e).1).keeps inC.toInCall.keep, codeAny_func ?_⟩
  have I := L2H.inv_startH (CX := CX0) (P := P) (w := w) (E := E) S pin e0 (len _ _ _ _ _ hsp) r inC
  have ends : ∀ {σ' : L2.St} {H' : Hp} {s' : Shared} {v : V} {u : Value}, Inv (L2H.cxH CX0 P w K mg base N x (defScope st) (He.ga K x) (.ref c) A outer s H E z) [] σ' H' s' → RelV v u → Q v H' → CE outer P w H s Q u s' := fun J rv q => ⟨_, _, J.os, J.bare, J.base, J.hok, rv, q⟩
  refine wpAny_mono (ht.run [] s1 _ H _ I hq) (fun fl s' hs => ?_) fun _ _ hs => hs
  cases fl with
  | next => exact hs.elim fun σ' h => h.elim fun H' h => ends (v := V.non) (u := Value.none) h.1 rfl h.2
  | ret u => exact hs.elim fun v h => h.elim fun σ' h => h.elim fun H' h => ends h.1 h.2.1 h.2.2
  | brk => exact hs.elim fun σ' h => h.elim fun H' h => h.2.elim
  | cont => exact hs.elim fun σ' h => h.elim fun H' h => h.2.elim
end
section
variable {X : Cx} {k j : Nat} {x : Str} {sp : Addr × Obj → Sp} {p pos : Pos} {e : Expr} {es : List Expr} {t : TA} {z : Addr × Obj}
theorem pe_cE (c : FnE X.prog X.w X.K X.mg X.base k x sp) (hr : L2H.RoomH j X.A) (hk : k ≤ j) (hot : L2H.Hot1 X.A z) (hz : z ∈ X.pn) (hg : Gl X x) (ha : PA X (e :: es) t) (hdb : (x == ("__debug__" : Str)) = false := by decide)
    (he : starEach (e :: es) X.env = (false, eval e X.env) :: starEach es X.env := by rfl) (hpl : (backTo pos (starEach es X.env)).any (·.1) = false := by rfl) :
    PE X (.Call (.Name x p) (e :: es) [] pos) (fun σ H Q => t σ H fun vs H1 => sp z vs H1 Q C8.E0) := by
  obtain ⟨f, fd, ps, hm, hkp, hb, len, run⟩ := c.ex
  refine ⟨fun pins s σ H Q I h => wpAny_Call_Name_kw (ld_glob I hg hm ?_ hdb)⟩
  refine PySem.W.callWith_K (h₀ := X.base) I.ok.mod.kin hkp (thn (ha.run pos pins s σ H _ I h) fun us s1 hh => ?_) he hpl
  obtain ⟨vs, H1, I1, r, q⟩ := hh
  have lv : us.length = ps.length := r.length.symm.trans (len _ _ _ _ _ q)
  have bd := hb s1 us I1.kIn (by rw [List.append_nil]; exact lv)
  rw [List.append_nil] at bd
  have pz := I1.pin z (List.mem_append_left _ hz)
  have pin : L2H.PinOk X.stack H1 s1 z := ⟨pz.1, pz.2.1, fun m => (List.mem_cons.mp (I1.stkSub z.1 m)).elim pz.2.2.1 pz.2.2.2.1, pz.2.2.2.2⟩
  refine ⟨I1.kIn, wpAny_call (codeAny_mono (run X.A X.stack s1 H1 ⟨us, []⟩ us vs Q C8.E0 z (hr.mono hk) hot pin I1.env0 bd r q) fun r s' hq => ?_)⟩
  cases r with
  | error er => exact hq.elim
  | ok fl =>
    cases fl with
    | ret u => exact I1.after hq
    | next => exact hq.elim
    | brk => exact hq.elim
    | cont => exact hq.elim
/-- isinstance(e, c) of what is handled -/
structure AskE (K : PySem.W.Frag) (D : Addr) : Prop where
  cl : (PySem.W.clsIn K D).isSome = true
  ga : PySem.W.findIn K (.ref D) "__getattribute__" = some (some (.builtin "BaseException.__getattribute__"))
  gt : PySem.W.findIn K (.ref D) "__getattr__" = some none
  sb : PySem.W.subIn K (.ref D) (.type "BaseException") = some true
  at_ : PySem.W.findIn K (.ref D) "__class__" = some (some (.builtin "object.__class__"))
  gs : PySem.W.specialIn K (.builtin "object.__class__") "__get__" = some (some (.builtin "getset_descriptor.__get__"))
  tk : PySem.W.takesIn K (.builtin "object.__class__") = some true
  ob : PySem.W.mroIn K D (.type "object") = some true
def DictOk (H : Hp) (o : Obj) : Prop := o.dict = none ∨ ∃ (dd : Addr) (fs : List (Str × V)), o.dict = some dd ∧ H dd = some (.xd fs)
def rAskE (K : PySem.W.Frag) (D : Addr) (z : Addr × Obj) : List V → Hp → VK → Prop := fun xs H Q => ∃ (c : V) (cv : Value) (b : Bool), xs = [.ref z.1, c] ∧ (∀ u, RelV c u → u = cv) ∧ PySem.W.kitOne K (.ref D) cv = some b ∧ DictOk H z.2 ∧ Q (.bl b) H
theorem call_askE {D : Addr} (T : AskE X.K D) (hz : z ∈ X.pn) (hc : z.2.cls = .ref D) (hf : ∃ vs, z.2.data = .fields vs) : CallR X (.builtin "isinstance") (rAskE X.K D z) := by
  intro pins s σ H xs us Q I r h
  obtain ⟨c, cv, b, rfl, hcv, e, hd, q⟩ := h
  obtain ⟨hget, _⟩ := I.pin z (List.mem_append_left _ hz)
  cases r with
  | cons rx rr =>
    cases rr with
    | cons rt rr =>
      cases rr
      have ec := hcv _ rt
      subst ec
      obtain rfl := rx
      obtain ⟨vs, hv⟩ := hf
      have nc : PySem.W.notCls z.2 = true := by
        unfold PySem.W.notCls
        rw [hv]
      rcases hd with hd | ⟨dd, fs, hd, hx⟩
      · have J : PySem.W.InstAt s.heap z.1 z.2 D none := ⟨hget, hc, nc, by rw [hd]; trivial⟩
        exact PySem.W.kia_one (PySem.W.kitx_exc T.cl T.ga T.gt T.sb T.at_ T.gs T.tk T.ob) I.kIn J e (fun z => nomatch z) fun tk => ⟨.bl b, H, I.kept (t' := tk) fun _ _ z => z, rfl, q⟩
      · obtain ⟨m, ⟨o, _, _, ho, _⟩, _⟩ : ObjOk X.prog X.w H s.heap dd (.xd fs) := I.hok dd _ hx
        have J : PySem.W.InstAt s.heap z.1 z.2 D (some o) := ⟨hget, hc, nc, by rw [hd]; exact ho⟩
        exact PySem.W.kia_one (PySem.W.kitx_exc T.cl T.ga T.gt T.sb T.at_ T.gs T.tk T.ob) I.kIn J e (fun z => nomatch z) fun tk => ⟨.bl b, H, I.kept (t' := tk) fun _ _ z => z, rfl, q⟩
end
end Fc
set_option maxHeartbeats 4000000
/-! Found by heads: what is promised. -/
namespace Fc
open PySem PySem.Spec PyProof.Rows L2
def othP (ps : List P2) (nm : Str) : List P2 := ps.filter fun p => !decide (p.1 = nm)
def osF (rs : List Row) (ps : List P2) (nm : Str) : List (List Str) := (othP ps nm).map fun p => headsM rs p.2
/-- one has all of some -/
def hasA (o s : List Str) : Bool := s.all fun x => decide (x ∈ o)
def hideF (rs : List Row) (ps : List P2) (nm m : Str) : List Str := ((othP ps nm).filter fun p => hasA (headsM rs p.2) (headsM rs m)).map (·.1)
/-- a class that refuses with a field -/
structure RefC (P : Program) (w : World) (K : PySem.W.Frag) (mg : Str → Option Value) (base : Heap) (x fld : Str) : Prop where
  gm : mg x = some (.ref (He.ga K x))
  ox : OexC K (He.ga K x)
  ini : ∃ (fI : Addr) (fd : FuncData) (par : Str), PySem.W.findIn K (.ref (He.ga K x)) "__init__" = some (some (.ref fI)) ∧ PySem.W.typeIn K (.ref fI) = some (.type "function") ∧ FnOk P w K mg base CX0 0 fI fd [("self" : Str), par] (spIni (He.ga K x) fld) ∧ Binds K fd [("self" : Str), par] []
theorem pmk_ref {X : Cx} {x fld : Str} {e : Expr} {te : TE} {p pos : Pos} (R : RefC X.prog X.w X.K X.mg X.base x fld) (hr : Room 1 X.A) (hg : Gl X x) (he : PE X e te)
    (hst : starEach [e] X.env = (false, eval e X.env) :: starEach [] X.env := by rfl) (hdb : (x == ("__debug__" : Str)) = false := by decide) : L2N.PMk X (.Call (.Name x p) [e] [] pos) (tRef (He.ga X.K x) fld te) := by
  obtain ⟨fI, fd, par, h1, h2, h3, h4⟩ := R.ini
  exact pmk_ini R.ox h1 h2 h3 hr h4 hg R.gm he hst hdb
def spFound (K : PySem.W.Frag) (T : List Addr) : Sp := fun vs H Q E => ∃ (v u : V) (rs : List Row) (ps : List P2) (nm m : Str), vs = [v, u, .str nm] ∧ Dn N0 H v (ruleD rs) ∧ Dn N0 H u (papersD ps) ∧ GoodR rs ∧ GoodP ps ∧ (nm, m) ∈ ps ∧ Tbs T H ∧
  (hideF rs ps nm m = [] → ∀ p H', H p = none → Kp N0 H H' → H' p = some (.lst ((aloneM (headsM rs m) (osF rs ps nm)).map V.str)) → Q (.ref p) H') ∧
  (hideF rs ps nm m ≠ [] → ∀ d H', Kp N0 H H' → H' d = some (.xd [(("name" : Str), .str (leastS (hideF rs ps nm m)))]) → E (.ref (He.ga K "NotFound")) (some d) H')
theorem pkv_at {ps : List P2} {nm m : Str} (nd : (ps.map (·.1)).Nodup) (h : (nm, m) ∈ ps) : valV (pkv ps) (.inr nm) = some (.str m) := by
  induction ps with
  | nil => cases h
  | cons p ps ih =>
    rw [List.map_cons] at nd
    obtain ⟨n1, n2⟩ := List.nodup_cons.mp nd
    rcases List.mem_cons.mp h with e | e
    · subst e
      exact valV_pos (p := ((.inr nm : Key), V.str m)) (r := pkv ps) rfl
    · have ne : ¬ p.1 = nm := fun z => n1 (List.mem_map.mpr ⟨_, e, z.symm⟩)
      have z : valV (pkv (p :: ps)) (.inr nm) = valV (pkv ps) (.inr nm) := valV_neg (p := ((.inr p.1 : Key), V.str p.2)) (r := pkv ps) (fun c => ne (Sum.inr.inj c))
      rw [z]
      exact ih n2 e
theorem oth_take {ps : List P2} {nm : Str} {i : Nat} {p : P2} (h : ps[i]? = some p) : othP (ps.take (i + 1)) nm = othP (ps.take i) nm ++ if p.1 = nm then [] else [p] := by
  have tk : ps.take (i + 1) = ps.take i ++ [p] := by rw [← (List.getElem?_eq_some_iff.mp h).2, List.take_append_getElem]
  unfold othP
  rw [tk, List.filter_append]
  congr 1
  by_cases e : p.1 = nm
  · rw [if_pos e, List.filter_cons, if_neg (by simpa using e)]
    rfl
  · rw [if_neg e, List.filter_cons, if_pos (by simpa using e)]
    rfl
theorem dkv_vals : ∀ {hs : List Str} {as : List Addr}, as.length = hs.length → (dkv hs as).map (·.2) = as.map V.ref
  | [], [], _ => rfl
  | [], _ :: _, h => by cases h
  | _ :: _, [], h => by cases h
  | h :: hs, a :: as, l => by
    have i := dkv_vals (hs := hs) (as := as) (Nat.succ.inj l)
    show V.ref a :: (dkv hs as).map (·.2) = _
    rw [i]
    rfl
theorem leastS_mem {l : List Str} (h : l ≠ []) : leastS l ∈ l := by
  unfold leastS
  cases e : riseS l with
  | nil =>
    cases l with
    | nil => exact (h rfl).elim
    | cons x l =>
      have z := (riseS_mem x (x :: l)).mpr List.mem_cons_self
      rw [e] at z
      cases z
  | cons y ys => exact (riseS_mem y l).mp (by rw [e]; exact List.mem_cons_self)
theorem oth_sub (ps : List P2) (nm : Str) : (othP ps nm).Sublist ps := List.filter_sublist
theorem oth_nd {ps : List P2} {nm : Str} (nd : (ps.map (·.1)).Nodup) : ((othP ps nm).map (·.1)).Nodup := nd.sublist ((oth_sub ps nm).map _)
end Fc
set_option maxHeartbeats 4000000
/-! All sets of heads, in order. -/
namespace Fc
open PySem PySem.Spec PyProof.Rows L2
abbrev lD (s : List Str) : PyData := .list (s.map PyData.str)
def subsS : List (List Str) → List Str → List (List Str)
  | S, [] => S
  | S, c :: xs => subsS (S ++ S.map (· ++ [c])) xs
theorem subsS_snoc : ∀ (xs : List Str) (S : List (List Str)) (c : Str), subsS S (xs ++ [c]) = subsS S xs ++ (subsS S xs).map (· ++ [c])
  | [], _, _ => rfl
  | _ :: xs, S, c => subsS_snoc xs _ c
theorem subsS_len : ∀ (xs : List Str) (S : List (List Str)), (subsS S xs).length = S.length * 2 ^ xs.length
  | [], S => by simp [subsS]
  | c :: xs, S => by
    show (subsS (S ++ S.map (· ++ [c])) xs).length = _
    rw [subsS_len xs, List.length_append, List.length_map, List.length_cons, Nat.pow_succ, ← Nat.two_mul, Nat.mul_comm 2 S.length, Nat.mul_assoc, Nat.mul_comm 2]
theorem snoc_cases {α : Type} {xs : List α} {n : Nat} (h : xs.length = n + 1) : ∃ ys c, xs = ys ++ [c] ∧ ys.length = n := by
  have ne : xs ≠ [] := fun e => by rw [e] at h; cases h
  refine ⟨xs.dropLast, xs.getLast ne, (List.dropLast_concat_getLast ne).symm, ?_⟩
  rw [List.length_dropLast]
  omega
theorem subsS_mem (xs : List Str) : ∀ l, l ∈ subsS [[]] xs ↔ l.Sublist xs := by
  have key : ∀ (n : Nat) (xs : List Str), xs.length = n → ∀ l, l ∈ subsS [[]] xs ↔ l.Sublist xs := by
    intro n
    induction n with
    | zero =>
      intro xs h l
      rw [List.length_eq_zero_iff.mp h]
      show l ∈ [[]] ↔ _
      rw [List.mem_singleton, List.sublist_nil]
    | succ n ih =>
      intro xs h l
      obtain ⟨ys, c, rfl, hy⟩ := snoc_cases h
      rw [subsS_snoc, List.mem_append, List.mem_map, ih ys hy l]
      constructor
      · rintro (z | ⟨u, hu, rfl⟩)
        · exact z.trans (List.sublist_append_left _ _)
        · exact ((ih ys hy u).mp hu).append (List.Sublist.refl _)
      · intro z
        obtain ⟨a, b, rfl, ha, hb⟩ := List.sublist_append_iff.mp z
        cases hb with
        | cons _ hb =>
          rw [List.sublist_nil.mp hb, List.append_nil]
          exact .inl ha
        | cons_cons _ hb =>
          rw [List.sublist_nil.mp hb]
          exact .inr ⟨a, (ih ys hy a).mpr ha, rfl⟩
  exact key _ xs rfl
theorem subsS_nd : ∀ {xs : List Str}, xs.Nodup → (subsS [[]] xs).Nodup := fun {xs} h => by
  have key : ∀ (n : Nat) (xs : List Str), xs.length = n → xs.Nodup → (subsS [[]] xs).Nodup := by
    intro n
    induction n with
    | zero =>
      intro xs h _
      rw [List.length_eq_zero_iff.mp h]
      show ([[]] : List (List Str)).Nodup
      exact List.pairwise_singleton _ _
    | succ n ih =>
      intro xs h nd
      obtain ⟨ys, c, rfl, hy⟩ := snoc_cases h
      obtain ⟨n1, n2, n3⟩ := List.nodup_append.mp nd
      have i := ih ys hy n1
      rw [subsS_snoc]
      refine List.nodup_append.mpr ⟨i, List.pairwise_map.mpr (i.imp fun z e => z (List.append_cancel_right e)), fun a ha b hb e => ?_⟩
      obtain ⟨d, _, ed⟩ := List.mem_map.mp hb
      have ca : c ∈ a := by
        rw [e, ← ed]
        exact List.mem_append_right _ List.mem_cons_self
      exact n3 c (((subsS_mem _ a).mp ha).subset ca) c List.mem_cons_self rfl
  exact key _ xs rfl h
theorem subsS_take {xs : List Str} {i : Nat} {c : Str} (h : xs[i]? = some c) : subsS [[]] (xs.take (i + 1)) = subsS [[]] (xs.take i) ++ (subsS [[]] (xs.take i)).map (· ++ [c]) := by
  rw [← subsS_snoc, ← (List.getElem?_eq_some_iff.mp h).2, List.take_append_getElem]
/-! ### the shortest first -/
def choicesT (xs : List Str) : List (List Str) := (List.range (xs.length + 1)).flatMap fun k => combs k xs
theorem choicesT_mem (xs l : List Str) : l ∈ choicesT xs ↔ l.Sublist xs := by
  unfold choicesT
  rw [List.mem_flatMap]
  constructor
  · rintro ⟨k, _, h⟩
    exact ((combs_mem k xs l).mp h).1
  · intro h
    exact ⟨l.length, List.mem_range.mpr (Nat.lt_succ_of_le h.length_le), (combs_mem _ xs l).mpr ⟨h, rfl⟩⟩
theorem combs_ltT : ∀ (r : Nat) (xs : List Str), Rs xs → (combs r xs).Pairwise (fun a b => lexT a b = true)
  | 0, xs, _ => by
    have e : combs 0 xs = [[]] := by cases xs <;> rfl
    rw [e]
    exact List.pairwise_singleton _ _
  | r + 1, [], _ => List.Pairwise.nil
  | r + 1, x :: xs, h => by
    obtain ⟨h1, h2⟩ := List.pairwise_cons.mp h
    show ((combs r xs).map (x :: ·) ++ combs (r + 1) xs).Pairwise _
    refine List.pairwise_append.mpr ⟨List.pairwise_map.mpr ((combs_ltT r xs h2).imp fun {a b} z => ?_), combs_ltT (r + 1) xs h2, fun a ha b hb => ?_⟩
    · unfold lexT
      rw [if_pos rfl]
      exact z
    · obtain ⟨a', _, ea⟩ := List.mem_map.mp ha
      obtain ⟨sb, lb⟩ := (combs_mem (r + 1) xs b).mp hb
      cases b with
      | nil => cases lb
      | cons y b =>
        rw [← ea]
        have lt := h1 y (sb.subset List.mem_cons_self)
        unfold lexT
        rw [if_neg (fun e => by rw [e, ltS_irr] at lt; cases lt)]
        exact lt
def kT (s : List Str) : NT := ((s.length : Nat), s)
theorem choicesT_lex {xs : List Str} (h : Rs xs) : (choicesT xs).Pairwise fun a b => lexN (kT a) (kT b) = true := by
  unfold choicesT
  have key : ∀ L : List Nat, L.Pairwise (· < ·) → (L.flatMap fun k => combs k xs).Pairwise fun a b => lexN (kT a) (kT b) = true := by
    intro L
    induction L with
    | nil => exact fun _ => List.Pairwise.nil
    | cons k L ih =>
      intro hl
      obtain ⟨h1, h2⟩ := List.pairwise_cons.mp hl
      rw [List.flatMap_cons]
      refine List.pairwise_append.mpr ⟨?_, ih h2, fun a ha b hb => ?_⟩
      · refine List.Pairwise.imp_of_mem (fun {a b} ha hb z => ?_) (combs_ltT k xs h)
        have la := ((combs_mem k xs a).mp ha).2
        have lb := ((combs_mem k xs b).mp hb).2
        unfold lexN kT
        rw [if_pos (by show (a.length : Int) = b.length; omega)]
        exact z
      · obtain ⟨j, hj, hb⟩ := List.mem_flatMap.mp hb
        have lt := h1 j hj
        have la := ((combs_mem k xs a).mp ha).2
        have lb := ((combs_mem j xs b).mp hb).2
        unfold lexN kT
        rw [if_neg (by show ¬ (a.length : Int) = b.length; omega)]
        exact decide_eq_true (by show (a.length : Int) < b.length; omega)
  exact key _ List.pairwise_lt_range
/-- all sets, sorted by their size and texts -/
theorem setsT_sorted {xs : List Str} {ys : List NT} (h : Rs xs) (so : SrtO.Srtd (fun v u => lexN v u) ys) (pm : ys.Perm ((subsS [[]] xs).map kT)) : ys = (choicesT xs).map kT := by
  have cl := choicesT_lex h
  have cs : SrtO.Srtd (fun v u => lexN v u) ((choicesT xs).map kT) := List.pairwise_map.mpr (cl.imp fun z => lexN_asym z)
  have cn : ((choicesT xs).map kT).Nodup := List.pairwise_map.mpr (cl.imp fun {a b} z e => by rw [e, lexN_irr] at z; cases z)
  have sn : ((subsS [[]] xs).map kT).Nodup := List.pairwise_map.mpr ((subsS_nd h.nodup).imp fun z e => z (congrArg Prod.snd e))
  refine srtdN_uniq so cs (pm.trans ((List.perm_ext_iff_of_nodup sn cn).mpr fun x => ?_))
  rw [List.mem_map, List.mem_map]
  exact ⟨fun ⟨s, hs, e⟩ => ⟨s, (choicesT_mem _ _).mpr ((subsS_mem _ _).mp hs), e⟩, fun ⟨s, hs, e⟩ => ⟨s, (subsS_mem _ _).mpr ((choicesT_mem _ _).mp hs), e⟩⟩
section
variable {X : Cx} {K : PySem.W.Frag}
theorem call_len_seqK (hK : X.K = K := by rfl) : CallR X (.builtin "len") (fun xs H Q => ∃ p ys, xs = [.ref p] ∧ (SqL K H p ys ∨ SqT K H p ys) ∧ Q (.int ys.length) H) := by
  subst hK
  exact call_len_seq
end
section
variable {X : Cx} {K : PySem.W.Frag}
theorem op_eqDK (hu : X.A.units + 64 < cLine) (hK : X.K = K := by rfl) : OpR X (compareOp .Eq) (rEqD K) := by
  subst hK
  exact op_eqD hu
end
/-! ### where the inner ones stand in the text -/
theorem blkOk_sc {N sN : List Str} {sc scope : Scope} {own : List (Str × Nat)} (sc' : Scope) (e : sc = sc') (eN : N = sN) (h : blkC sN sc' scope own = true) : BlkOk N sc scope own := by
  rw [e, eN]
  exact blkOk_by h
/-- the scope of a comprehension as its block has it -/
def relS (sc outer : Scope) : Scope := { sc with names := sc.names.map fun (n, k) => if (k == NameKind.free && outer.kind == .function && outer.names.lookup n == some .cell) then (n, NameKind.cell) else (n, k) }
def eCmpL : Expr → Expr
  | .Compare l _ _ _ => l
  | e => e
def sIfT : Stmt → Expr
  | .If t _ _ _ => t
  | _ => .Constant .none 0 ⟨0, 0, 0, 0⟩
def sForB : Stmt → List Stmt
  | .For _ _ b _ _ => b
  | _ => []
def sSetV : Stmt → Expr
  | .Assign _ v _ => v
  | _ => .Constant .none 0 ⟨0, 0, 0, 0⟩
def eLcS : Expr → Scope
  | .ListComp _ _ s _ => s
  | _ => ⟨.function, [], false, false, []⟩
def stAt (l : List Stmt) (i : Nat) : Stmt := l.getD i (.Pass ⟨0, 0, 0, 0⟩)
theorem lD_ex {S : Addr → Prop} {H : Hp} {x : V} {s : List Str} (h : Dn S H x (lD s)) : ∃ c, x = .ref c ∧ ¬ S c ∧ H c = some (.lst (s.map V.str)) := by
  obtain ⟨c, ys, rfl, ns, e, h⟩ := h.lst_ex
  have q : ys = s.map V.str := DnA.strs_eq (xs := s) h
  rw [q] at e
  exact ⟨c, rfl, ns, e⟩
theorem lD_in {S : Addr → Prop} {H : Hp} {c : Addr} {s : List Str} (ns : ¬ S c) (h : H c = some (.lst (s.map V.str))) : Dn S H (.ref c) (lD s) := .lst ns h (DnA.strs s)
abbrev nD (s : List Str) : PyData := .tuple [.int (s.length : Nat), lD s]
theorem nD_ex {S : Addr → Prop} {H : Hp} {x : V} {s : List Str} (h : Dn S H x (nD s)) : ∃ t b, x = .ref t ∧ ¬ S b ∧ H t = some (.tup [.int (s.length : Nat), .ref b]) ∧ H b = some (.lst (s.map V.str)) := by
  obtain ⟨t, xs, rfl, ns, e, h⟩ := h.tup_ex
  cases h with
  | cons h1 h2 =>
    cases h2 with
    | cons h3 h4 =>
      cases h4
      obtain ⟨c, rfl, nc, ac⟩ := lD_ex h3
      cases h1
      exact ⟨t, c, rfl, nc, e, ac⟩
theorem nD_num {S : Addr → Prop} {H : Hp} {x : V} {s : List Str} (h : Dn S H x (nD s)) : NumV H x (kT s) := by
  obtain ⟨t, b, e, _, h1, h2⟩ := nD_ex h
  exact ⟨t, b, e, h1, h2, rfl⟩
theorem nD_keys {S : Addr → Prop} {H : Hp} : ∀ {xs : List V} {L : List (List Str)}, DnA S H xs (L.map nD) → xs.map (keyN H) = L.map kT ∧ ∀ x ∈ xs, ∃ s, Dn S H x (nD s) ∧ keyN H x = kT s
  | _, [], h => by
    cases h
    exact ⟨rfl, fun x z => nomatch z⟩
  | _, s :: L, h => by
    cases h with
    | cons h t =>
      obtain ⟨i1, i2⟩ := nD_keys t
      have e := (nD_num h).key
      refine ⟨by rw [List.map_cons, List.map_cons, i1, e], fun x hx => ?_⟩
      rcases List.mem_cons.mp hx with z | z
      · rw [z]
        exact ⟨s, h, e⟩
      · exact i2 x z
def spSets : Sp := fun vs H Q _ => ∃ (a : Addr) (hs : List Str), vs = [.ref a] ∧ H a = some (.lst (hs.map V.str)) ∧ Rs hs ∧ hs.length ≤ 7 ∧ ∀ p xs H', Kp N0 H H' → H' p = some (.lst xs) → DnA N0 H' xs ((choicesT hs).map lD) → Q (.ref p) H'
/-! ### what is due -/
theorem combs_full : ∀ xs : List Str, combs xs.length xs = [xs]
  | [] => rfl
  | x :: xs => by
    show (combs xs.length xs).map (x :: ·) ++ combs (xs.length + 1) xs = [x :: xs]
    rw [combs_full xs]
    have e : combs (xs.length + 1) xs = [] := by
      cases q : combs (xs.length + 1) xs with
      | nil => rfl
      | cons y l =>
        have z := (combs_mem (xs.length + 1) xs y).mp (by rw [q]; exact List.mem_cons_self)
        have := z.1.length_le
        omega
    rw [e]
    rfl
theorem choicesT_eq (xs : List Str) : choicesT xs = fewerM xs ++ [xs] := by
  unfold choicesT fewerM
  rw [List.range_succ, List.flatMap_append]
  congr 1
  show combs xs.length xs ++ [] = _
  rw [List.append_nil, combs_full]
def foundD (rs : List Row) (ps : List P2) (nm m : Str) : PyData := if hideF rs ps nm m = [] then lD (aloneM (headsM rs m) (osF rs ps nm)) else .tuple [.str "NotFound", .str (leastS (hideF rs ps nm m))]
def dueF (rs : List Row) (ps : List P2) (nm m : Str) : PyData := (((choicesT (headsM rs m)).find? (lackedM (osF rs ps nm))).map lD).getD (.tuple [.str "NotFound", .str (leastS (hideF rs ps nm m))])
theorem lacked_hide (rs : List Row) (ps : List P2) (nm m : Str) : lackedM (osF rs ps nm) (headsM rs m) = decide (hideF rs ps nm m = []) := by
  unfold lackedM osF hideF
  rw [Bool.eq_iff_iff, decide_eq_true_eq, Bool.not_eq_true', List.map_eq_nil_iff, List.filter_eq_nil_iff, List.any_eq_false]
  constructor
  · intro h p hp
    exact h _ (List.mem_map.mpr ⟨p, hp, rfl⟩)
  · intro h o ho
    obtain ⟨p, hp, e⟩ := List.mem_map.mp ho
    rw [← e]
    exact h p hp
theorem lacked_mono {oss : List (List Str)} {s hs : List Str} (h : ∀ x ∈ s, x ∈ hs) (l : lackedM oss s = true) : lackedM oss hs = true := by
  unfold lackedM at l ⊢
  rw [Bool.not_eq_true', List.any_eq_false] at l ⊢
  intro o ho c
  refine l o ho ?_
  rw [List.all_eq_true] at c ⊢
  exact fun x hx => c x (h x hx)
theorem due_found (rs : List Row) (ps : List P2) (nm m : Str) : dueF rs ps nm m = foundD rs ps nm m := by
  unfold dueF foundD
  rw [choicesT_eq, List.find?_append]
  have lh := lacked_hide rs ps nm m
  by_cases e : hideF rs ps nm m = []
  · rw [if_pos e]
    rw [decide_eq_true e] at lh
    have z : ([headsM rs m]).find? (lackedM (osF rs ps nm)) = some (headsM rs m) := by rw [List.find?_cons, lh]
    rw [z]
    unfold aloneM
    cases (fewerM (headsM rs m)).find? (lackedM (osF rs ps nm)) <;> rfl
  · rw [if_neg e]
    rw [decide_eq_false e] at lh
    have z : ([headsM rs m]).find? (lackedM (osF rs ps nm)) = none := by rw [List.find?_cons, lh]; rfl
    have y : (fewerM (headsM rs m)).find? (lackedM (osF rs ps nm)) = none := List.find?_eq_none.mpr fun s hs c => by
      have sm : s ∈ choicesT (headsM rs m) := by
        rw [choicesT_eq]
        exact List.mem_append_left _ hs
      have w := lacked_mono (fun x hx => ((choicesT_mem _ _).mp sm).subset hx) c
      rw [lh] at w
      cases w
    rw [y, z]
    rfl
def spDue05 : Sp := fun vs H Q _ => ∃ (v u : V) (rs : List Row) (ps : List P2) (nm m : Str), vs = [v, u, .str nm] ∧ Dn N0 H v (ruleD rs) ∧ Dn N0 H u (papersD ps) ∧ GoodR rs ∧ GoodP ps ∧ (nm, m) ∈ ps ∧ ∀ x H', Kp N0 H H' → Dn N0 H' x (dueF rs ps nm m) → Q x H'
theorem heads_rule {rs : List Row} {m x : Str} (h : x ∈ headsM rs m) : x ∈ ruleHeadsM rs := by
  have z := (riseS_mem _ _).mp h
  refine (riseS_mem _ _).mpr ?_
  unfold turnM at z
  by_cases e : (heldM rs m).isEmpty = true
  · rw [if_pos e] at z
    exact List.mem_append_right _ z
  · rw [if_neg e] at z
    unfold heldM at z
    obtain ⟨r, hr, e2⟩ := List.mem_map.mp z
    exact List.mem_append_left _ (List.mem_map.mpr ⟨r, (List.mem_filter.mp hr).1, e2⟩)
theorem headsM_rs (rs : List Row) (m : Str) : Rs (headsM rs m) := riseS_rs _
theorem headsM7 {rs : List Row} (g : GoodR rs) (m : Str) : (headsM rs m).length ≤ 7 := Nat.le_trans (nodup_le (headsM_rs rs m).nodup fun x hx => heads_rule hx) (heads7 g)
theorem headsM_ok {rs : List Row} (g : GoodR rs) {m x : Str} (h : x ∈ headsM rs m) : PyData.strOk x = true := ruleHeads_ok g x (heads_rule h)
def mOf (ps : List P2) (n : Str) : Str := ((ps.find? fun p => decide (p.1 = n)).map (·.2)).getD ""
theorem mOf_at {ps : List P2} (nd : (ps.map (·.1)).Nodup) {p : P2} (h : p ∈ ps) : mOf ps p.1 = p.2 := by
  induction ps with
  | nil => cases h
  | cons q ps ih =>
    rw [List.map_cons] at nd
    obtain ⟨n1, n2⟩ := List.nodup_cons.mp nd
    unfold mOf
    rcases List.mem_cons.mp h with e | e
    · subst e
      rw [List.find?_cons, decide_eq_true rfl]
      rfl
    · have ne : ¬ q.1 = p.1 := fun z => n1 (List.mem_map.mpr ⟨p, e, z.symm⟩)
      rw [List.find?_cons, decide_eq_false ne]
      exact ih n2 e
/-- who, of some names, has all of some heads -/
def withAll (rs : List Row) (ps : List P2) (s : List Str) (n : Str) : Bool := hasA (headsM rs (mOf ps n)) s
theorem all_filter (o s : List Str) : (s.filter fun h => !decide (h ∈ o)).isEmpty = hasA o s := by
  unfold hasA
  rw [Bool.eq_iff_iff, List.isEmpty_iff, List.filter_eq_nil_iff, List.all_eq_true]
  exact ⟨fun h x hx => by simpa using h x hx, fun h x hx => by simpa using h x hx⟩
theorem with_names {rs : List Row} {ps : List P2} {nm : Str} (nd : (ps.map (·.1)).Nodup) {ys : List Str} (pm : ys.Perm ((othP ps nm).map (·.1))) (s : List Str) : (ys.filter (withAll rs ps s)).isEmpty = lackedM (osF rs ps nm) s := by
  unfold lackedM osF
  rw [Bool.eq_iff_iff, List.isEmpty_iff, List.filter_eq_nil_iff, Bool.not_eq_true', List.any_eq_false]
  constructor
  · intro h o ho
    obtain ⟨p, hp, e⟩ := List.mem_map.mp ho
    have z := h p.1 (pm.mem_iff.mpr (List.mem_map.mpr ⟨p, hp, rfl⟩))
    unfold withAll at z
    rw [mOf_at nd ((oth_sub ps nm).subset hp)] at z
    rw [← e]
    exact z
  · intro h n hn
    obtain ⟨p, hp, e⟩ := List.mem_map.mp (pm.mem_iff.mp hn)
    have z := h _ (List.mem_map.mpr ⟨p, hp, rfl⟩)
    unfold withAll
    rw [← e, mOf_at nd ((oth_sub ps nm).subset hp)]
    exact z
theorem first_least {l : List Str} (h : Rs l) {x : Str} {r : List Str} (e : l = x :: r) : x = leastS l := by
  unfold leastS
  rw [← riseS_of h (fun _ => Iff.rfl), e]
  rfl
theorem leastS_congr {a b : List Str} (h : ∀ x, x ∈ a ↔ x ∈ b) : leastS a = leastS b := by
  unfold leastS
  rw [riseS_congr h]
theorem with_hide {rs : List Row} {ps : List P2} {nm m : Str} (nd : (ps.map (·.1)).Nodup) {ys : List Str} (pm : ys.Perm ((othP ps nm).map (·.1))) (x : Str) : x ∈ ys.filter (withAll rs ps (headsM rs m)) ↔ x ∈ hideF rs ps nm m := by
  unfold hideF
  rw [List.mem_filter, List.mem_map, pm.mem_iff, List.mem_map]
  constructor
  · rintro ⟨⟨p, hp, e⟩, h⟩
    refine ⟨p, List.mem_filter.mpr ⟨hp, ?_⟩, e⟩
    unfold withAll at h
    rw [← e, mOf_at nd ((oth_sub ps nm).subset hp)] at h
    exact h
  · rintro ⟨p, hp, e⟩
    obtain ⟨h1, h2⟩ := List.mem_filter.mp hp
    refine ⟨⟨p, h1, e⟩, ?_⟩
    unfold withAll
    rw [← e, mOf_at nd ((oth_sub ps nm).subset h1)]
    exact h2
end Fc
set_option maxHeartbeats 4000000
/-! The class of what is handled. -/
namespace Fc
open PySem PySem.Spec PyProof.Rows L2
section
variable {X : Cx}
theorem bools_plain (bs : List Bool) : PyData.plainAll (bs.map PyData.bool) = true := by
  induction bs with
  | nil => rfl
  | cons b bs ih =>
    show (PyData.plain (.bool b) && PyData.plainAll (bs.map PyData.bool)) = true
    rw [ih]
    rfl
theorem bools_deep (bs : List Bool) : PyData.depthAll (bs.map PyData.bool) ≤ 1 := by
  induction bs with
  | nil => simp [PyData.depthAll]
  | cons y l ih => simp only [List.map_cons, PyData.depthAll, PyData.depth]; omega
theorem dp_bools {K : PySem.W.Frag} {H : Hp} : ∀ bs : List Bool, DpAll K H (bs.map V.bl) (bs.map PyData.bool)
  | [] => .nil
  | b :: bs => .cons (.bl b) (dp_bools bs)
/-- l.count(True) of truth values -/
def rCountB (K : PySem.W.Frag) : V → List V → Hp → VK → Prop := fun x xs H Q => ∃ (a : Addr) (bs : List Bool), x = .ref a ∧ xs = [.bl true] ∧ SqL K H a (bs.map V.bl) ∧ Q (.int (((bs.map PyData.bool).countP fun y => PyData.eqv y (.bool true) : Nat) : Int)) H
theorem mt_countB (hu : X.A.units + 65 < cLine) : MtR X "list.count" (rCountB X.K) := by
  intro pins s σ H x xs v us Q I rx rxs h
  obtain ⟨a, bs, rfl, rfl, hs, q⟩ := h
  obtain rfl : v = Value.ref a := rx
  cases rxs with
  | cons ry rt =>
    cases rt
    obtain rfl := ry
    obtain ⟨its, rv, pl, hlen⟩ := I.list hs
    obtain ⟨as, r1⟩ := Dp.readsAll I (bs.map PyData.bool) _ its (dp_bools bs) rv
    have hd := bools_deep bs
    exact SeqAt.count_list_data pl.isList r1 (Reads.bool true) (bools_plain bs) rfl (by omega) ⟨.int _, H, I.tok _, ⟨_, rfl⟩, q⟩
end
/-! ### which of the eight -/
def kindsB (i : Nat) : List Bool := (List.range 8).map fun j => decide (j = i)
def wordsB : List Str := ["BadRule", "BadPapers", "BadCabinet", "BadMarks", "NoPaper", "NoHead", "NotFound", "BadText"]
theorem kinds_count : ∀ i : Fin 8, ((kindsB i).map PyData.bool).countP (fun y => PyData.eqv y (.bool true)) = 1 := by decide +kernel
theorem kinds_at : ∀ i : Fin 8, ((kindsB i).map V.bl)[(i : Nat)]? = some (.bl true) := by decide +kernel
theorem kinds_no : ∀ i : Fin 8, ∀ m : Fin 8, m < i → ((kindsB i).map V.bl)[(m : Nat)]? = some (.bl false) := by decide +kernel
theorem words_at : ∀ i : Fin 8, (wordsB.map V.str)[(i : Nat)]? = some (.str (wordsB.getD i "")) := by decide +kernel
/-- what the written part says of the eight classes, asked of one of the i-th -/
structure Kinds (K : PySem.W.Frag) (D : Addr) (i : Nat) : Prop where
  ask : AskE K D
  kit : ∀ j, j < 8 → PySem.W.kitOne K (.ref D) (.ref (He.ga K (wordsB.getD j ""))) = some (decide (j = i))
  val : PySem.W.kitOne K (.ref D) (.type "ValueError") = some true
def spClassE (K : PySem.W.Frag) : Addr × Obj → Sp := fun z vs H Q _ => ∃ (D : Addr) (i : Fin 8), Kinds K D i ∧ vs = [.ref z.1] ∧ z.2.cls = .ref D ∧ (∃ ws, z.2.data = .fields ws) ∧ DictOk H z.2 ∧ ∀ H', Kp N0 H H' → Q (.str (wordsB.getD i "")) H'
theorem DictOk.kp {H H' : Hp} {o : Obj} (h : DictOk H o) (k : Kp N0 H H') : DictOk H' o := by
  rcases h with h | ⟨dd, fs, h1, h2⟩
  · exact .inl h
  · obtain ⟨u, hu, c⟩ := k dd _ h2
    rcases c with rfl | ⟨c, _⟩ | ⟨⟨ps, c, _⟩, _⟩
    · exact .inr ⟨dd, fs, h1, hu⟩
    · exact c.elim
    · cases c
/-- what is said of a class whose refusal is caught and asked for its field -/
structure CaughtC (K : PySem.W.Frag) (i : Nat) (x fld : Str) : Prop where
  kinds : Kinds K (He.ga K x) i
  xf : XfC K (He.ga K x)
  no : PySem.W.findIn K (.ref (He.ga K x)) fld = some none
  exm : PySem.W.exmOne K (.ref (He.ga K x)) (.ref (He.ga K "FileError")) = some true
/-- the class of what stands in slot i, asked -/
def tClassE (K : PySem.W.Frag) (i : Nat) (a : Addr) (cls : Value) (d : Option Addr) : TE := fun σ H Q => σ[i]? = some (some (.ref a)) ∧ ∃ (D : Addr) (j : Fin 8), Kinds K D j ∧ cls = .ref D ∧ (d = none ∨ ∃ (dd : Addr) (fs : List (Str × V)), d = some dd ∧ H dd = some (.xd fs)) ∧ ∀ H', Kp N0 H H' → Q (.str (wordsB.getD j "")) H'
theorem pe_classE {X : Cx} {a : Addr} {oe : Obj} {cls : Value} {d : Option Addr} {pn : List (Addr × Obj)} {j i : Nat} {p pos q : Pos} {n : Str} (c : FnE X.prog X.w X.K X.mg X.base 1 "_law_class" (spClassE X.K)) (hr : Room j X.A) (hk : 1 ≤ j) (hg : Gl X "_law_class") (hz : L2N.Zn cls d oe) (hf : ∃ vs, oe.data = .fields vs)
    (hv : PE (X.suite a ((a, oe) :: pn)) (.Name n q) (tVar i)) (hst : starEach [.Name n q] X.env = (false, eval (.Name n q) X.env) :: starEach [] X.env := by rfl) :
    PE (X.suite a ((a, oe) :: pn)) (.Call (.Name "_law_class" p) [.Name n q] [] pos) (tClassE X.K i a cls d) := by
  obtain ⟨vs, hv2⟩ := hf
  have hot : L2H.Hot1 (X.suite a ((a, oe) :: pn)).A (a, oe) := ⟨rfl, vs, hv2, hz.2.2 vs hv2⟩
  have z := pe_cE (X := X.suite a ((a, oe) :: pn)) (z := (a, oe)) (p := p) (pos := pos) c (show L2H.RoomH j (X.A.mark (some (.ref a))) from ⟨hr.dp, hr.un⟩) hk hot List.mem_cons_self hg (pa_cons hv pa_nil hst) (by decide) hst (by rfl)
  refine ⟨fun pins s σ H Q I h => z.run pins s σ H Q I ?_⟩
  obtain ⟨e, D, w, kd, ec, hd, k⟩ := h
  refine ⟨_, e, D, w, kd, rfl, hz.1.trans ec, ⟨vs, hv2⟩, ?_, k⟩
  rcases hd with hd | ⟨dd, fs, hd, hx⟩
  · exact .inl (hz.2.1.trans hd)
  · exact .inr ⟨dd, fs, hz.2.1.trans hd, hx⟩
def spTold05 (T : List Addr) : Sp := fun vs H Q _ => ∃ (v u : V) (rs : List Row) (ps : List P2) (nm m : Str), vs = [v, u, .str nm] ∧ Dn N0 H v (ruleD rs) ∧ Dn N0 H u (papersD ps) ∧ GoodR rs ∧ GoodP ps ∧ (nm, m) ∈ ps ∧ Tbs T H ∧
  (hideF rs ps nm m = [] → ∀ p H', H p = none → Kp N0 H H' → H' p = some (.lst ((aloneM (headsM rs m) (osF rs ps nm)).map V.str)) → Q (.ref p) H') ∧
  (hideF rs ps nm m ≠ [] → ∀ t H', Kp N0 H H' → H' t = some (.tup [.str "NotFound", .str (leastS (hideF rs ps nm m))]) → Q (.ref t) H')
theorem takes_never {X : Cx} : L2N.Takes X (fun _ _ _ _ => False) := fun u s' x => by
  obtain ⟨_, _, _, _, _, _, _, _, _, _, _, _, _, _, _, _, w⟩ := x
  exact w.elim
theorem alone_sub (hs : List Str) (oss : List (List Str)) : (aloneM hs oss).Sublist hs := by
  unfold aloneM
  cases e : (fewerM hs).find? (lackedM oss) with
  | none => exact List.Sublist.refl _
  | some s =>
    have z := List.mem_of_find?_eq_some e
    unfold fewerM at z
    obtain ⟨k, _, h⟩ := List.mem_flatMap.mp z
    exact ((combs_mem k hs s).mp h).1
theorem found_small {rs : List Row} {ps : List P2} {nm m : Str} (g : GoodR rs) (q : GoodP ps) : PyData.depth (foundD rs ps nm m) < 4 ∧ PyData.weight (foundD rs ps nm m) ≤ 1000000 := by
  unfold foundD
  have dz : ∀ l : List Str, PyData.depthAll (l.map PyData.str) ≤ 1 := fun l => by
    induction l with
    | nil => simp [PyData.depthAll]
    | cons y l ih => simp only [List.map_cons, PyData.depthAll, PyData.depth]; omega
  by_cases e : hideF rs ps nm m = []
  · rw [if_pos e]
    have sub := alone_sub (headsM rs m) (osF rs ps nm)
    generalize aloneM (headsM rs m) (osF rs ps nm) = l at sub
    have l7 := Nat.le_trans sub.length_le (headsM7 g m)
    have w := weightS l fun z hz => by
      have c := turnM_small g m z ((riseS_mem _ _).mp (sub.subset hz))
      have e : z.length = z.cps.size := rfl
      omega
    have d := dz l
    refine ⟨?_, ?_⟩
    · simp only [PyData.depth]
      omega
    · show PyData.weightAll _ ≤ _
      omega
  · rw [if_neg e]
    have z := leastS_mem e
    generalize leastS (hideF rs ps nm m) = s at z
    unfold hideF at z
    obtain ⟨p, hp, es⟩ := List.mem_map.mp z
    have lw := isWordM_len (q.ok p ((oth_sub ps nm).subset (List.mem_filter.mp hp).1)).1
    have w := weightS ["NotFound", s] fun z hz => by
      rcases List.mem_cons.mp hz with y | y
      · rw [y]
        decide
      · rw [List.mem_singleton.mp y, ← es]
        have e : p.1.length = p.1.cps.size := rfl
        omega
    have d := dz ["NotFound", s]
    refine ⟨?_, ?_⟩
    · show PyData.depthAll _ + 1 < 4
      have d' : PyData.depthAll [PyData.str "NotFound", PyData.str s] ≤ 1 := d
      omega
    · show PyData.weightAll _ ≤ _
      have w' : PyData.weightAll [PyData.str "NotFound", PyData.str s] ≤ 1001 * 2 := w
      omega
end Fc
set_option maxHeartbeats 4000000
/-! What the head says of classes that refuse. -/
namespace Fc
open PySem PySem.Spec PyProof.Rows L2
/-! ### the def within the class, taken out of the text -/
def clsDefs : Stmt → List Stmt
  | .ClassDef (body := b) .. => b
  | _ => []
def noPos : Pos := ⟨0, 0, 0, 0⟩
def iniOf (c : Str) (q : Str) (st : Stmt) : IniD := match defBody st with
  | [.Expr (.Call (.Attribute (.Call (.Name _ p0) [] [] p1) _ p2) [e1] [] p3) p4, .Assign [.Attribute (.Name _ p5) fld p6] (.Name par p7) p8] => ⟨c, par, fld, q, defArgs st, defScope st, e1, [p0, p1, p2, p3, p4, p5, p6, p7, p8]⟩
  | _ => ⟨c, c, c, q, defArgs st, defScope st, .Constant .none 0 noPos, []⟩
/-! ### what is seen of it -/
abbrev FnI : Type := Option (Str × Arguments × FuncBody × Scope × Addr × List Str × Addr × Value)
def iniA (K : PySem.W.Frag) (x : Str) : Addr := He.ma K (He.ga K x) "__init__"
def iniW (K : PySem.W.Frag) (x : Str) : FnI := match K.lookup (iniA K x) with
  | some ⟨_, _, .func fd, _⟩ => some (fd.qualname, fd.params, fd.body, fd.scope, fd.globals, fd.closure.map (·.1), fd.builtins, fd.defaults)
  | _ => none
def IniD.val (d : IniD) : FnI := some (d.qual, d.params, .stmts d.body, d.scope, mainGlobals, [("__class__" : Str)], builtinsNs, .none)
/-- the object at C: an own class over ValueError -/
def oexB (K : PySem.W.Frag) (C : Addr) : Bool := match K.lookup C with
  | some ⟨.type t, _, .cls cd, sl⟩ => t == "type" && (match cd.mro, sl.toList with
    | .ref C' :: bm, [_, _, _, _, some (.builtin n), _] => C' == C && (n == "ValueError.__new__" && (!cd.hasDel && (cd.hasDict && PySem.HandSPX.refsVE bm)))
    | _, _ => false)
  | _ => false
def cellB (K : PySem.W.Frag) (C : Addr) (cl : List (Str × Addr)) : Bool := match cl with
  | [(_, cc)] => (match K.lookup cc with
    | some ⟨_, _, .cell (some (.ref D)), _⟩ => D == C
    | _ => false)
  | _ => false
def codeB (K : PySem.W.Frag) (file : Str) (cd : Value) : Bool := match cd with
  | .ref c => (match K.lookup c with
    | some ⟨_, _, .fields vs, _⟩ => (match (vs[2]? : Option Value) with
      | some (Value.str fi _) => file == fi
      | _ => false)
    | _ => false)
  | _ => false
def fnB (K : PySem.W.Frag) (file : Str) (C : Addr) (f : Addr) (q : Str) : Bool := match K.lookup f with
  | some ⟨_, _, .func fd, _⟩ => PySem.W.codeIn K fd.code q && (codeB K file fd.code && cellB K C fd.closure)
  | _ => false
def iniB (K : PySem.W.Frag) (file : Str) (d : IniD) : Bool :=
  oexB K (He.ga K d.cls) && (He.eqO (PySem.W.findIn K (.ref (He.ga K d.cls)) "__setattr__") (some (some (.builtin "object.__setattr__"))) && (decide (PySem.W.subIn K (.ref (He.ga K d.cls)) (.type "BaseException") = some true) && (decide (PySem.W.typeIn K (.ref (He.ga K d.cls)) = some (.type "type")) && (PySem.W.keepIn K (.ref (He.ga K d.cls)) &&
  (He.eqO (PySem.W.findIn K (.ref (He.ga K d.cls)) "__init__") (some (some (.ref (iniA K d.cls)))) && (decide (PySem.W.typeIn K (.ref (iniA K d.cls)) = some (.type "function")) && (fnB K file (He.ga K d.cls) (iniA K d.cls) d.qual && ((PySem.W.clsIn K (He.ga K d.cls)).isSome && (decide (PySem.W.mroIn K (He.ga K d.cls) (.ref (He.ga K d.cls)) = some true) &&
  (He.eqO (PySem.W.nsIn K cStatics "thirdparty.any") (some none) && (He.eqO (PySem.W.ks_superIn K (He.ga K d.cls) (He.ga K d.cls) "__init__") (some (some (.builtin veI))) && (decide (PySem.W.subIn K (.ref (He.ga K d.cls)) (.type "ValueError") = some true) && He.eqO (PySem.W.findIn K (.ref (He.ga K d.cls)) d.fld) (some none)))))))))))))
section
variable {K : PySem.W.Frag}
theorem oexB_ok {C : Addr} (h : oexB K C = true) : ∃ nm q N bs bm sn sub ab col dd k0 k1 k2 k3 k5, K.lookup C = some (excClassObj nm q C N bs bm true sn sub ab col dd k0 k1 k2 k3 k5 "ValueError.__new__") ∧ PySem.HandSPX.refsVE bm = true := by
  unfold oexB at h
  split at h
  · rename_i t dd cd sl ho
    obtain ⟨ht, h⟩ := He.ba h
    split at h
    · rename_i C' bm k0 k1 k2 k3 n k5 hm hs
      obtain ⟨h1, h⟩ := He.ba h
      obtain ⟨h2, h⟩ := He.ba h
      obtain ⟨h3, h⟩ := He.ba h
      obtain ⟨h4, h5⟩ := He.ba h
      have e1 : C' = C := by simpa using h1
      have e2 : n = "ValueError.__new__" := by simpa using h2
      have e3 : t = "type" := by simpa using ht
      subst e1 e2 e3
      obtain ⟨nm, bs, mro, ns, qn, hd, sn, sub, ab, col, del⟩ := cd
      dsimp only at hm h3 h4
      have e4 : del = false := by simpa using h3
      subst hm e4 h4
      obtain ⟨l⟩ := sl
      have e5 : l = [k0, k1, k2, k3, some (.builtin "ValueError.__new__"), k5] := hs
      subst e5
      exact ⟨nm, qn, ns, bs, bm, sn, sub, ab, col, dd, k0, k1, k2, k3, k5, ho, h5⟩
    · cases h
  · cases h
theorem cellB_ok {C : Addr} {cl : List (Str × Addr)} (h : cellB K C cl = true) : ∃ (n : Str) (cc : Addr) (oc : Value) (od : Option Addr) (osl : Array (Option Value)), cl = [(n, cc)] ∧ K.lookup cc = some ⟨oc, od, .cell (some (.ref C)), osl⟩ := by
  unfold cellB at h
  split at h
  · rename_i n cc
    split at h
    · rename_i oc od D osl ho
      have e : D = C := by simpa using h
      subst e
      exact ⟨n, cc, oc, od, osl, rfl, ho⟩
    · cases h
  · cases h
theorem codeB_ok {file : Str} {cd : Value} (h : codeB K file cd = true) : ∃ (c : Addr) (oc : Value) (od : Option Addr) (vs : Array Value) (osl : Array (Option Value)) (fi : Str) (tf : Tok), cd = .ref c ∧ K.lookup c = some ⟨oc, od, .fields vs, osl⟩ ∧ vs[2]? = some (.str fi tf) ∧ (file == fi) = true := by
  unfold codeB at h
  split at h
  · rename_i c
    split at h
    · rename_i oc od vs osl ho
      split at h
      · rename_i fi tf hv
        exact ⟨c, oc, od, vs, osl, fi, tf, rfl, ho, hv, h⟩
      · cases h
    · cases h
  · cases h
theorem fnB_ok {file : Str} {C f : Addr} {q : Str} (h : fnB K file C f q = true) : ∃ (oc : Value) (od : Option Addr) (fd : FuncData) (osl : Array (Option Value)), K.lookup f = some ⟨oc, od, .func fd, osl⟩ ∧ PySem.W.codeIn K fd.code q = true ∧ codeB K file fd.code = true ∧ cellB K C fd.closure = true := by
  unfold fnB at h
  split at h
  · rename_i oc od fd osl ho
    obtain ⟨h1, h⟩ := He.ba h
    obtain ⟨h2, h3⟩ := He.ba h
    exact ⟨oc, od, fd, osl, ho, h1, h2, h3⟩
  · cases h
/-- what is asked of the text of such a class, whatever the heap -/
structure IniT (d : IniD) : Prop where
  args : ∃ a1 a2 : Arg, d.params = ⟨[], [a1, a2], none, [], [], none, []⟩ ∧ a1.arg = "self" ∧ a2.arg = d.par
  bind : ∀ fd : FuncData, fd.params = d.params → fd.defaults = .none → ∀ us : List Value, us.length = 2 → bindArgs fd ⟨us, []⟩ = pure ([("self" : Str), d.par].zip us)
  scope : NdefX.NScope [("self" : Str), d.par, "__class__"] [("self" : Str), d.par] [("__class__" : Str)] d.scope
  sup : d.scope.names.lookup ("super" : Str) = some .globalImplicit
  msg : Msg d.par d.e1
  db1 : (d.par == ("__debug__" : Str)) = false
  db2 : (d.par == ("__classdict__" : Str)) = false
  ev : ∀ env : Env, ∃ pl : Sem Bool, eval (.Call (.Attribute (.Call (.Name "super" (d.pos 0)) [] [] (d.pos 1)) "__init__" (d.pos 2)) [d.e1] [] (d.pos 3)) env = (do
      let ov ← attributeBase (.Call (.Name "super" (d.pos 0)) [] [] (d.pos 1)) "__init__" env (eval (.Call (.Name "super" (d.pos 0)) [] [] (d.pos 1)) env)
      standAt (d.pos 2).atName
      let (f, first) ← holding [ov] (getMethod ov "__init__" pl)
      callWith (d.pos 3) f first (backTo (d.pos 3) (starEach [d.e1] env)) [])
  sw1 : ∀ env : Env, swapsWith (.Call (.Attribute (.Call (.Name "super" (d.pos 0)) [] [] (d.pos 1)) "__init__" (d.pos 2)) [d.e1] [] (d.pos 3)) none (d.pos 4).line env = pure false
  sw2 : ∀ env : Env, swapsWith (.Name d.par (d.pos 7)) (some (.Attribute (.Name "self" (d.pos 5)) d.fld (d.pos 6))) (d.pos 8).line env = pure false
theorem refC_of {P : Program} {w : World} {mg : Str → Option Value} {base : Heap} {d : IniD} (D : IniT d) (h : iniB K P.main.file d = true) (e : iniW K d.cls = d.val) (gm : mg d.cls = some (.ref (He.ga K d.cls))) (ms : mg "super" = none) (htop : (P.main.scope.names.lookup ("super" : Str)).isSome = false) :
    RefC P w K mg base d.cls d.fld := by
  unfold iniB at h
  obtain ⟨h1, h⟩ := He.ba h
  obtain ⟨h2, h⟩ := He.ba h
  obtain ⟨h3, h⟩ := He.ba h
  obtain ⟨h4, h⟩ := He.ba h
  obtain ⟨h5, h⟩ := He.ba h
  obtain ⟨h6, h⟩ := He.ba h
  obtain ⟨h7, h⟩ := He.ba h
  obtain ⟨h8, h⟩ := He.ba h
  obtain ⟨h9, h⟩ := He.ba h
  obtain ⟨h10, h⟩ := He.ba h
  obtain ⟨h11, h⟩ := He.ba h
  obtain ⟨h12, h⟩ := He.ba h
  obtain ⟨h13, h14⟩ := He.ba h
  have ox : OexC K (He.ga K d.cls) := ⟨oexB_ok h1, He.eqO_ok h2, of_decide_eq_true h3, of_decide_eq_true h4, h5⟩
  obtain ⟨oc, od, fd, osl, lk, c1, c2, c3⟩ := fnB_ok h8
  obtain ⟨n, cc, oc2, od2, osl2, ecl, lkc⟩ := cellB_ok c3
  obtain ⟨cda, oc3, od3, vs, osl3, fi, tf, ecd, lkd, hv, hf⟩ := codeB_ok c2
  obtain ⟨a1, a2, ep, e1, e2⟩ := D.args
  have e' : (some (fd.qualname, fd.params, fd.body, fd.scope, fd.globals, fd.closure.map (·.1), fd.builtins, fd.defaults) : FnI) = some (d.qual, d.params, .stmts d.body, d.scope, mainGlobals, [("__class__" : Str)], builtinsNs, .none) := by
    have z : iniW K d.cls = some (fd.qualname, fd.params, fd.body, fd.scope, fd.globals, fd.closure.map (·.1), fd.builtins, fd.defaults) := by
      unfold iniW
      rw [lk]
    rw [← z]
    exact e
  simp only [Option.some.injEq, Prod.mk.injEq] at e'
  obtain ⟨q1, q2, q3, q4, q5, q6, q7, q8⟩ := e'
  have en : n = ("__class__" : Str) := by
    rw [ecl] at q6
    simpa using q6
  subst en
  rw [ecd] at c1
  have T : SupC K P.main.file (He.ga K d.cls) (iniA K d.cls) cc cda a1 := ⟨ox, ⟨oc, od, fd, osl, lk, by rw [q2, ep]; rfl⟩, ⟨oc3, od3, vs, osl3, fi, tf, lkd, hv, hf⟩, ⟨oc2, od2, osl2, lkc⟩, Option.isSome_iff_exists.mp h9, of_decide_eq_true h10, He.eqO_ok h11, He.eqO_ok h12, of_decide_eq_true h13⟩
  refine ⟨gm, ox, iniA K d.cls, fd, d.par, He.eqO_ok h6, of_decide_eq_true h7, fn_ini T e1 lk q1 q4 q5 ecl q7 q3 ecd c1 D.scope D.sup D.msg (He.eqO_ok h14) ms D.db1 D.db2 htop D.ev D.sw1 D.sw2, ?_⟩
  exact Binds.all fun us hl => D.bind fd q2 q8 us hl
end
/-! ### the texts of the refusals -/
theorem str_short {a b : Str} (h1 : a.length ≤ 5000) (h2 : b.length ≤ 5000) : (a ++ b).length ≤ sizeLine := by
  rw [PySem.Str.length_append, sizeLine_eq]
  omega
theorem app_short {a b : Str} {n k : Nat} (h1 : a.length ≤ n) (h2 : b.length ≤ k) : (a ++ b).length ≤ n + k := by
  rw [PySem.Str.length_append]
  omega
theorem empty_len : (Str.empty : Str).length = 0 := rfl
/-- how the number is told -/
theorem int_short {i : Int} (h : i.natAbs.log2 < 1920) : (PySem.Str.ofString (toString i)).length ≤ 2000 := by
  have e := int_text_length_le (k := 1920) (by decide) h
  rw [PySem.ofString_length]
  omega
theorem msg2 {par : Str} {t : Str} {j : Nat} {q1 q2 q3 q4 : Pos} (ht : t.length ≤ 1000) (h1 : (par == ("__debug__" : Str)) = false) (h2 : (par == ("__classdict__" : Str)) = false) : Msg par (.JoinedStr [.FormattedValue (.Name par q1) (-1) none q2, .Constant (.str t) j q3] q4) := by
  intro X hN hk
  refine ⟨_, pa_cons (pe_joined (PJ.cons (pe_fmt (pe_var (i := 1) hN (.inl hk) h1 h2)) (PJ.cons pe_str PJ.nil))) pa_nil, rfl, fun σ H y hσ sy R hR => ?_⟩
  refine ⟨y, hσ, ?_⟩
  rcases sy with ⟨z, rfl, lz⟩ | ⟨i, rfl, li⟩
  · refine .inl ⟨z, rfl, by rw [sizeLine_eq]; omega, z, rfl, str_short (by rw [empty_len]; omega) (by omega), t, rfl, ?_, ?_⟩
    · exact str_short (Nat.le_trans (app_short (n := 0) (k := 1000) (Nat.le_of_eq empty_len) lz) (by omega)) (by omega)
    · exact hR _ rfl
  · have l := int_short li
    refine .inr ⟨i, rfl, li, _, rfl, str_short (by rw [empty_len]; omega) (by omega), t, rfl, ?_, ?_⟩
    · exact str_short (Nat.le_trans (app_short (n := 0) (k := 2000) (Nat.le_of_eq empty_len) l) (by omega)) (by omega)
    · exact hR _ rfl
theorem msg3 {par : Str} {t t2 : Str} {j j2 : Nat} {q0 q1 q2 q3 q4 : Pos} (ht : t.length ≤ 1000) (ht2 : t2.length ≤ 1000) (h1 : (par == ("__debug__" : Str)) = false) (h2 : (par == ("__classdict__" : Str)) = false) : Msg par (.JoinedStr [.Constant (.str t) j q0, .FormattedValue (.Name par q1) (-1) none q2, .Constant (.str t2) j2 q3] q4) := by
  intro X hN hk
  refine ⟨_, pa_cons (pe_joined (PJ.cons pe_str (PJ.cons (pe_fmt (pe_var (i := 1) hN (.inl hk) h1 h2)) (PJ.cons pe_str PJ.nil)))) pa_nil, rfl, fun σ H y hσ sy R hR => ?_⟩
  have l0 : ((Str.empty : Str) ++ t).length ≤ 1000 := by
    rw [PySem.Str.length_append, empty_len]
    omega
  refine ⟨t, rfl, by rw [sizeLine_eq]; omega, y, hσ, ?_⟩
  rcases sy with ⟨z, rfl, lz⟩ | ⟨i, rfl, li⟩
  · refine .inl ⟨z, rfl, by rw [sizeLine_eq]; omega, z, rfl, str_short (by omega) (by omega), t2, rfl, ?_, ?_⟩
    · exact str_short (Nat.le_trans (app_short l0 lz) (by omega)) (by omega)
    · exact hR _ rfl
  · have l := int_short li
    refine .inr ⟨i, rfl, li, _, rfl, str_short (by omega) (by omega), t2, rfl, ?_, ?_⟩
    · exact str_short (Nat.le_trans (app_short l0 l) (by omega)) (by omega)
    · exact hR _ rfl
/-! ### what is asked of a class whose refusal is caught -/
def askB (K : PySem.W.Frag) (D : Addr) : Bool := (PySem.W.clsIn K D).isSome && (He.eqO (PySem.W.findIn K (.ref D) "__getattribute__") (some (some (.builtin "BaseException.__getattribute__"))) && (He.eqO (PySem.W.findIn K (.ref D) "__getattr__") (some none) && (decide (PySem.W.subIn K (.ref D) (.type "BaseException") = some true) &&
  (He.eqO (PySem.W.findIn K (.ref D) "__class__") (some (some (.builtin "object.__class__"))) && (He.eqO (PySem.W.specialIn K (.builtin "object.__class__") "__get__") (some (some (.builtin "getset_descriptor.__get__"))) && (decide (PySem.W.takesIn K (.builtin "object.__class__") = some true) && decide (PySem.W.mroIn K D (.type "object") = some true)))))))
def kindsOkB (K : PySem.W.Frag) (D : Addr) (i : Nat) : Bool := askB K D && (((List.range 8).all fun j => decide (PySem.W.kitOne K (.ref D) (.ref (He.ga K (wordsB.getD j ""))) = some (decide (j = i)))) && decide (PySem.W.kitOne K (.ref D) (.type "ValueError") = some true))
theorem askB_ok {K : PySem.W.Frag} {D : Addr} (h : askB K D = true) : AskE K D := by
  unfold askB at h
  obtain ⟨h1, h⟩ := He.ba h
  obtain ⟨h2, h⟩ := He.ba h
  obtain ⟨h3, h⟩ := He.ba h
  obtain ⟨h4, h⟩ := He.ba h
  obtain ⟨h5, h⟩ := He.ba h
  obtain ⟨h6, h⟩ := He.ba h
  obtain ⟨h7, h8⟩ := He.ba h
  exact ⟨h1, He.eqO_ok h2, He.eqO_ok h3, of_decide_eq_true h4, He.eqO_ok h5, He.eqO_ok h6, of_decide_eq_true h7, of_decide_eq_true h8⟩
theorem kindsOkB_ok {K : PySem.W.Frag} {D : Addr} {i : Nat} (h : kindsOkB K D i = true) : Kinds K D i := by
  unfold kindsOkB at h
  obtain ⟨h1, h⟩ := He.ba h
  obtain ⟨h2, h3⟩ := He.ba h
  exact ⟨askB_ok h1, fun j hj => of_decide_eq_true (List.all_eq_true.mp h2 j (List.mem_range.mpr hj)), of_decide_eq_true h3⟩
def capB (K : PySem.W.Frag) (i : Nat) (x fld : Str) : Bool := kindsOkB K (He.ga K x) i && (xfB K (He.ga K x) && (He.eqO (PySem.W.findIn K (.ref (He.ga K x)) fld) (some none) && decide (PySem.W.exmOne K (.ref (He.ga K x)) (.ref (He.ga K "FileError")) = some true)))
theorem capB_ok {K : PySem.W.Frag} {i : Nat} {x fld : Str} (h : capB K i x fld = true) : CaughtC K i x fld := by
  unfold capB at h
  obtain ⟨h1, h⟩ := He.ba h
  obtain ⟨h2, h⟩ := He.ba h
  obtain ⟨h3, h4⟩ := He.ba h
  exact ⟨kindsOkB_ok h1, xfB_ok h2, He.eqO_ok h3, of_decide_eq_true h4⟩
/-! ### the hook: the written part bears the statics too -/
def asY (g : Addr → Option Obj) (n : Nat) : List Addr := cStatics :: He.asD g n
abbrev AlY : Type := He.AlX × List FnI
def obsY (n : Nat) (fa : List He.Fa) (fn : List He.DefD) (tf : List He.Defn) (ex : PySem.W.Frag → Bool) (ini : List IniD) (g : Addr → Option Obj) : AlY :=
  ((He.obsT fa fn [] (He.frT g (asY g n)), ex (He.frT g (asY g n)) && He.tabsB g tf (He.frT g (asY g n))), ini.map fun d => iniW (He.frT g (asY g n)) d.cls)
def valY (fn : List He.DefD) (ini : List IniD) (w : World) : AlY := ((He.valT fn [] w, true), ini.map IniD.val)
structure SaysY (fa : List He.Fa) (fn : List He.DefD) (tf : List He.Defn) (ex : PySem.W.Frag → Bool) (ini : List IniD) (w : World) (h : Heap) (K : PySem.W.Frag) : Prop where
  x : He.SaysX fa fn [] tf ex w h K
  i : (ini.map fun d => iniW K d.cls) = ini.map IniD.val
theorem saysY_of {n : Nat} {fa : List He.Fa} {fn : List He.DefD} {tf : List He.Defn} {ex : PySem.W.Frag → Bool} {ini : List IniD} {w : World} {h : Heap} (e : obsY n fa fn tf ex ini h.get? = valY fn ini w) : SaysY fa fn tf ex ini w h (He.frT h.get? (asY h.get? n)) := by
  have e0 := congrArg Prod.fst e
  have e1 : He.obsT fa fn [] (He.frT h.get? (asY h.get? n)) = He.valT fn [] w := congrArg Prod.fst e0
  have e2 : (ex (He.frT h.get? (asY h.get? n)) && He.tabsB h.get? tf (He.frT h.get? (asY h.get? n))) = true := congrArg Prod.snd e0
  obtain ⟨h1, h2⟩ := He.ba e2
  have tab : ∀ q ∈ tf, PySem.W.codeHdIn (He.frT h.get? (asY h.get? n)) (He.cT (He.frT h.get? (asY h.get? n)) q).1 (He.cT (He.frT h.get? (asY h.get? n)) q).2 = true ∧ ∃ ob, h.get? (He.cT (He.frT h.get? (asY h.get? n)) q).2 = some ob ∧ He.emptyTab ob = true := fun q hq => by
    obtain ⟨h3, h4⟩ := He.ba (List.all_eq_true.mp h2 q hq)
    refine ⟨h3, ?_⟩
    cases c : h.get? (He.cT (He.frT h.get? (asY h.get? n)) q).2 with
    | none =>
      rw [c] at h4
      cases h4
    | some ob =>
      rw [c] at h4
      exact ⟨ob, rfl, h4⟩
  exact ⟨⟨e1, h1, fun q hq => (tab q hq).1, fun q hq => (tab q hq).2.elim fun ob z => He.frT_none z.1 z.2, fun q hq => (tab q hq).2.elim fun ob z => by rw [z.1, He.emptyTab_eq z.2]⟩, congrArg Prod.snd e⟩
def hookY (n : Nat) (fa : List He.Fa) (fn : List He.DefD) (tf : List He.Defn) (ex : PySem.W.Frag → Bool) (ini : List IniD) : PySem.W.Hook where
  α := AlY
  obs := fun s => obsY n fa fn tf ex ini s.heap.get?
  val := fun w => valY fn ini w
  says := fun w h => ∃ K : PySem.W.Frag, K.In h ∧ SaysY fa fn tf ex ini w h K
  of := fun _ _ e => ⟨_, He.frT_in, saysY_of e⟩
  keeps := fun _ _ _ ⟨K, hK, c⟩ k => ⟨K, PySem.W.Frag.In.keeps hK k, ⟨⟨c.x.t, c.x.more, c.x.hd, c.x.out, fun p hp => k _ _ (c.x.empty p hp)⟩, c.i⟩⟩
theorem obsY_eq {n : Nat} {fa : List He.Fa} {fn : List He.DefD} {tf : List He.Defn} {ex : PySem.W.Frag → Bool} {ini : List IniD} {g : Addr → Option Obj} {s : Shared} (h : ∀ a, g a = s.heap.get? a) : obsY n fa fn tf ex ini g = (hookY n fa fn tf ex ini).obs s := by
  have e : g = s.heap.get? := funext h
  rw [e]
  rfl
end Fc
set_option maxHeartbeats 4000000
/-! A comprehension whose element may refuse. -/
namespace Fc
open PySem PySem.Spec PyProof.Rows L2
section
variable {X : Cx} {pins : List (Addr × Obj)} {σ : L2.St} {H : Hp} {s s' : Shared} {W : XK} {u : Value}
/-- what a call let out, in flight -/
theorem fly_call (I : Inv X pins σ H s) (c : L2N.CX X.prog X.w X.stack H s W u s') :
    ∃ (a : Addr) (B : Heap) (sI : Shared) (pins' : List (Addr × Obj)) (σ' : L2.St) (H' : Hp) (cls : Value) (d : Option Addr), u = .ref a ∧ Inv X pins' σ' H' sI ∧ (∀ b o, sI.heap.get? b = some o → b ∉ frs X.stack → B.get? b = some o) ∧ sI.heap.UpToSlots s'.heap ∧
      HandSPX.FlyingZ B X.stack a (L2N.Zn cls d) s'.heap ∧ H' a = none ∧ s'.os = sI.os ∧ AllBare s'.gens ∧ W cls d H' := by
  have x := L2N.XE.of_call (W := fun cls d _ H => W cls d H) I (fun _ _ _ h => h) c
  obtain ⟨a0, B0, H0, cls0, d0, e0, fl0, _⟩ := c
  obtain ⟨a, B, sI, pins', σ', H', cls, d, e, I', nb, up, sky, na, os, ag, w⟩ := x
  subst e0
  cases e
  obtain ⟨_, _, _, oe0, vs0, T0, oT0, ts0, he0, hz0, hd0, h10, hnT0, hTe0, hT0, hdT0, h30⟩ := fl0
  refine ⟨a0, B, sI, pins', σ', H', cls, d, rfl, I', nb, up, ?_, na, os, ag, w⟩
  rcases sky with ⟨_, _, _, oe, vs, he, hz, hd, h1⟩ | fl | ⟨_, _, _, oe, vs, T, oT, ts, he, hz, hd, h1, hnT, hTe, hT, hdT, h3⟩
  · rw [he0] at he; cases he
    rw [hd0] at hd; cases hd
    rw [h10] at h1; cases h1
  · exact fl
  · rw [he0] at he; cases he
    rw [hd0] at hd; cases hd
    rw [h10] at h1; cases h1
    rw [hT0] at hT; cases hT
    rw [hdT0] at hdT; cases hdT
    rw [h30] at h3
    simp [rawInt] at h3
end
theorem funFrames_less {h B B' : Heap} (k : ∀ b, B.get? b = none → B'.get? b = none) : ∀ {l : List Env}, h.FunFrames B l → h.FunFrames B' l
  | [], _ => trivial
  | _ :: _, ⟨hk, ⟨L, o, hf, hn, ho, hd⟩, hr⟩ => ⟨hk, ⟨L, o, hf, k _ hn, ho, hd⟩, funFrames_less k hr⟩
section
variable {X : Cx} {pins pins' : List (Addr × Obj)} {σ σ' : L2.St} {H3 H' : Hp} {s3 s' s'' : Shared} {W : XK} {u : Value} {scope : Scope} {ce : Env} {fp : List Addr} {xe : Value → Shared → Prop}
theorem comp_raise (tk : L2N.Takes X (fun cls d _ H => W cls d H)) (hs : X.stack = X.env :: X.outer) (hf : X.env.frame = some X.env.locals) (cf : ce.frame = X.env.frame) (cL : s3.heap.objs.size ≤ ce.locals)
    (I3 : Inv X pins σ H3 s3) (f3 : ∀ b ∈ fp, FpOk X pins H3 b) (I : Inv ((X.blk s3 H3 scope ce fp).wish xe) pins' σ' H' s') (c : L2N.CX X.prog X.w X.stack H' s' W u s'') :
    notedBy (model X.prog X.w) X.A ce (CompFails (model X.prog X.w) X.A X.xe ce) u s'' := by
  obtain ⟨a, B, sI, p2, σ2, H2, cls, d, rfl, J0, nb, up, fl, na, os, ag, w⟩ := fly_call I c
  have J : Inv (X.blk s3 H3 scope ce fp) p2 σ2 H2 sI := J0.unwish
  have nb : ∀ b o, sI.heap.get? b = some o → b ∉ frs X.stack → B.get? b = some o := nb
  have fl : HandSPX.FlyingZ B (X.env :: X.outer) a (L2N.Zn cls d) s''.heap := by
    have z : HandSPX.FlyingZ B X.stack a (L2N.Zn cls d) s''.heap := fl
    rw [hs] at z
    exact z
  have hfr : X.A.frames = some (X.env :: X.outer) := by rw [I3.ok.frames, hs]
  have nC : H2 ce.locals = none := J.free
  obtain ⟨m, hn, _⟩ := J.loc
  have hn : sI.heap.Ns ce.locals m := hn
  show wpAny _ _ (noteFrame (.ref a) ce) _ _ _
  rw [noteFrame_env _ cf]
  refine PXN.looks_onZ L2N.Zn.steady hfr hf fl fun h1 hh up1 => ?_
  have up01 := up.trans up1
  have n1 : h1.Ns ce.locals m := up01.ns hn
  show CompFails _ _ _ ce (.ref a) _
  refine ⟨m, n1, fun h2 m2 n2 sb => ?_⟩
  obtain ⟨b1, b2, b3, oe, vs, T, oT, ts, he, hz, hd, g1, hnT, hTe, hT, hdT, g3⟩ := hh
  have ne1 : ∀ b o vs', h1.get? b = some o → o.data = .fields vs' → b ≠ ce.locals := fun b o vs' e1 e2 z => by
    obtain ⟨oL, es, ep, hoL, hdL, _⟩ := n1
    rw [z, hoL] at e1
    cases e1
    rw [hdL] at e2
    cases e2
  have he2 : h2.get? a = some oe := (sb.2 a (ne1 _ _ _ he hd)).trans he
  have hT2 : h2.get? T = some oT := (sb.2 T (ne1 _ _ _ hT hdT)).trans hT
  have held : HandSPX.HeldZ (PySem.W.hideAll B [ce.locals]) (X.env :: X.outer) a (L2N.Zn cls d) X.env.locals h2 := by
    refine ⟨fun b o e => ?_, ?_, ?_, oe, vs, T, oT, ts, he2, hz, hd, g1, ?_, hTe, hT2, hdT, g3⟩
    · have nb2 : b ≠ ce.locals := fun z => by
        rw [z, PySem.W.hideAll_none [ce.locals] (List.mem_singleton.mpr rfl)] at e
        cases e
      exact (sb.2 b nb2).trans (b1 b o (PySem.W.of_hideAll _ e))
    · cases q : (PySem.W.hideAll B [ce.locals]).get? a with
      | none => rfl
      | some o =>
        have z := PySem.W.of_hideAll _ q
        rw [b2] at z
        cases z
    · refine funFrames_less (fun b e => ?_) (Heap.FunFrames.sameBut sb n2 b3)
      cases q : (PySem.W.hideAll B [ce.locals]).get? b with
      | none => rfl
      | some o =>
        have z := PySem.W.of_hideAll _ q
        rw [e] at z
        cases z
    · cases q : (PySem.W.hideAll B [ce.locals]).get? T with
      | none => rfl
      | some o =>
        have z := PySem.W.of_hideAll _ q
        rw [hnT] at z
        cases z
  show wpAny _ _ (PySem.passOn "comprehension.variables-let-go" (.ref a) ce : Sem Value) _ _ _
  unfold PySem.passOn
  refine wpAny_bind (wpAny_field he2 hd g1 ?_)
  rw [if_neg (show ¬ ((Value.ref T == Value.none) = true) from by simp), cf, hf]
  refine wpAny_bind (HandSPX.setFlight_onZ held fun h4 hh4 up4 => ?_)
  refine wpAny_throw ?_
  have I7 : Inv X pins σ H2 sI := I3.call' (ch := fp) J.os J.base J.hok J.bare fun b hb => ⟨(f3 b hb).2.2.2.1, (f3 b hb).2.1, (f3 b hb).2.2.2.2.1, (f3 b hb).2.2.2.2.2⟩
  obtain ⟨f0, f1, f2, f3', f4, f5⟩ := I3.fpOk (H' := H2) cL nC
  have I8 := I7.turned (t' := sI.toks) (h' := PySem.W.hideAll sI.heap [ce.locals]) (fun b o hb e => PySem.W.hideAll_get [ce.locals] e (by simpa using hb)) f0 f1 f3' f4 f5
  refine tk _ _ ⟨a, PySem.W.hideAll B [ce.locals], _, pins, σ, H2, cls, d, rfl, I8, fun b o e hb => ?_, ?_, .inr (.inr (by rw [hs]; exact hh4)), na, os, ag, w⟩
  · have e : (PySem.W.hideAll sI.heap [ce.locals]).get? b = some o := e
    have nb2 : b ≠ ce.locals := fun z => by
      rw [z, PySem.W.hideAll_none [ce.locals] (List.mem_singleton.mpr rfl)] at e
      cases e
    exact PySem.W.hideAll_get [ce.locals] (nb b o (PySem.W.of_hideAll _ e) hb) (by simpa using nb2)
  · intro b o e hnf
    have e : (PySem.W.hideAll sI.heap [ce.locals]).get? b = some o := e
    have nb2 : b ≠ ce.locals := fun z => by
      rw [z, PySem.W.hideAll_none [ce.locals] (List.mem_singleton.mpr rfl)] at e
      cases e
    obtain ⟨sl, e1⟩ := up01 b o (PySem.W.of_hideAll _ e) hnf
    have e2 : h2.get? b = some { o with slots := sl } := (sb.2 b nb2).trans e1
    exact up4 b { o with slots := sl } e2 hnf
end
/-- where a block's refusal goes -/
def wishC (X : Cx) (use : Option (Value → Sem Unit)) (Qf : Value → Shared → Prop) (D : Addr) (ce : Env) : Value → Shared → Prop :=
  notedBy (model X.prog X.w) X.A ce fun e s' => compEnds (model X.prog X.w) X.A X.xe use Qf (.ref D) ce (.error e) s'
section
variable {X : Cx}
theorem lcX_core {pins : List (Addr × Obj)} {s : Shared} {σ : L2.St} {H : Hp} {Q : VK} {W : XK} {elt tg iter : Expr} {ifs : List Expr} {scope : Scope} {own : List (Str × Nat)} {pos pos' : Pos} {wi : TI} {g : TG} {tt : TT} {te : TE} {use : Option (Value → Sem Unit)} {Qf : Value → Shared → Prop}
    (hc : X.calm = true) (hN : X.N.Nodup) (tk : L2N.Takes X (fun cls d _ H => W cls d H)) (hst : X.stack = X.env :: X.outer) (hfr : X.env.frame = some X.env.locals) (I : Inv X pins σ H s) (hi : PI X tg iter wi) (ok : BlkOk X.N X.env.scope scope own)
    (hg : ∀ (s : Shared) (H : Hp) (C : Addr) (cl : List (Str × Addr)) (fp : List Addr), PG (X.blk s H scope (compEnvC scope cl C X.env) fp) tg g) (ht : ∀ (s : Shared) (H : Hp) (C : Addr) (cl : List (Str × Addr)) (fp : List Addr), PTs (X.blk s H scope (compEnvC scope cl C X.env) fp) ifs tt)
    (he : ∀ (s : Shared) (H : Hp) (C : Addr) (cl : List (Str × Addr)) (fp : List Addr) (xe : Value → Shared → Prop), (∀ σ, PassesAt (L2N.CX X.prog X.w) ((X.blk s H scope (compEnvC scope cl C X.env) fp).wish xe) σ W) → PE ((X.blk s H scope (compEnvC scope cl C X.env) fp).wish xe) elt te)
    (hs : ∀ x, foldedSetIterable iter X.env x = pure x) (h : tLc wi g tt te (own.map (·.2)) σ H Q)
    (hRR : ∀ D (ce : Env) s' m H', Inv X pins σ H' s' → Q (.ref D) H' → s'.heap.Ns ce.locals m → FpOk X pins H' ce.locals → compEnds (model X.prog X.w) X.A X.xe use Qf (.ref D) ce (.ok .next) s') :
    wpAny (model X.prog X.w) X.A (comprehension (.ListComp elt [⟨tg, iter, ifs, 0⟩] scope pos) scope X.env pos' (newList []) false (eval iter X.env) use) Qf X.xe s := by
  have hfree : ∀ y ∈ scope.names, y.2 = .free → ∃ c, X.env.cells.lookup y.1 = some c := fun y hy e =>
    (ok.free y hy e).elim (fun k => I.ok.has _ (.inl k)) fun k => I.ok.has _ (.inr k)
  refine comprehension_at (use := use) rfl hs (closure_ok hfree) ok.kind (fun y hy e => by rw [ok.uniq y hy, e])
    (thn (hi.run pins s σ H _ I h) fun xv s1 hx => thn hx fun itv s2 h2 => ?_)
  obtain ⟨it, fp, tn, J, H2, e, I2, T, st2, f2, q⟩ := h2
  subst e
  refine wpAny_newObj_type (newEnv_comp ?_) (by show 0 ≤ sizeLine; decide)
  generalize hD : s2.heap.objs.size = D
  obtain ⟨W0, ⟨m0, w0⟩, turn⟩ := q D (I2.hok.fresh (Nat.le_of_eq hD))
  generalize hs3 : ({ s2 with heap := s2.heap.push { cls := .type "list", data := .seq ([] : List Value).toArray } } : Shared) = s3
  have h3 : s3.heap = s2.heap.push { cls := .type "list", data := .seq ([] : List Value).toArray } := by rw [← hs3]
  have I3 : Inv X pins σ (upd H2 D (.lst [])) s3 := by
    rw [← hs3]
    refine I2.laid (t' := s2.toks) (fun b o e => Heap.get?_push_of_some _ e) (Nat.le_of_eq hD) ⟨Nat.zero_le _, [], 0, .nil, ?_⟩
    rw [← hD]
    exact Heap.get?_push_size _ rfl
  have f3 : ∀ b ∈ fp, FpOk X pins (upd H2 D (.lst [])) b ∧ b < s3.heap.objs.size := fun b hb => by
    obtain ⟨o, eo, _⟩ := T.obj _ _ st2 b hb
    have hlt := Heap.lt_size eo
    refine ⟨⟨?_, (f2 b hb).2⟩, by rw [h3, Heap.size_push]; exact Nat.lt_succ_of_lt hlt⟩
    rw [upd_ne (by rw [← hD]; exact Nat.ne_of_lt hlt)]
    exact (f2 b hb).1
  have st3 : tn 0 s3.heap := T.keep _ _ _ st2 fun b _ o e => by rw [h3]; exact Heap.get?_push_of_some _ e
  have I4 := block_start I3 ok hN f3
  have pg := hg s3 (upd H2 D (.lst [])) s3.heap.objs.size (cellsFrom (s3.heap.objs.size + 1) scope.names (cloFrom X.env.cells scope.names [])) fp
  have pt := ht s3 (upd H2 D (.lst [])) s3.heap.objs.size (cellsFrom (s3.heap.objs.size + 1) scope.names (cloFrom X.env.cells scope.names [])) fp
  have pe := he s3 (upd H2 D (.lst [])) s3.heap.objs.size (cellsFrom (s3.heap.objs.size + 1) scope.names (cloFrom X.env.cells scope.names [])) fp
  have nfp : ∀ b ∈ fp, (upd H2 D (.lst [])) b = none := fun b hb => (f3 b hb).1.1
  show codeAny _ _ (.compStart (.ListComp elt [⟨tg, iter, ifs, 0⟩] scope pos) 0 (.ref it) (.ref D) (compEnvC scope (cellsFrom (s3.heap.objs.size + 1) scope.names (cloFrom X.env.cells scope.names [])) s3.heap.objs.size X.env))
    (compEnds (model X.prog X.w) X.A X.xe use Qf (.ref D) (compEnvC scope (cellsFrom (s3.heap.objs.size + 1) scope.names (cloFrom X.env.cells scope.names [])) s3.heap.objs.size X.env)) { s3 with heap := pushCells (s3.heap.push { cls := .type "dict", data := .dict #[] }) scope.names }
  have cf : (compEnvC scope (cellsFrom (s3.heap.objs.size + 1) scope.names (cloFrom X.env.cells scope.names [])) s3.heap.objs.size X.env).frame = X.env.frame := rfl
  generalize hce : compEnvC scope (cellsFrom (s3.heap.objs.size + 1) scope.names (cloFrom X.env.cells scope.names [])) s3.heap.objs.size X.env = ce at I4 pg pt pe cf ⊢
  have cL : ce.locals = s3.heap.objs.size := by subst hce; rfl
  generalize hH3 : upd H2 D (.lst []) = H3 at I3 I4 pg pt pe w0 nfp f3
  generalize hs4 : ({ s3 with heap := pushCells (s3.heap.push { cls := .type "dict", data := .dict #[] }) scope.names } : Shared) = s4 at I4 ⊢
  have st4 : tn 0 s4.heap := T.keep _ _ _ st3 fun b _ o e => by rw [← hs4]; exact pushCells_keeps _ _ _ _ (Heap.get?_push_of_some _ e)
  -- a refusal's way
  have flies : ∀ σ, PassesAt (L2N.CX X.prog X.w) ((X.blk s3 H3 scope ce fp).wish (wishC X use Qf D ce)) σ W := fun σ' p' H' s' u s'' I' c' => by
    have z := comp_raise tk hst hfr cf (Nat.le_of_eq cL.symm) I3 (fun b hb => (f3 b hb).1) I' c'
    show wishC X use Qf D ce u s''
    unfold wishC
    cases use <;> exact z
  have pe := pe (wishC X use Qf D ce) flies
  have stat : ∀ {σ' : L2.St} {H' : Hp} {s' : Shared}, Inv (X.blk s3 H3 scope ce fp) [] σ' H' s' → (∀ b ∈ fp, H' b = none) → ∀ b ∈ fp, FpOk (X.blk s3 H3 scope ce fp) [] H' b := fun {σ' H' s'} I' hn b hb =>
    ⟨hn b hb, (I'.ok.exf b hb).1, I'.ok.exfs b hb, .inl hb, fun x c e => (I'.ok.exf b hb).2 x c e, fun p hp => absurd (show p ∈ ([] : List (Addr × Obj)) ++ [] from hp) (by simp)⟩
  have loop : codeAny (model X.prog X.w) X.A (.compLoop (.ListComp elt [⟨tg, iter, ifs, 0⟩] scope pos) 0 (.ref it) (.ref D) ce) (compEnds (model X.prog X.w) X.A X.xe use Qf (.ref D) ce) s4 := by
    refine compLoop_any (fun n s' => ∃ i H', Inv (X.blk s3 H3 scope ce fp) [] (wipe σ (own.map (·.2))) H' s' ∧ tn i s'.heap ∧ (∀ b ∈ fp, H' b = none) ∧ W0 i n H') ?_ m0 ⟨0, H3, I4, st4, nfp, w0⟩
    rintro n s5 ⟨i, H5, I5, st5, n5, w5⟩
    rcases turn i n H5 w5 with ⟨stop, qq⟩ | ⟨go, Nx, hNx, step⟩
    · refine thnF (T.done (X.blk s3 H3 scope ce fp) rfl rfl rfl hc i [] s5 _ H5 (fun _ _ => False) I5 (stat I5 n5) st5 stop) fun r s6 ⟨hr, I6⟩ => ?_
      subst hr
      have I7 : Inv X pins σ H5 s6 := I3.call' (ch := fp) I6.os I6.base I6.hok I6.bare fun b hb => ⟨(f3 b hb).1.2.2.2.1, (f3 b hb).1.2.1, (f3 b hb).1.2.2.2.2.1, (f3 b hb).1.2.2.2.2.2⟩
      obtain ⟨m, hn, _⟩ := I6.loc
      exact hRR D ce s6 m H5 I7 qq hn (I3.fpOk (Nat.le_of_eq cL.symm) I6.free)
    · refine thnF (T.item (X.blk s3 H3 scope ce fp) rfl rfl rfl hc i [] s5 _ H5 (fun _ _ => False) I5 (stat I5 n5) st5 go) fun r s6 ⟨u, hr, h6⟩ => ?_
      subst hr
      refine thnF h6 fun _ s7 ⟨x, H7, I7, r7, y7, st7, n7⟩ => ?_
      refine thnF (pg.run _ s7 _ H7 x u _ (I7.pinned (stat I7 n7) (T.obj _ _ st7)) r7 (step x H7 y7)) fun _ s8 ⟨σ8, H8, I8, hw8, q8⟩ => ?_
      refine thnF (pt.run _ s8 σ8 H8 _ I8 q8) fun b s9 ⟨H9, I9, q9⟩ => ?_
      have fin : ∀ {s' : Shared} {H' : Hp}, Inv (X.blk s3 H3 scope ce fp) ([] ++ pinsAt fp s7.heap) σ8 H' s' → Nx H' → ∃ m, m < n ∧ ∃ i H', Inv (X.blk s3 H3 scope ce fp) [] (wipe σ (own.map (·.2))) H' s' ∧ tn i s'.heap ∧ (∀ b ∈ fp, H' b = none) ∧ W0 i m H' := fun {s' H'} I' nx => by
        obtain ⟨m', hm, w'⟩ := hNx H' nx
        have pin' : ∀ b ∈ fp, ∀ o, s7.heap.get? b = some o → s'.heap.get? b = some o ∧ H' b = none := fun b hb o e =>
          let z := I'.pin (b, o) (List.mem_append_right _ (List.mem_append_right _ (mem_pinsAt hb e)))
          ⟨z.1, z.2.1⟩
        refine ⟨m', hm, i + 1, H', (I'.unpinned (pins := [])).weak (by rw [← hw8, wipe_length]) (fun j v e => ?_), T.keep _ _ _ st7 fun b hb o e => (pin' b hb o e).1, fun b hb => ?_, w'⟩
        · rw [← hw8] at e
          exact (wipe_some e).1
        · obtain ⟨o, e, _⟩ := T.obj _ _ st7 b hb
          exact (pin' b hb o e).2
      cases b with
      | false =>
        simp only [Bool.false_eq_true, if_false] at q9 ⊢
        exact fin I9 q9
      | true =>
        simp only [if_true] at q9 ⊢
        refine wpAny_mono (pe.run _ s9 σ8 H9 _ (I9.wish _) q9) (fun z s10 ⟨yv, H10, I10, r10, acc, hD10, hz10, nx⟩ => ?_) fun e s' z => z
        exact app_ok (X := X.blk s3 H3 scope ce fp) I10.unwish hD10 hz10 r10 fun s11 I11 => fin I11 nx
  exact codeAny_compStart_list loop (T.self X.A 0 _ _ _ st4 loop)
/-- name = [..] on one line, the name a local; the element may refuse -/
theorem ps_setLcX {i : Nat} {y : Str} {py : Pos} {W : XK} {elt tg iter : Expr} {ifs : List Expr} {scope : Scope} {own : List (Str × Nat)} {pos spos : Pos} {wi : TI} {g : TG} {tt : TT} {te : TE} (hc : X.calm = true) (hN : X.N.Nodup) (hy : X.N[i]? = some y) (hyl : X.env.scope.names.lookup y = some .local)
    (tk : L2N.Takes X (fun cls d _ H => W cls d H)) (hst : X.stack = X.env :: X.outer) (hfr : X.env.frame = some X.env.locals)
    (hsw : swapsWith (.ListComp elt [⟨tg, iter, ifs, 0⟩] scope pos) (some (.Name y py)) spos.line X.env = pure true) (hi : PI X tg iter wi) (ok : BlkOk X.N X.env.scope scope own)
    (hg : ∀ (s : Shared) (H : Hp) (C : Addr) (cl : List (Str × Addr)) (fp : List Addr), PG (X.blk s H scope (compEnvC scope cl C X.env) fp) tg g) (ht : ∀ (s : Shared) (H : Hp) (C : Addr) (cl : List (Str × Addr)) (fp : List Addr), PTs (X.blk s H scope (compEnvC scope cl C X.env) fp) ifs tt)
    (he : ∀ (s : Shared) (H : Hp) (C : Addr) (cl : List (Str × Addr)) (fp : List Addr) (xe : Value → Shared → Prop), (∀ σ, PassesAt (L2N.CX X.prog X.w) ((X.blk s H scope (compEnvC scope cl C X.env) fp).wish xe) σ W) → PE ((X.blk s H scope (compEnvC scope cl C X.env) fp).wish xe) elt te)
    (hs : ∀ x, foldedSetIterable iter X.env x = pure x := by intro _; rfl) :
    PS X (.Assign [.Name y py] (.ListComp elt [⟨tg, iter, ifs, 0⟩] scope pos) spos) (tAsg (tLc wi g tt te (own.map (·.2))) (gName i)) := by
  refine ⟨fun pins s σ H D I h => ?_⟩
  rw [exec_Assign_Name_used _ _ _ _ hsw]
  refine wpAny_bind (wpAny_standAt (wpAny_bind ?_))
  show wpAny _ X.A (do let _ ← comprehension (.ListComp elt [⟨tg, iter, ifs, 0⟩] scope pos) scope X.env (firstIterPos [⟨tg, iter, ifs, 0⟩] pos) (newList []) false (eval iter X.env) (some (assign (.Name y py) X.env))) _ _ s
  have h : tLc wi g tt te (own.map (·.2)) σ H (fun x H1 => gName i x σ H1 D.nx) := h
  refine wpAny_bind (thn (lcX_core (Qf := fun _ s' => SP X pins D .next s') hc hN tk hst hfr I hi ok hg ht he hs h fun L ce s' m H' I' q hn f => ?_) fun _ s' hq => wpAny_pure (wpAny_pure hq))
  show wpAny _ _ (assign (.Name y py) X.env (.ref L)) _ _ _
  refine wpAny_assign_Name (store_ok2 (v := V.ref L) I' hN hy (.inl hyl) rfl (fun s2 I2 ⟨a, sb, ha⟩ => ?_) (.inr hyl))
  obtain ⟨f0, f1, f2, f3, f4, f5⟩ := f
  have haC : ce.locals ≠ a := by
    rcases ha with z | z
    · rw [z]; exact f1
    · exact fun e => f4 y a z e.symm
  refine ⟨m, hn.sameBut sb haC, fun h3 sb3 => ?_⟩
  exact ⟨_, H', I2.turned (t' := s2.toks) (fun b o hb e => (sb3.2 b hb).trans e) f0 f1 f3 f4 f5, q⟩
end
end Fc
set_option maxHeartbeats 4000000
/-! Texts that are no rules, rules that cannot be. -/
namespace Fc
open PySem PySem.Spec PyProof.Rows L2
/-! ### the first that is not so -/
def firstN (p : Nat → Bool) (n : Nat) : Nat := (List.range n).findIdx fun i => !p i
theorem firstN_le (p : Nat → Bool) (n : Nat) : firstN p n ≤ n := by
  unfold firstN
  have z := List.findIdx_le_length (xs := List.range n) (p := fun i => !p i)
  rw [List.length_range] at z
  exact z
theorem firstN_lt {p : Nat → Bool} {n i : Nat} (h : i < firstN p n) : p i = true := by
  have z := List.not_of_lt_findIdx (xs := List.range n) (p := fun i => !p i) h
  rw [List.getElem_range] at z
  simpa using z
theorem firstN_at {p : Nat → Bool} {n : Nat} (h : firstN p n < n) : p (firstN p n) = false := by
  have h' : (List.range n).findIdx (fun i => !p i) < (List.range n).length := by rw [List.length_range]; exact h
  have z := List.findIdx_getElem (xs := List.range n) (p := fun i => !p i) (w := h')
  rw [List.getElem_range] at z
  have z2 : (!p (firstN p n)) = true := z
  simpa using z2
theorem firstN_is {p : Nat → Bool} {n i : Nat} (hi : i < n) (h : ∀ j, j < i → p j = true) (hp : p i = false) : firstN p n = i := by
  rcases Nat.lt_trichotomy (firstN p n) i with c | c | c
  · have z := firstN_at (Nat.lt_trans c hi)
    rw [h _ c] at z
    cases z
  · exact c
  · have z := firstN_lt c
    rw [hp] at z
    cases z
theorem firstN_all {p : Nat → Bool} {n : Nat} (h : ∀ j, j < n → p j = true) : firstN p n = n := by
  rcases Nat.lt_or_ge (firstN p n) n with c | c
  · have z := firstN_at c
    rw [h _ c] at z
    cases z
  · exact Nat.le_antisymm (firstN_le p n) c
/-! ### a text's rows -/
def wordsT (z : Str) : List Str := Txt.split z " "
def rowsT (t : Str) : List Str := if t = "" then [] else Txt.split t "\n"
def mwM (t : Str) : Bool := decide (t = "-") || isSmallM t
def undash (t : Str) : Str := if t = "-" then "" else t
def rowTk (z : Str) : Bool := decide ((wordsT z).length = 3) && (isSmallM ((wordsT z).getD 0 "") && (mwM ((wordsT z).getD 1 "") && mwM ((wordsT z).getD 2 "")))
def rowTo (z : Str) : Row := ((wordsT z).getD 0 "", undash ((wordsT z).getD 1 ""), undash ((wordsT z).getD 2 ""))
def rowN (zs : List Str) (i : Nat) : Bool := rowTk (zs.getD i "")
/-! ### a rule's rows -/
def headsTo (rs : List Row) (n : Nat) : List Str := riseS ((rs.take n).map (·.1))
def goodAt (rs : List Row) (n : Nat) : Bool := (decide (n < 12) && isRowM (rs.getD n ("", "", ""))) && decide ((headsTo rs (n + 1)).length ≤ 6)
def badR (rs : List Row) : Nat := firstN (goodAt rs) rs.length
theorem nodup_len {l l' : List Str} (h : l.Nodup) (h' : l'.Nodup) (k : ∀ x, x ∈ l ↔ x ∈ l') : l.length = l'.length := ((List.perm_ext_iff_of_nodup h h').mpr k).length_eq
theorem heads_len {rs : List Row} {n : Nat} {l : List Str} (h : l.Nodup) (k : ∀ x, x ∈ l ↔ x ∈ (rs.take n).map (·.1)) : l.length = (headsTo rs n).length :=
  nodup_len h (riseS_rs _).nodup fun x => (k x).trans (riseS_mem x _).symm
theorem take_head {rs : List Row} {i : Nat} {r : Row} (h : rs[i]? = some r) : (rs.take (i + 1)).map (·.1) = (rs.take i).map (·.1) ++ [r.1] := by
  have hi := (List.getElem?_eq_some_iff.mp h)
  obtain ⟨h1, h2⟩ := hi
  rw [← h2, ← List.take_append_getElem h1, List.map_append]
  rfl
theorem getD_at {α : Type} {l : List α} {i : Nat} {x d : α} (h : l[i]? = some x) : l.getD i d = x := by
  rw [List.getD_eq_getElem?_getD, h]
  rfl
/-! ### lengths -/
theorem join_parts (sep : Str) : ∀ l : List Str, (∀ p ∈ l, p.length ≤ (Str.join sep l).length) ∧ (l.map (·.length)).sum + (l.length - 1) * sep.length ≤ (Str.join sep l).length
  | [] => ⟨fun p hp => (nomatch hp), by simp⟩
  | [x] => ⟨fun p hp => by rw [List.mem_singleton.mp hp]; exact Nat.le_refl _, by simp [Str.join]⟩
  | x :: y :: r => by
    obtain ⟨i1, i2⟩ := join_parts sep (y :: r)
    have e : (Str.join sep (x :: y :: r)).length = x.length + sep.length + (Str.join sep (y :: r)).length := by
      show (x ++ sep ++ Str.join sep (y :: r)).length = _
      rw [PySem.Str.length_append, PySem.Str.length_append]
    refine ⟨fun p hp => ?_, ?_⟩
    · rw [e]
      rcases List.mem_cons.mp hp with z | z
      · rw [z]
        omega
      · have q := i1 p z
        omega
    · rw [e]
      simp only [List.map_cons, List.sum_cons, List.length_cons, Nat.add_sub_cancel] at i2 ⊢
      rw [Nat.succ_mul]
      omega
theorem split_parts {x : Str} {c : Nat} : (∀ p ∈ Txt.split x ⟨#[c]⟩, p.length ≤ x.length) ∧ (Txt.split x ⟨#[c]⟩).length ≤ x.length + 1 ∧ ((Txt.split x ⟨#[c]⟩).map (·.length)).sum + ((Txt.split x ⟨#[c]⟩).length - 1) ≤ x.length := by
  have e := StrLaws.join_split x ⟨#[c]⟩
  obtain ⟨h1, h2⟩ := join_parts ⟨#[c]⟩ (Txt.split x ⟨#[c]⟩)
  rw [e] at h1 h2
  have l1 : (⟨#[c]⟩ : Str).length = 1 := rfl
  rw [l1, Nat.mul_one] at h2
  exact ⟨h1, by omega, h2⟩
theorem sp_eq : (" " : Str) = ⟨#[32]⟩ := rfl
theorem nl_eq : ("\n" : Str) = ⟨#[10]⟩ := rfl
theorem wordsT_len {z : Str} : (∀ p ∈ wordsT z, p.length ≤ z.length) ∧ (wordsT z).length ≤ z.length + 1 := by
  unfold wordsT
  rw [sp_eq]
  exact ⟨split_parts.1, split_parts.2.1⟩
theorem rowsT_len {t : Str} : (∀ p ∈ rowsT t, p.length ≤ t.length) ∧ (rowsT t).length ≤ t.length + 1 := by
  unfold rowsT
  split
  · exact ⟨fun p hp => (nomatch hp), Nat.zero_le _⟩
  · rw [nl_eq]
    exact ⟨split_parts.1, split_parts.2.1⟩
theorem getD_len {l : List Str} {n i : Nat} (h : ∀ p ∈ l, p.length ≤ n) : (l.getD i "").length ≤ n := by
  rw [List.getD_eq_getElem?_getD]
  cases e : l[i]? with
  | none => exact Nat.zero_le _
  | some x => exact h x (List.mem_of_getElem? e)
theorem undash_len {t : Str} {n : Nat} (h : t.length ≤ n) : (undash t).length ≤ n := by
  unfold undash
  split
  · exact Nat.zero_le _
  · exact h
theorem rowTo_len (z : Str) : (rowTo z).1.length ≤ z.length ∧ (rowTo z).2.1.length ≤ z.length ∧ (rowTo z).2.2.length ≤ z.length :=
  ⟨getD_len wordsT_len.1, undash_len (getD_len wordsT_len.1), undash_len (getD_len wordsT_len.1)⟩
/-! ### what is promised -/
/-- a refusal of the class x, its field told -/
def Refus (K : PySem.W.Frag) (E : XK) (x fld : Str) (y : V) (H : Hp) : Prop := ∀ d H', Kp N0 H H' → H' d = some (.xd [(fld, y)]) → E (.ref (He.ga K x)) (some d) H'
def LenR (rs : List Row) : Prop := rs.length ≤ 1000 ∧ ∀ r ∈ rs, r.1.length ≤ 1000 ∧ r.2.1.length ≤ 1000 ∧ r.2.2.length ≤ 1000
def spCheckX (K : PySem.W.Frag) (T : List Addr) : Sp := fun vs H Q E => ∃ (v : V) (rs : List Row), vs = [v] ∧ Dn N0 H v (ruleD rs) ∧ LenR rs ∧ Tbs T H ∧ (badR rs = rs.length → ∀ H', Kp N0 H H' → Q .non H') ∧ (badR rs < rs.length → Refus K E "BadRule" "number" (.int (badR rs : Nat)) H)
def spReadRowX (K : PySem.W.Frag) (T : List Addr) : Sp := fun vs H Q E => ∃ (n : Nat) (z : Str), vs = [.int n, .str z] ∧ n ≤ 1000 ∧ z.length ≤ 1000 ∧ Tbs T H ∧
  (rowTk z = true → ∀ t H', H t = none → Kp N0 H H' → H' t = some (.tup [.str (rowTo z).1, .str (rowTo z).2.1, .str (rowTo z).2.2]) → Q (.ref t) H') ∧ (rowTk z = false → Refus K E "BadText" "row" (.int n) H)
/-- which row of the text is none; which row of the rule cannot be -/
def badT (t : Str) : Nat := firstN (rowN (rowsT t)) (rowsT t).length
def ruleTo (t : Str) : List Row := (rowsT t).map rowTo
def spReadX (K : PySem.W.Frag) (T : List Addr) : Sp := fun vs H Q E => ∃ t : Str, vs = [.str t] ∧ t.length ≤ 900 ∧ Tbs T H ∧
  (badT t = (rowsT t).length → badR (ruleTo t) = (ruleTo t).length → ∀ p H', H p = none → Kp N0 H H' → Dn N0 H' (.ref p) (ruleD (ruleTo t)) → Q (.ref p) H') ∧
  (badT t < (rowsT t).length → Refus K E "BadText" "row" (.int (badT t : Nat)) H) ∧
  (badT t = (rowsT t).length → badR (ruleTo t) < (ruleTo t).length → Refus K E "BadRule" "number" (.int (badR (ruleTo t) : Nat)) H)
theorem Refus.kp {K : PySem.W.Frag} {E : XK} {x fld : Str} {y : V} {H H' : Hp} (h : Refus K E x fld y H) (k : Kp N0 H H') : Refus K E x fld y H' := fun d H2 k2 a => h d H2 (k.trans k2) a
theorem Refus.new {K : PySem.W.Frag} {E : XK} {x fld : Str} {y : V} {H : Hp} (h : Refus K E x fld y H) : ∀ d, H d = none → E (.ref (He.ga K x)) (some d) (upd H d (.xd [(fld, y)])) := fun d hd => h d _ (Kp.new hd) upd_same
theorem small_int {n : Nat} (h : n ≤ 1000) : SmallV (.int (n : Int)) := by
  refine .inr ⟨_, rfl, ?_⟩
  show n.log2 < 1920
  have z := Nat.log2_le_self n
  omega
theorem ruleTo_len {t : Str} (h : t.length ≤ 900) : LenR (ruleTo t) := by
  obtain ⟨h1, h2⟩ := rowsT_len (t := t)
  refine ⟨by unfold ruleTo; rw [List.length_map]; omega, fun r hr => ?_⟩
  obtain ⟨z, hz, e⟩ := List.mem_map.mp hr
  have l := h1 z hz
  obtain ⟨a, b, c⟩ := rowTo_len z
  rw [← e]
  omega
/-! ### a comprehension whose element may refuse -/
section
variable {X : Cx} {k j : Nat} {x : Str} {sp : Sp} {p pos : Pos} {e : Expr} {es : List Expr} {t : TA} {W : XK}
theorem pe_cW (c : CalX X.prog X.w X.K X.mg X.base k x sp) (hr : Room j X.A) (hk : k ≤ j) (hg : Gl X x) (hx : ∀ σ, PassesAt (L2N.CX X.prog X.w) X σ W) (ha : PA X (e :: es) t) (hdb : (x == ("__debug__" : Str)) = false := by decide)
    (he : starEach (e :: es) X.env = (false, eval e X.env) :: starEach es X.env := by rfl) (hpl : (backTo pos (starEach es X.env)).any (·.1) = false := by rfl) :
    PE X (.Call (.Name x p) (e :: es) [] pos) (tCallS sp (fun _ => W) t) := by
  obtain ⟨f, fd, ps, F, hm, hkp, hb⟩ := c.ex
  exact pe_callS (F.mono hk) hr hg hm hkp hb hx ha hdb he hpl
end
section
variable {J : It} {n : Nat} {G : Hp → Prop} {Y : Nat → Hp → V → Hp → Prop} {g : TG} {te : TE} {vs : List Nat} {σ : L2.St} {H1 : Hp} {D : Addr} {Qd : Hp → Prop}
/-- all of them, one after another; P is known of those behind -/
theorem lc_allP {α : Type} (P : Nat → Prop) (w : Walk J n G Y) (l : List α) (hn : l.length = n) (v : α → PyData) (hD : H1 D = none) (hl : n ≤ 1000) (hG : ∀ H, Kp N0 H1 H → G H) (p0 : P 0)
    (turn : ∀ (i : Nat) (a : α) (x : V) (H H' : Hp), l[i]? = some a → P i → Kp N0 H1 H → Y i H x H' → ∀ Kt : L2.St → Hp → Prop, (∀ (σ2 : L2.St) (H2 : Hp), Kp N0 H H2 → wipe σ2 vs = wipe σ vs →
      (∀ S', (∀ a, S' a → H2 a ≠ none) → ∀ Q : VK, (∀ y H4, P (i + 1) → Kp N0 H2 H4 → Dn S' H4 y (v a) → Q y H4) → te σ2 H2 Q) → Kt σ2 H2) → g x (wipe σ vs) H' Kt)
    (hd : ∀ H' out, P n → Kp N0 H1 H' → H' D = some (.lst out) → DnA (fun a => a = D) H' out (l.map v) → Qd H') :
    ∃ W : Nat → Nat → Hp → Prop, (∃ m, W 0 m (upd H1 D (.lst []))) ∧ ∀ i m H, W i m H → (J.stop i H ∧ Qd H) ∨ (J.go i H ∧ ∃ Nx : Hp → Prop, (∀ H', Nx H' → ∃ m', m' < m ∧ W (i + 1) m' H') ∧ ∀ x H', J.yld i H x H' → g x (wipe σ vs) H' fun σ2 H2 => wipe σ2 vs = wipe σ vs ∧ tYes σ2 H2 fun b H3 =>
      if b = true then te σ2 H3 fun y H4 => ∃ acc, H4 D = some (.lst acc) ∧ acc.length < sizeLine ∧ Nx (upd H4 D (.lst (acc ++ [y]))) else Nx H3) := by
  refine lc_it w (Pv := fun i H => P i ∧ Kp N0 H1 H ∧ ∃ out, H D = some (.lst out) ∧ out.length = i ∧ DnA (fun a => a = D) H out ((l.take i).map v)) ⟨p0, Kp.new hD, [], upd_same, rfl, .nil⟩ (fun i H _ p => hG H p.2.1) (fun i x H H' hi p y => ?_) fun H p => ?_
  · obtain ⟨pi, k1, out, hout, hlen, hdn⟩ := p
    have hil : i < l.length := by rw [hn]; exact hi
    refine turn i l[i] x H H' (List.getElem?_eq_getElem hil) pi k1 y _ fun σ2 H2 k2 hw elt => ⟨hw, ?_⟩
    have hout2 : H2 D = some (.lst out) := k2.obj hout ntl (fun z => z.elim)
    show te σ2 H2 _
    refine elt (fun a => a = D) (fun a z => ?_) _ fun y2 H4 p4 k4 hy => ?_
    · rw [z, hout2]
      intro q
      cases q
    · have hout4 : H4 D = some (.lst out) := k4.obj hout2 ntl (fun z => z.elim)
      have kd : Kp (fun a => a = D) H4 (upd H4 D (.lst (out ++ [y2]))) := Kp.mutS rfl hout4 ntl ntl
      refine ⟨out, hout4, by rw [hlen, sizeLine_eq]; omega, p4, ((k1.trans k2).trans k4).mut hD, out ++ [y2], upd_same, by rw [List.length_append, hlen]; rfl, ?_⟩
      rw [← List.take_append_getElem hil, List.map_append]
      exact (((hdn.kp k2.up).kp k4.up).kp kd).app (.one (hy.kp kd))
  · obtain ⟨pn, k1, out, hout, _, hdn⟩ := p
    rw [← hn, List.take_length] at hdn
    exact hd H out pn k1 hout hdn
end
end Fc
set_option maxHeartbeats 4000000
/-! Texts spoilt; a reader here. -/
namespace Fc
open PySem PySem.Spec PyProof.Rows L2
/-- how long texts are with a sign between -/
def wl (l : List Str) : Nat := (l.map (·.length)).sum + l.length
theorem wl_app (a b : List Str) : wl (a ++ b) = wl a + wl b := by
  unfold wl
  rw [List.map_append, List.sum_append, List.length_append]
  omega
theorem wl_one (a : Str) : wl [a] = a.length + 1 := by simp [wl]
theorem wl_cut (l : List Str) (j : Nat) : wl (l.take j) + wl (l.drop j) = wl l := by
  rw [← wl_app, List.take_append_drop]
theorem wl_drop (l : List Str) (j : Nat) : wl (l.drop (j + 1)) ≤ wl (l.drop j) := by
  cases h : l.drop j with
  | nil =>
    have e : l.drop (j + 1) = [] := by
      rw [← List.drop_drop, h]
      rfl
    rw [e]
    exact Nat.le_refl _
  | cons a r =>
    have e : l.drop (j + 1) = r := by
      rw [← List.drop_drop, h]
      rfl
    rw [e]
    show wl r ≤ wl ([a] ++ r)
    rw [wl_app]
    omega
theorem split_ne {x : Str} {c : Nat} (h : Txt.split x ⟨#[c]⟩ = []) : x = "" := by
  have e := StrLaws.join_split x ⟨#[c]⟩
  rw [h] at e
  rw [← e]
  rfl
theorem joinN_len (ys : List Str) : (Txt.join "\n" ys).length ≤ wl ys := by
  have e : ys = (ys.map fun z => z.cps.toList).map SX.S := by
    rw [List.map_map]
    exact (List.map_id _).symm.trans (List.map_congr_left fun z _ => (oS_eq (z := z) rfl))
  have e0 : ("\n" : Str) = SX.S [10] := rfl
  have z := SX.join_S [10] (ys.map fun z => z.cps.toList)
  rw [← e, ← e0] at z
  rw [z]
  show (oS (TL.joinL [10] (ys.map fun z => z.cps.toList))).length ≤ _
  rw [len_cps, oS_cps]
  have q := joinL_len 10 (ys.map fun z => z.cps.toList)
  have e2 : ((ys.map fun z => z.cps.toList).map List.length) = ys.map (·.length) := by
    rw [List.map_map]
    exact List.map_congr_left fun x _ => (len_cps x).symm
  rw [e2, List.length_map] at q
  exact q
theorem rows_wl (t : Str) : wl (Txt.split t "\n") ≤ t.length + 1 := by
  have z := (split_parts (x := t) (c := 10)).2.2
  rw [nl_eq]
  unfold wl
  by_cases h : Txt.split t ⟨#[10]⟩ = []
  · rw [h]
    simp
  · have l : 1 ≤ (Txt.split t ⟨#[10]⟩).length := by
      cases e : Txt.split t ⟨#[10]⟩ with
      | nil => exact absurd e h
      | cons a r => simp
    omega
theorem rows_pos (t : Str) : 1 ≤ (Txt.split t "\n").length := by
  cases e : Txt.split t "\n" with
  | nil =>
    exfalso
    have z := split_ne (by rw [← nl_eq]; exact e)
    subst z
    have q : Txt.split "" "\n" = [("" : Str)] := by decide +kernel
    rw [q] at e
    cases e
  | cons a r => simp
def oddT : List Str := ["", " ", "law", "law a", "law a b c", "law - -", "rest a -", "law ab bc", "law ba -", "law - z"]
def oddU : List Str := ["sevenxx a -", "law  a", "- a b", "law a -b", "Law a -", "law a -- ", "x - -", "law A -"]
theorem odd_short : ∀ o ∈ oddT ++ oddU, o.length ≤ 11 := by decide +kernel
def signsT : Str := " -abcdefghi\nlrstxyzABC0129!#$&()*+,./:;<=>?\x40[]^_`{|}~"
end Fc
set_option maxHeartbeats 4000000
/-! A reader here. -/
namespace Fc
open PySem PySem.Spec PyProof.Rows L2
section
variable {X : Cx}
/-- list(text) -/
theorem cr_listT (hc : X.calm = true) : CallR X (.type "list") (fun xs H Q => ∃ z : Str, xs = [.str z] ∧ z.length ≤ 5000 ∧ ∀ p, H p = none → Q (.ref p) (upd H p (.lst ((z.cps.toList.map signS).map V.str)))) := by
  intro pins s σ H vs us Q I r h
  obtain ⟨z, rfl, hl, q⟩ := h
  obtain ⟨u, rfl, ru⟩ := vals1 r
  obtain ⟨tz, rfl⟩ := ru
  have sz : z.cps.size = z.cps.toList.length := by simp
  have hl2 : z.cps.size ≤ 5000 := hl
  refine call_list_str (I.ok.hd hc) z tz (fun h' tk acc' c' hk hS ⟨i1, i2⟩ => ?_) (by rw [sizeLine_eq]; omega)
  have ln : ((z.cps.toList.map signS).map V.str).length = acc'.toList.length := by rw [List.length_map, List.length_map, ← sz, ← i1]; simp
  refine ⟨.ref s.heap.objs.size, _, I.laid (t' := tk) hk (Nat.le_refl _) (show ObjOk X.prog X.w _ h' _ (.lst ((z.cps.toList.map signS).map V.str)) from ⟨by rw [List.length_map, List.length_map, ← sz, sizeLine_eq]; omega, acc'.toList, c', ?_, hS⟩), rfl, q _ (I.hok.fresh (Nat.le_refl _))⟩
  refine vals_of_at ln fun j x w h1 h2 => ?_
  obtain ⟨c, u, hc2, rfl⟩ := i2 j w (by rw [← Array.getElem?_toList]; exact h2)
  have e : z.cps.toList[j]? = some c := by simpa using hc2
  rw [List.getElem?_map, List.getElem?_map, e] at h1
  cases h1
  exact ⟨u, rfl⟩
end
/-! ### signs that can be -/
def OkT (t : Str) : Prop := ∀ c ∈ t.cps.toList, c < 1114112
theorem OkT.ok {t : Str} (h : OkT t) : PyData.strOk t = true := strOk_of h
theorem okT_sign {c : Nat} (h : c < 1114112) : OkT ⟨#[c]⟩ := fun d hd => by
  have e : d = c := by simpa using hd
  rw [e]
  exact h
theorem okT_app {a b : Str} (h1 : OkT a) (h2 : OkT b) : OkT (a ++ b) := fun c hc => by
  rw [add_cps] at hc
  exact (List.mem_append.mp hc).elim (h1 c) (h2 c)
theorem okT_cut {a : Str} (h : OkT a) (lo hi : Option Int) : OkT (cutS a lo hi) := fun c hc => by
  have e : (cutS a lo hi).cps.toList = (a.cps.toList.drop (HT.sIx a.length 0 lo)).take (HT.sIx a.length a.length hi - HT.sIx a.length 0 lo) := by
    unfold cutS
    simp
  rw [e] at hc
  exact h c (List.mem_of_mem_drop (List.mem_of_mem_take hc))
theorem join_mem (sep : Str) : ∀ (l : List Str), ∀ p ∈ l, ∀ c ∈ p.cps.toList, c ∈ (Str.join sep l).cps.toList
  | [x], p, hp, c, hc => by rw [List.mem_singleton.mp hp] at hc; exact hc
  | x :: y :: r, p, hp, c, hc => by
    have e : Str.join sep (x :: y :: r) = (x ++ sep) ++ Str.join sep (y :: r) := rfl
    rw [e, add_cps, add_cps, List.mem_append, List.mem_append]
    rcases List.mem_cons.mp hp with z | z
    · rw [z] at hc
      exact .inl (.inl hc)
    · exact .inr (join_mem sep (y :: r) p z c hc)
theorem okT_split {x : Str} {c : Nat} (h : OkT x) : ∀ p ∈ Txt.split x ⟨#[c]⟩, OkT p := fun p hp d hd => by
  have z := join_mem ⟨#[c]⟩ _ p hp d hd
  rw [StrLaws.join_split] at z
  exact h d z
theorem joinL_mem (s : Nat) : ∀ (l : List (List Nat)) (c : Nat), c ∈ TL.joinL [s] l → c = s ∨ ∃ p ∈ l, c ∈ p
  | [], c, h => nomatch h
  | [p], c, h => .inr ⟨p, List.mem_singleton.mpr rfl, h⟩
  | p :: q :: r, c, h => by
    have h : c ∈ p ++ ([s] ++ TL.joinL [s] (q :: r)) := h
    rw [List.mem_append, List.mem_append, List.mem_singleton] at h
    rcases h with z | z | z
    · exact .inr ⟨p, List.mem_cons_self, z⟩
    · exact .inl z
    · rcases joinL_mem s (q :: r) c z with y | ⟨y, hy, hc⟩
      · exact .inl y
      · exact .inr ⟨y, List.mem_cons_of_mem _ hy, hc⟩
theorem okT_joinN {ys : List Str} (h : ∀ y ∈ ys, OkT y) : OkT (Txt.join "\n" ys) := fun c hc => by
  have e : ys = (ys.map fun z => z.cps.toList).map SX.S := by
    rw [List.map_map]
    exact (List.map_id _).symm.trans (List.map_congr_left fun z _ => (oS_eq (z := z) rfl))
  have e0 : ("\n" : Str) = SX.S [10] := rfl
  have z := SX.join_S [10] (ys.map fun z => z.cps.toList)
  rw [← e, ← e0] at z
  rw [z] at hc
  have hc : c ∈ (oS (TL.joinL [10] (ys.map fun z => z.cps.toList))).cps.toList := hc
  rw [oS_cps] at hc
  rcases joinL_mem 10 _ c hc with y | ⟨y, hy, hd⟩
  · omega
  · obtain ⟨z, hz, e⟩ := List.mem_map.mp hy
    rw [← e] at hd
    exact h z hz c hd
theorem okT_words {z : Str} (h : OkT z) : ∀ p ∈ wordsT z, OkT p := by
  unfold wordsT
  rw [sp_eq]
  exact okT_split h
theorem okT_rows {t : Str} (h : OkT t) : ∀ p ∈ rowsT t, OkT p := by
  unfold rowsT
  split
  · exact fun p hp => nomatch hp
  · rw [nl_eq]
    exact okT_split h
theorem okT_getD {l : List Str} {i : Nat} (h : ∀ p ∈ l, OkT p) : OkT (l.getD i "") := by
  rw [List.getD_eq_getElem?_getD]
  cases e : l[i]? with
  | none => exact fun c hc => nomatch hc
  | some x => exact h x (List.mem_of_getElem? e)
theorem okT_undash {t : Str} (h : OkT t) : OkT (undash t) := by
  unfold undash
  split
  · exact fun c hc => nomatch hc
  · exact h
theorem okT_row {z : Str} (h : OkT z) : OkT (rowTo z).1 ∧ OkT (rowTo z).2.1 ∧ OkT (rowTo z).2.2 :=
  ⟨okT_getD (okT_words h), okT_undash (okT_getD (okT_words h)), okT_undash (okT_getD (okT_words h))⟩
theorem okB {t : Str} (h : (t.cps.toList.all fun c => decide (c < 1114112)) = true) : OkT t := fun c hc => of_decide_eq_true (List.all_eq_true.mp h c hc)
theorem odd_ok : ∀ o ∈ oddT ++ oddU, (o.cps.toList.all fun c => decide (c < 1114112)) = true := by decide +kernel
theorem signs_ok : ∀ c ∈ signsT.cps.toList, c < 1114112 := by decide +kernel
/-! ### what the reader promises -/
def spSmallL : Sp := fun vs H Q _ => ∃ t : Str, vs = [.str t] ∧ t.length ≤ 1000 ∧ OkT t ∧ ∀ H', Kp N0 H H' → Q (.bl (isSmallM t)) H'
def spMarksL : Sp := fun vs H Q _ => ∃ t : Str, vs = [.str t] ∧ t.length ≤ 1000 ∧ OkT t ∧ ∀ H', Kp N0 H H' → Q (.bl (isMarksM t)) H'
/-- what is due of a text -/
def dueTD (t : Str) : PyData := if badT t < (rowsT t).length then .tuple [.str "BadText", .int (badT t : Nat)] else
  if badR (ruleTo t) < (ruleTo t).length then .tuple [.str "BadRule", .int (badR (ruleTo t) : Nat)] else .tuple [.str "told", ruleD (ruleTo t)]
def spDue17 : Sp := fun vs H Q _ => ∃ t : Str, vs = [.str t] ∧ t.length ≤ 900 ∧ OkT t ∧ ∀ v H', Kp N0 H H' → Dn N0 H' v (dueTD t) → Q v H'
def spRead17 (T : List Addr) : Sp := fun vs H Q _ => ∃ t : Str, vs = [.str t] ∧ t.length ≤ 900 ∧ Tbs T H ∧ ∀ v H', Kp N0 H H' → Dn N0 H' v (dueTD t) → Q v H'
theorem signs_okL {z : Str} (h : OkT z) (f : Nat → Bool) : ∀ y ∈ (z.cps.toList.filter f).map signS, PyData.strOk y = true := fun y hy => by
  obtain ⟨c, hc, e⟩ := List.mem_map.mp hy
  rw [← e]
  exact (okT_sign (h c (List.mem_filter.mp hc).1)).ok
theorem eqv_strs (l m : List Str) : PyData.eqv (.list (l.map PyData.str)) (.list (m.map PyData.str)) = decide (l = m) := eqvAll_str l m
theorem signsS_inj {a b : List Nat} (h : a.map signS = b.map signS) : a = b := by
  refine List.map_inj_right (f := signS) (fun x y e => ?_) |>.mp h
  have z := congrArg (fun s : Str => s.cps.toList) e
  simpa [signS] using z
theorem marks_signs (t : Str) : decide (t.cps.toList.map signS = (a2h.cps.toList.filter (sg t)).map signS) = isMarksM t := by
  unfold isMarksM
  refine decide_eq_decide.mpr ⟨fun h => ?_, fun h => ?_⟩
  · refine str_ext ?_
    rw [oS_cps]
    exact signsS_inj h
  · have z : t.cps.toList = a2h.cps.toList.filter (sg t) := (congrArg (fun s : Str => s.cps.toList) h).trans (oS_cps _)
    exact congrArg (List.map signS) z
theorem small_signs (t : Str) : ((t.cps.toList.filter fun c => !sg abc c).map signS).isEmpty = t.cps.toList.all (sg abc) := by
  rw [List.isEmpty_map, filt_all]
def spSpoilt : Sp := fun vs H Q _ => ∃ (b l : Addr) (t : Str), vs = [.ref b, .str t] ∧ Box H b l ∧ t.length ≤ 420 ∧ OkT t ∧ ∀ (t' : Str) H', t'.length ≤ 2 * t.length + 13 → OkT t' → Box H' b l → Kp (sB b l) H H' → Q (.str t') H'
theorem und_pick (w : Str) : atI [V.str w, V.str ""] (if (decide (V.str w = V.str "-")) = true then 1 else 0) = some (V.str (undash w)) := by
  unfold undash
  by_cases e : w = "-"
  · subst e
    rfl
  · rw [if_neg e, if_neg (by simpa using e)]
    rfl
theorem mw_filter (a b : Str) : (([a, b].filter fun w => !mwM w)).isEmpty = (mwM a && mwM b) := by
  cases h1 : mwM a <;> cases h2 : mwM b <;> simp [h1, h2]
theorem isRow_of {r : Row} (h : isSmallM r.1 = true) : isRowM r = ((decide (r.1.length ≤ 6) && !decide (r.1 = "rest")) && ((isMarksM r.2.1 && isMarksM r.2.2) && !r.2.1.cps.toList.any (sg r.2.2))) := by
  unfold isRowM
  rw [isWord_small, h, Bool.true_and]
  have e : decide ((r.1.length : Int) ≤ 6) = decide (r.1.length ≤ 6) := decide_eq_decide.mpr (by omega)
  rw [e]
theorem over_signs (a b : Str) : ((a.cps.toList.filter fun c => sg b c).map signS).isEmpty = !a.cps.toList.any (sg b) := by
  rw [List.isEmpty_map, filt_any]
/-- the rows of the text in slot 0 -/
def rowsE : TE := fun σ H Q => ∃ t : Str, σ[0]? = some (some (.str t)) ∧ t.length ≤ 4000 ∧ ∀ W, H W = none → Q (.ref W) (upd H W (.lst ((rowsT t).map V.str)))
theorem good_few {rs : List Row} (h : badR rs = rs.length) : rs.length ≤ 12 := by
  rcases Nat.lt_or_ge 12 rs.length with c | c
  · have z : goodAt rs 12 = true := firstN_lt (p := goodAt rs) (n := rs.length) (by
      have e : firstN (goodAt rs) rs.length = rs.length := h
      rw [e]
      exact c)
    unfold goodAt at z
    simp at z
  · exact c
theorem due_small {t : Str} (h : t.length ≤ 900) : PyData.depth (dueTD t) < 4 ∧ PyData.weight (dueTD t) ≤ 1000000 := by
  have lR := ruleTo_len h
  have rl := (rowsT_len (t := t)).2
  have b1 : badT t ≤ 1000 := Nat.le_trans (firstN_le _ _) (by omega)
  have b2 : badR (ruleTo t) ≤ 1000 := Nat.le_trans (firstN_le _ _) lR.1
  have wi : ∀ n : Nat, n ≤ 1000 → (n : Int).natAbs.log2 ≤ 1000 := fun n h => by
    have z := Nat.log2_le_self n
    show n.log2 ≤ 1000
    omega
  unfold dueTD
  split
  · have w := wi _ b1
    refine ⟨by simp [PyData.depth, PyData.depthAll], ?_⟩
    simp only [PyData.weight, PyData.weightAll]
    have e1 : (("BadText" : Str)).cps.size = 7 := by decide
    rw [e1]
    split <;> omega
  · split
    · have w := wi _ b2
      refine ⟨by simp [PyData.depth, PyData.depthAll], ?_⟩
      simp only [PyData.weight, PyData.weightAll]
      have e1 : (("BadRule" : Str)).cps.size = 7 := by decide
      rw [e1]
      split <;> omega
    · rename_i c1 c2
      have few := good_few (Nat.le_antisymm (firstN_le (goodAt (ruleTo t)) _) (Nat.not_lt.mp c2))
      have key : ∀ l : List Row, (∀ r ∈ l, r.1.length ≤ 1000 ∧ r.2.1.length ≤ 1000 ∧ r.2.2.length ≤ 1000) → PyData.depthAll (l.map rowD) ≤ 1 ∧ PyData.weightAll (l.map rowD) ≤ 12100 * l.length := by
        intro l
        induction l with
        | nil => exact fun _ => ⟨by simp [PyData.depthAll], by simp [PyData.weightAll]⟩
        | cons r l ih =>
          intro h
          obtain ⟨i1, i2⟩ := ih fun x hx => h x (List.mem_cons_of_mem _ hx)
          obtain ⟨l1, l2, l3⟩ := h r List.mem_cons_self
          have e : ∀ z : Str, z.length = z.cps.size := fun _ => rfl
          rw [e] at l1 l2 l3
          simp only [List.map_cons, PyData.depthAll, PyData.weightAll, rowD, PyData.depth, PyData.weight, List.length_cons]
          omega
      obtain ⟨a, b⟩ := key (ruleTo t) lR.2
      have e1 : (("told" : Str)).cps.size = 4 := by decide
      unfold ruleD
      simp only [PyData.depth, PyData.depthAll, PyData.weight, PyData.weightAll, e1]
      omega
theorem rowT_ok {r : Row} (h : isRowM r = true) : OkT (rowT r) := fun c hc => by
  have p := part_sg h
  obtain ⟨h1, h2, h3⟩ := row_parts h
  have w : ∀ c ∈ abc.cps.toList, c < 1114112 := by decide +kernel
  have d : ∀ {m : Str}, isMarksM m = true → ∀ c ∈ (dashM m).cps.toList, c < 1114112 := fun hm c hc => (dash_sg hm c hc).elim (w c) fun z => by rw [z]; decide
  unfold rowT at hc
  rw [add_cps, add_cps, add_cps, add_cps] at hc
  have e : ((" " : Str)).cps.toList = [32] := by decide
  rw [e] at hc
  simp only [List.mem_append, List.mem_singleton] at hc
  rcases hc with ((((z | z) | z) | z) | z)
  · exact w c ((word_sg h1).1 c z)
  · rw [z]; decide
  · exact d h2 c z
  · rw [z]; decide
  · exact d h3 c z
theorem ruleT_okT {rs : List Row} (h : ∀ r ∈ rs, isRowM r = true) : OkT (ruleT rs) := by
  unfold ruleT
  refine okT_joinN fun y hy => ?_
  obtain ⟨r, hr, e⟩ := List.mem_map.mp hy
  rw [← e]
  exact rowT_ok (h r hr)
end Fc
set_option maxHeartbeats 4000000
namespace Fc
open PySem PySem.Spec PyProof.Rows L2
section
variable {P : Program} {w : World} {K : PySem.W.Frag} {mg : Str → Option Value} {base : Heap}
theorem scReachL : FnScope ["_law_cards", "_law_head", "_law_found", "_law_more", "_law_card"] ["_law_cards", "_law_head"] (defScope sReachL) := ⟨rfl, rfl, rfl, by decide +kernel, rfl, by decide +kernel, by decide +kernel⟩
theorem ok_reach13 (D : DefAt K mg "_law_reach" sReachL) (gS : mg "sorted" = none) (gT : mg "set" = none) : C8.Cal P w K mg base 1 "_law_reach" spReachL [] := by
  refine cal_mk D scReachL (fun vs H Q E h => ?_) (fun _ _ _ _ _ _ us hl => match us, hl with | [_, _], _ => rfl) (fun A outer s H vs Q E hr h => ?_)
  · obtain ⟨v, cs, hh, rfl, _⟩ := h
    rfl
  · obtain ⟨v, cs, hh, rfl, hd, hl, oh, oc, k⟩ := h
    obtain ⟨a, xs, rfl, _, ha, hx⟩ := hd.lst_ex
    have hlen : xs.length = cs.length := by rw [hx.len, List.length_map]
    refine ⟨_, pss_cons (ps_set (i := 2) scReachL.nd rfl (Or.inr rfl) (pe_lst pa_nil))
      (pss_cons (ps_set (i := 3) scReachL.nd rfl (Or.inl rfl) (pe_lst (pa_cons (pv 1) pa_nil)))
      (pss_cons (ps_while PassesOwn.never (pt_cmpR (op_neD (hu64 hr)) (pv 3) (pv 2) (nomark _))
        (pss_cons (ps_set (i := 2) scReachL.nd rfl (Or.inr rfl) (pv 3))
        (pss_one (ps_set (i := 3) scReachL.nd rfl (Or.inl rfl) (pe_callB (cr_sortSA rfl) (by rfl) gS boot_sorted (pa_cons (pe_callTy (cr_setS rfl) (by rfl) gT boot_set (pa_cons (pe_op op_cat (pv 2) (pe_lc (own := [("_law_card", 4)]) (g := gName 4) rfl scReachL.nd (pi_list (pv 0)) (blkOk_by (N := ["_law_cards", "_law_head", "_law_found", "_law_more", "_law_card"]) (sc := defScope sReachL) (by decide +kernel)) (fun _ _ _ _ _ => pg_name (i := 4) scReachL.nd rfl (Or.inl rfl))
          (fun _ _ _ _ _ => pts_one (pt_cmpR (op_inK (K := K)) (pe_ix (ix_tupK (K := K)) (pv 4) pe_int (fun _ _ => rfl)) (pv 2) rfl)) (fun _ _ _ _ _ => pe_ix (ix_tupK (K := K)) (pv 4) pe_int (fun _ _ => rfl)))) pa_nil)) pa_nil))))))
      (pss_one (ps_ret (pv 2))))), ?_⟩
    have sz : ∀ n : Nat, n ≤ 1000 → n ≤ sizeLine := fun n h => by rw [sizeLine_eq]; omega
    refine ⟨Nat.zero_le _, fun F fF => ⟨_, rfl, sz 1 (by decide), fun M fM => ?_⟩⟩
    have k0 : Kp N0 H (upd (upd H F (.lst [])) M (.lst [.str hh])) := (Kp.new fF).trans (Kp.new fM)
    have aF : (upd (upd H F (.lst [])) M (.lst [.str hh])) F = some (.lst []) := by rw [upd_ne (ne_of_none upd_same fM)]; exact upd_same
    have aM : (upd (upd H F (.lst [])) M (.lst [.str hh])) M = some (.lst [.str hh]) := upd_same
    have fM0 : H M = none := (Kp.new (S := N0) fF).fresh fM
    generalize upd (upd H F (.lst [])) M (.lst [.str hh]) = H0 at k0 aF aM ⊢
    refine while_rel (c := tTest (tOp (rNeD K) (tVar 3) (tVar 2))) (fun m σ' H' => ∃ (F M : Addr) (fs ms : List Str) (o4 : Option V), m = cs.length + 2 - fs.length ∧ σ' = [some (.ref a), some (.str hh), some (.ref F), some (.ref M), o4] ∧ Kp N0 H H' ∧ H F = none ∧ H' F = some (.lst (fs.map V.str)) ∧ H M = none ∧ H' M = some (.lst (ms.map V.str)) ∧ Seek cs hh fs ms)
      _ ⟨F, M, [], [hh], _, rfl, rfl, k0, fF, aF, fM0, aM, Seek.begin cs hh⟩ ?_ tNe_mono
    clear fF aF fM0 aM fM k0
    rintro m σ' H' ⟨F, M, fs, ms, o4, rfl, rfl, k1, fF, aF, fM, aM, z⟩
    have lm := z.len
    have okm : ∀ x ∈ ms, PyData.strOk x = true := fun x hx => (z.go x hx).ok oh oc
    refine ⟨_, rfl, _, rfl, .list (ms.map PyData.str), .list (fs.map PyData.str), .lst (SqL.of aM) (dpS _), .lst (SqL.of aF) (dpS _), shapedS _ okm, shapedS _ (fun x hx => okm x (z.sub x hx)), ?_⟩
    rw [eqv_strs]
    refine ⟨_, rfl, ?_⟩
    by_cases e : ms = fs
    · subst e
      rw [decide_eq_true rfl]
      refine iteF ⟨_, rfl, k F H' fF k1 ?_⟩
      rw [← z.end_]
      exact aF
    · rw [decide_eq_false e]
      have lt := rs_len_lt z.rf z.rm z.sub e
      have lg := goalsM_len cs ms
      refine iteT ⟨_, rfl, _, rfl, _, rfl, a, rfl, ⟨_, SqL.of (k1.obj ha ntl nn)⟩, fun C fC => lc_gen (walk_list (xs := xs)) cs hlen.symm (fun c => decide (c.1 ∈ ms)) (fun c => PyData.str c.2) N0 (fun _ z => z.elim) fC (by omega) (fun H2 k2 => SqL.of ((k1.trans k2).obj ha ntl nn)) (fun j c x H7 H7' hp2 k7 y Kt kt => ?_) fun H7 out k7 aC hdn => ?_⟩
      · obtain ⟨rfl, hx3⟩ := y
        obtain ⟨t, rfl, _, at0⟩ := paperD_ex ((hx.map_at hx3 hp2).kp (k1.trans k7))
        refine kt _ _ Kp.refl rfl (fun Q2 q2 => ⟨_, rfl, t, _, 0, _, rfl, rfl, SqT.of at0, rfl, _, rfl, M, _, rfl, .inl (SqL.of (k7.obj aM ntl nn)), rfl, flat_strs _, _, rfl, ?_⟩) fun _ H8 k8 S' _ hS' Q2 q2 => ?_
        · rw [inV_str]
          exact q2 _ Kp.refl
        · exact ⟨_, rfl, t, _, 1, _, rfl, rfl, SqT.of (k8.obj at0 ntt nn), rfl, q2 _ _ Kp.refl (.str _)⟩
      · have eo : out = (goalsM cs ms).map V.str := DnA.strs_eq (xs := goalsM cs ms) (by unfold goalsM; rw [List.map_map]; exact hdn)
        subst eo
        have aM7 := k7.obj aM ntl nn
        refine ⟨M, C, _, _, rfl, rfl, aM7, aC, by rw [List.length_map, List.length_map, sizeLine_eq]; omega, fun X fX => ?_⟩
        refine ⟨X, ms ++ goalsM cs ms, rfl, SqL.of (by rw [List.map_append]; exact upd_same), by rw [List.length_append]; omega, fun R l fR nd hm hll => ⟨R, l, rfl, upd_same, by rw [List.length_append] at hll; omega, fun Y fY => ?_⟩⟩
        have er : riseS l = nextM cs ms := riseS_congr hm
        rw [er]
        have k2 : Kp N0 H7 (upd (upd (upd H7 X (.lst (ms.map V.str ++ (goalsM cs ms).map V.str))) R (SetSO w R l)) Y (.lst ((nextM cs ms).map V.str))) := ((Kp.new fX).trans (Kp.new fR)).trans (Kp.new fY)
        have fY0 : H Y = none := (((k1.trans k7).trans (Kp.new fX)).trans (Kp.new fR)).fresh fY
        exact ⟨_, by omega, M, Y, ms, nextM cs ms, _, rfl, rfl, (k1.trans k7).trans k2, fM, k2.obj aM7 ntl nn, fY0, upd_same, z.step⟩
end
end Fc
set_option maxHeartbeats 4000000
namespace Fc
open PySem PySem.Spec PyProof.Rows L2
section
variable {P : Program} {w : World} {K : PySem.W.Frag} {mg : Str → Option Value} {base : Heap}
theorem scIsSmall : FnScope ["text"] ["text"] (defScope sIsSmall) := ⟨rfl, rfl, rfl, by decide +kernel, rfl, by decide +kernel, by decide +kernel⟩
theorem ok_isSmall {T : List Addr} (D : DefAt K mg "is_small" sIsSmall) (TB : GxR.TabB base mg (cO K "is_small") (tO K "is_small")) (hT : tO K "is_small" ∈ T) (gAll : mg "all" = none) (gL : ∃ t, mg "LETTERS" = some (.str abc t)) :
    C8.Cal P w K mg base 2 "is_small" (spIsSmall T) [] := by
  refine cal_mk D scIsSmall (fun vs H Q E h => ?_) (fun _ _ _ _ _ _ us hl => match us, hl with | [_], _ => rfl) (fun A outer s H vs Q E hr h => ?_)
  · obtain ⟨t, rfl, _⟩ := h
    rfl
  · obtain ⟨t, rfl, ht, k⟩ := h
    refine ⟨_, pss_one (ps_ret (pe_and (pe_cmpR op_ne (pv 0) pe_str (nomark _)) (pe_one (pe_allGlo hr gAll TB rfl (pv 0) gL)))), ?_⟩
    have e : isSmallM t = (!decide (t = "") && t.cps.toList.all (sg abc)) := rfl
    have ed : (!decide (V.str t = V.str "")) = !decide (t = "") := by simp
    refine ⟨_, rfl, rfl, _, rfl, ?_⟩
    rw [ed]
    refine ite2 (fun c => ?_) (fun c => ?_)
    · rw [c, Bool.true_and] at e
      refine ⟨_, rfl, t, rfl, ht _ hT, fun H2 t2 => ?_⟩
      have q := k H2 (Kp.tabbed (ht _ hT) t2)
      rw [e] at q
      rw [if_pos rfl]
      exact q
    · have c' : (!decide (t = "")) = false := by simpa using c
      rw [c', Bool.false_and] at e
      have q := k H Kp.refl
      rw [e] at q
      exact q
end
end Fc
set_option maxHeartbeats 4000000
namespace Fc
open PySem PySem.Spec PyProof.Rows L2
section
variable {P : Program} {w : World} {K : PySem.W.Frag} {mg : Str → Option Value} {base : Heap}
theorem scIsWord : FnScope ["text"] ["text"] (defScope sIsWord) := ⟨rfl, rfl, rfl, by decide +kernel, rfl, by decide +kernel, by decide +kernel⟩
theorem ok_isWord {T : List Addr} (D : DefAt K mg "is_word" sIsWord) (C : C8.Cal P w K mg base 2 "is_small" (spIsSmall T) []) (gLen : mg "len" = none) (gW : ∃ t, mg "LONGEST_WORD" = some (.int 6 t)) :
    C8.Cal P w K mg base 3 "is_word" (spIsWord T) [] := by
  refine cal_mk D scIsWord (fun vs H Q E h => ?_) (fun _ _ _ _ _ _ us hl => match us, hl with | [_], _ => rfl) (fun A outer s H vs Q E hr h => ?_)
  · obtain ⟨t, rfl, _⟩ := h
    rfl
  · obtain ⟨t, rfl, hl, ht, k⟩ := h
    refine ⟨_, pss_one (ps_ret (pe_and (C8.pe_c C hr (by decide) rfl (pa_cons (pv 0) pa_nil)) (pe_one (pe_cmpR op_le (pe_callB call_len_str (by rfl) gLen PySem.boot_len (pa_cons (pv 0) pa_nil)) (pe_gi gW) (nomark _))))), ?_⟩
    have e := isWord_small t
    refine ⟨_, rfl, t, rfl, ht, fun H1 k1 => ⟨_, rfl, ?_⟩⟩
    refine ite2 (fun c => ?_) (fun c => ?_)
    · rw [c, Bool.true_and] at e
      refine ⟨_, rfl, t, rfl, by rw [sizeLine_eq]; omega, _, _, rfl, rfl, ?_⟩
      have q := k H1 k1
      rw [e] at q
      exact q
    · have c' : isSmallM t = false := by simpa using c
      rw [c', Bool.false_and] at e
      have q := k H1 k1
      rw [e] at q
      exact q
end
end Fc
set_option maxHeartbeats 4000000
namespace Fc
open PySem PySem.Spec PyProof.Rows L2
section
variable {P : Program} {w : World} {K : PySem.W.Frag} {mg : Str → Option Value} {base : Heap}
theorem scIsMarks : FnScope ["text", "mark"] ["text"] (defScope sIsMarks) := ⟨rfl, rfl, rfl, by decide +kernel, rfl, by decide +kernel, by decide +kernel⟩
theorem ok_isMarks (D : DefAt K mg "is_marks" sIsMarks) (gM : ∃ t, mg "MARKS" = some (.str a2h t)) : C8.Cal P w K mg base 3 "is_marks" spIsMarks [] := by
  refine cal_mk D scIsMarks (fun vs H Q E h => ?_) (fun _ _ _ _ _ _ us hl => match us, hl with | [_], _ => rfl) (fun A outer s H vs Q E hr h => ?_)
  · obtain ⟨t, rfl, _⟩ := h
    rfl
  · obtain ⟨t, rfl, hl, k⟩ := h
    refine ⟨_, pss_one (ps_ret (pe_cmpR op_eq (pv 0) (pe_joinK (K := K) rfl pe_str (pe_lc (own := [("mark", 1)]) (g := gName 1) rfl scIsMarks.nd (pi_str (pe_gs gM)) (blkOk_by (N := ["text", "mark"]) (sc := defScope sIsMarks) (by decide +kernel)) (fun _ _ _ _ _ => pg_name (i := 1) scIsMarks.nd rfl (Or.inl rfl))
      (fun _ _ _ _ _ => pts_one (pt_cmpR op_in_sign (pv 1) (pv 0) rfl)) (fun _ _ _ _ _ => pv 1))) (nomark _))), ?_⟩
    refine ⟨_, rfl, ⟨_, rfl⟩, a2h, rfl, fun D hD => lc_txt (fun c => sg t c) (fun c => PyData.str ⟨#[c]⟩) N0 (fun _ z => z.elim) hD (by decide) (fun _ => rfl) (fun c H2 _ k2 Q2 q2 => ?_) (fun c H2 _ _ k2 S' _ _ Q2 q2 => ?_) fun H' out k2 hout hdn => ?_⟩
    · exact ⟨_, rfl, _, rfl, c, t, rfl, rfl, _, rfl, q2 H2 Kp.refl⟩
    · exact ⟨_, rfl, q2 _ H2 Kp.refl (.str _)⟩
    · rw [signs_map] at hdn
      have eo := hdn.strs_eq
      subst eo
      have small : (a2h.cps.toList.filter fun c => sg t c).length ≤ 8 := List.length_filter_le _ _
      refine ⟨"", D, _, rfl, rfl, .inl (SqL.of hout), ?_, rfl, ?_⟩
      · rw [signs_sum, List.length_map]
        show _ + _ * 0 ≤ _
        omega
      · rw [join_signs]
        have q := k H' k2
        unfold isMarksM at q
        have e : decide (V.str t = V.str (oS (a2h.cps.toList.filter fun c => sg t c))) = decide (t = oS (a2h.cps.toList.filter (sg t))) := by simp
        show Q (.bl (decide (V.str t = V.str (oS (a2h.cps.toList.filter fun c => sg t c))))) H'
        rw [e]
        exact q
end
end Fc
set_option maxHeartbeats 4000000
namespace Fc
open PySem PySem.Spec PyProof.Rows L2
section
variable {P : Program} {w : World} {K : PySem.W.Frag} {mg : Str → Option Value} {base : Heap}
theorem scIsRow : FnScope ["row", "head", "needs", "bars"] ["row"] (defScope sIsRow) := ⟨rfl, rfl, rfl, by decide +kernel, rfl, by decide +kernel, by decide +kernel⟩
theorem ok_isRow {T : List Addr} (D : DefAt K mg "is_row" sIsRow) (TB : GxR.TabB base mg (cO K "is_row") (tO K "is_row")) (hT : tO K "is_row" ∈ T) (C1 : C8.Cal P w K mg base 3 "is_word" (spIsWord T) []) (C2 : C8.Cal P w K mg base 3 "is_marks" spIsMarks []) (gAny : mg "any" = none) (gR : ∃ t, mg "REST" = some (.str "rest" t)) :
    C8.Cal P w K mg base 4 "is_row" (spIsRow T) [] := by
  refine cal_mk D scIsRow (fun vs H Q E h => ?_) (fun _ _ _ _ _ _ us hl => match us, hl with | [_], _ => rfl) (fun A outer s H vs Q E hr h => ?_)
  · obtain ⟨v, r, rfl, _⟩ := h
    rfl
  · obtain ⟨v, r, rfl, hd, l1, l2, l3, ht, k⟩ := h
    obtain ⟨a, rfl, _, ha⟩ := rowD_ex hd
    refine ⟨_, pss_cons (ps_asg (pv 0) (pg_tup rfl (pgs_cons (pg_name (i := 1) scIsRow.nd rfl (Or.inl rfl)) (pgs_cons (pg_name (i := 2) scIsRow.nd rfl (Or.inl rfl)) (pgs_cons (pg_name (i := 3) scIsRow.nd rfl (Or.inr rfl)) pgs_nil)))))
      (pss_cons (ps_if (PW.pt (pw_or (pt_not (pt_val (C8.pe_c C1 hr (by decide) rfl (pa_cons (pv 1) pa_nil)))) (pw_or1 (pt_cmpR op_eq (pv 1) (pe_gs gR) (nomark _))))) (pss_one (ps_ret pe_bl)) pss_nil)
      (pss_cons (ps_if (PW.pt (pw_or (pt_not (pt_val (C8.pe_c C2 hr (by decide) rfl (pa_cons (pv 2) pa_nil)))) (pw_or1 (pt_not (pt_val (C8.pe_c C2 hr (by decide) rfl (pa_cons (pv 3) pa_nil))))))) (pss_one (ps_ret pe_bl)) pss_nil)
      (pss_one (ps_ret (pe_not (pe_anyCap (j := 3) hr gAny TB rfl (pv 2))))))), ?_⟩
    have e : isRowM r = ((isWordM r.1 && !decide (r.1 = "rest")) && ((isMarksM r.2.1 && isMarksM r.2.2) && !r.2.1.cps.toList.any (sg r.2.2))) := rfl
    have fin : ∀ b H', isRowM r = b → Kp N0 H H' → Q (.bl b) H' := fun b H' eb k' => by
      rw [← eb]
      exact k H' k'
    clear k
    refine ⟨_, rfl, a, _, rfl, SqT.of ha, rfl, _, _, rfl, _, _, rfl, _, _, rfl, rfl, ?_⟩
    refine ⟨_, rfl, r.1, rfl, l1, ht, fun H1 k1 => ⟨_, rfl, ?_⟩⟩
    cases c1 : isWordM r.1 with
    | false => exact fin false _ (by rw [e, c1] <;> rfl) k1
    | true =>
    refine iteF ⟨_, rfl, rfl, _, rfl, ?_⟩
    have ed : decide (V.str r.1 = V.str "rest") = decide (r.1 = "rest") := by simp
    refine ite2 (fun c2 => ?_) (fun c2 => ?_)
    · rw [ed] at c2
      exact fin false _ (by rw [e, c1, c2] <;> rfl) k1
    · rw [ed] at c2
      have c2' : decide (r.1 = "rest") = false := by simpa using c2
      refine ⟨_, rfl, r.2.1, rfl, l2, fun H2 k2 => ⟨_, rfl, ?_⟩⟩
      cases c3 : isMarksM r.2.1 with
      | false => exact fin false _ (by rw [e, c1, c2', c3] <;> rfl) (k1.trans k2)
      | true =>
      refine iteF ⟨_, rfl, r.2.2, rfl, l3, fun H3 k3 => ⟨_, rfl, ?_⟩⟩
      have k13 := k1.trans (k2.trans k3)
      cases c4 : isMarksM r.2.2 with
      | false => exact fin false _ (by rw [e, c1, c2', c3, c4] <;> rfl) k13
      | true =>
      refine iteF ⟨_, rfl, r.2.1, r.2.2, rfl, rfl, (k13.tbs ht) _ hT, fun H4 t4 => ⟨_, rfl, ?_⟩⟩
      rw [if_neg Bool.false_ne_true]
      exact fin _ _ (by rw [e, c1, c2', c3, c4] <;> rfl) (k13.trans (Kp.tabbed ((k13.tbs ht) _ hT) t4))
end
end Fc
set_option maxHeartbeats 4000000
namespace Fc
open PySem PySem.Spec PyProof.Rows L2
section
variable {P : Program} {w : World} {K : PySem.W.Frag} {mg : Str → Option Value} {base : Heap}
theorem scCheckRule : FnScope ["rule", "heads", "number", "row"] ["rule"] (defScope sCheckRule) := ⟨rfl, rfl, rfl, by decide +kernel, rfl, by decide +kernel, by decide +kernel⟩
theorem ok_checkRule {T : List Addr} (D : DefAt K mg "check_rule" sCheckRule) (C : C8.Cal P w K mg base 4 "is_row" (spIsRow T) []) (gS : mg "set" = none) (gE : mg "enumerate" = none) (gLen : mg "len" = none) (gMR : ∃ t, mg "MOST_ROWS" = some (.int 12 t)) (gMH : ∃ t, mg "MOST_HEADS" = some (.int 6 t)) :
    C8.Cal P w K mg base 5 "check_rule" (spCheckRule T) [] := by
  refine cal_mk D scCheckRule (fun vs H Q E h => ?_) (fun _ _ _ _ _ _ us hl => match us, hl with | [_], _ => rfl) (fun A outer s H vs Q E hr h => ?_)
  · obtain ⟨v, rs, rfl, _⟩ := h
    rfl
  · obtain ⟨v, rs, rfl, hd, hg, ht, k⟩ := h
    obtain ⟨a, xs, rfl, _, ha, hx⟩ := hd.lst_ex
    have hlen : xs.length = rs.length := by rw [hx.len, List.length_map]
    have few := hg.few
    obtain ⟨hs, hs6, hsm⟩ := hg.heads
    refine ⟨_, pss_cons (ps_set (i := 1) scCheckRule.nd rfl (Or.inl rfl) (pe_callTy0 cr_set0S (by rfl) gS boot_set))
      (pss_one (ps_for PassesOwn.never rfl (pi_enum (by rfl) gE (pa_cons (pv 0) pa_nil)) (pg_tup rfl (pgs_cons (pg_name (i := 2) scCheckRule.nd rfl (Or.inl rfl)) (pgs_cons (pg_name (i := 3) scCheckRule.nd rfl (Or.inl rfl)) pgs_nil)))
        (pss_cons (ps_if (PW.pt (pw_or (pt_cmpR op_ge (pv 2) (pe_gi gMR) (nomark _)) (pw_or1 (pt_not (pt_val (C8.pe_c C hr (by decide) rfl (pa_cons (pv 3) pa_nil))))))) pss_never pss_nil)
        (pss_cons (ps_expr (pe_saddS (pv 1) (pa_cons (pe_ix ix_tup (pv 3) pe_int (fun _ _ => rfl)) pa_nil)))
        (pss_one (ps_if (pt_cmpR op_gt (pe_callB call_lenSS (by rfl) gLen PySem.boot_len (pa_cons (pv 1) pa_nil)) (pe_gi gMH) (nomark _)) pss_never pss_nil)))))), ?_⟩
    refine ⟨rfl, fun p hp => ?_⟩
    refine ⟨_, rfl, a, xs, rfl, SqL.of ((Kp.new hp).obj ha ntl nn), for_it (walk_enum (xs := xs)) (fun i σ' H' => ∃ (l : List Str) (o2 o3 : Option V), σ' = [some (.ref a), some (.ref p), o2, o3] ∧ Kp N0 H H' ∧ H' p = some (SetSO w p l) ∧ l.Nodup ∧ ∀ x ∈ l, x ∈ hs)
      ⟨[], none, none, rfl, Kp.new hp, upd_same, List.nodup_nil, fun x hx => nomatch hx⟩ (fun i σ' H' _ ⟨_, _, _, _, k1, _⟩ => SqL.of (k1.obj ha ntl nn)) (fun i x σ' H' H2 hi ⟨l, o2, o3, es, k1, hl, nd, hm⟩ y => ?_) fun σ' H' ⟨_, _, _, _, k1, _⟩ => k H' k1⟩
    obtain ⟨U, u, z, rfl, hU, rfl, eu, ez⟩ := y
    cases eu
    subst es
    have hi2 : i < rs.length := by rw [← hlen]; exact hi
    have hr2 : rs[i]? = some rs[i] := List.getElem?_eq_getElem hi2
    have hin : rs[i] ∈ rs := List.getElem_mem hi2
    have row := hg.row _ hin
    obtain ⟨l1, l2, l3⟩ := isRowM_len row
    have pU : p ≠ U := ne_of_none hl hU
    have k2 : Kp N0 H (upd H' U (.tup [.int (i : Nat), z])) := k1.trans (Kp.new hU)
    refine ⟨U, _, rfl, SqT.of upd_same, rfl, _, _, rfl, _, _, rfl, rfl, ?_⟩
    refine ⟨_, rfl, _, _, rfl, rfl, _, rfl, ite2 (fun c => absurd (of_decide_eq_true c) (by omega)) fun _ => ?_⟩
    refine ⟨_, rfl, z, rs[i], rfl, (hx.map_at ez hr2).kp k2, by omega, by omega, by omega, k2.tbs ht, fun H3 k3 => ⟨_, rfl, ?_⟩⟩
    rw [row]
    refine iteF ?_
    have hl3 : H3 p = some (SetSO w p l) := k3.obj (by rw [upd_ne pU]; exact hl) nte nn
    obtain ⟨b, rfl, _, hb⟩ := rowD_ex ((hx.map_at ez hr2).kp (k2.trans k3))
    have small : l.length ≤ 6 := Nat.le_trans (nodup_le nd hm) hs6
    refine ⟨_, rfl, ⟨p, l, rfl, hl3⟩, _, rfl, b, _, 0, _, rfl, rfl, SqT.of hb, rfl, p, rs[i].1, l, rfl, rfl, hl3, by omega, ?_⟩
    have nd' : (if rs[i].1 ∈ l then l else rs[i].1 :: l).Nodup := by
      split
      · exact nd
      · rename_i c
        exact List.nodup_cons.mpr ⟨c, nd⟩
    have hm' : ∀ x ∈ (if rs[i].1 ∈ l then l else rs[i].1 :: l), x ∈ hs := fun x hx => by
      split at hx
      · exact hm x hx
      · rcases List.mem_cons.mp hx with q | q
        · rw [q]
          exact hsm _ hin
        · exact hm x q
    have small' : (if rs[i].1 ∈ l then l else rs[i].1 :: l).length ≤ 6 := Nat.le_trans (nodup_le nd' hm') hs6
    refine ⟨_, rfl, p, _, rfl, upd_same, _, _, rfl, rfl, _, rfl, ite2 (fun c => absurd (of_decide_eq_true c) (by omega)) fun _ => ?_⟩
    exact ⟨_, _, _, rfl, (k2.trans k3).mut hp, upd_same, nd', hm'⟩
end
end Fc
set_option maxHeartbeats 4000000
namespace Fc
open PySem PySem.Spec PyProof.Rows L2
section
variable {P : Program} {w : World} {K : PySem.W.Frag} {mg : Str → Option Value} {base : Heap}
theorem scCheckPapers : FnScope ["papers", "names", "number", "name", "marks"] ["papers"] (defScope sCheckPapers) := ⟨rfl, rfl, rfl, by decide +kernel, rfl, by decide +kernel, by decide +kernel⟩
theorem ok_checkPapers {T : List Addr} (D : DefAt K mg "check_papers" sCheckPapers) (C1 : C8.Cal P w K mg base 3 "is_word" (spIsWord T) []) (C2 : C8.Cal P w K mg base 3 "is_marks" spIsMarks []) (gS : mg "set" = none) (gE : mg "enumerate" = none) (gMP : ∃ t, mg "MOST_PAPERS" = some (.int 12 t)) :
    C8.Cal P w K mg base 4 "check_papers" (spCheckPapers T) [] := by
  refine cal_mk D scCheckPapers (fun vs H Q E h => ?_) (fun _ _ _ _ _ _ us hl => match us, hl with | [_], _ => rfl) (fun A outer s H vs Q E hr h => ?_)
  · obtain ⟨v, ps, rfl, _⟩ := h
    rfl
  · obtain ⟨v, ps, rfl, hd, hg, ht, k⟩ := h
    obtain ⟨a, xs, rfl, _, ha, hx⟩ := hd.lst_ex
    have hlen : xs.length = ps.length := by rw [hx.len, List.length_map]
    have few := hg.few
    refine ⟨_, pss_cons (ps_set (i := 1) scCheckPapers.nd rfl (Or.inl rfl) (pe_callTy0 cr_set0S (by rfl) gS boot_set))
      (pss_one (ps_for PassesOwn.never rfl (pi_enum (by rfl) gE (pa_cons (pv 0) pa_nil)) (pg_tup rfl (pgs_cons (pg_name (i := 2) scCheckPapers.nd rfl (Or.inl rfl)) (pgs_cons (pg_tup rfl (pgs_cons (pg_name (i := 3) scCheckPapers.nd rfl (Or.inl rfl)) (pgs_cons (pg_name (i := 4) scCheckPapers.nd rfl (Or.inl rfl)) pgs_nil))) pgs_nil)))
        (pss_cons (ps_if (PW.pt (pw_or (pt_cmpR op_ge (pv 2) (pe_gi gMP) (nomark _)) (pw_or (pt_not (pt_val (C8.pe_c C1 hr (by decide) rfl (pa_cons (pv 3) pa_nil)))) (pw_or1 (pt_not (pt_val (C8.pe_c C2 hr (by decide) rfl (pa_cons (pv 4) pa_nil)))))))) pss_never pss_nil)
        (pss_cons (ps_if (pt_cmpR op_inSS (pv 3) (pv 1) rfl) pss_never pss_nil)
        (pss_one (ps_expr (pe_saddS (pv 1) (pa_cons (pv 3) pa_nil)))))))), ?_⟩
    refine ⟨rfl, fun p hp => ?_⟩
    refine ⟨_, rfl, a, xs, rfl, SqL.of ((Kp.new hp).obj ha ntl nn), for_it (walk_enum (xs := xs)) (fun i σ' H' => ∃ (l : List Str) (o2 o3 o4 : Option V), σ' = [some (.ref a), some (.ref p), o2, o3, o4] ∧ Kp N0 H H' ∧ H' p = some (SetSO w p l) ∧ l.length ≤ i ∧ ∀ x ∈ l, x ∈ (ps.take i).map (·.1))
      ⟨[], none, none, none, rfl, Kp.new hp, upd_same, Nat.le_refl _, fun x hx => nomatch hx⟩ (fun i σ' H' _ ⟨_, _, _, _, _, k1, _⟩ => SqL.of (k1.obj ha ntl nn)) (fun i x σ' H' H2 hi ⟨l, o2, o3, o4, es, k1, hl, nl, hm⟩ y => ?_) fun σ' H' ⟨_, _, _, _, _, k1, _⟩ => k H' k1⟩
    obtain ⟨U, u, z, rfl, hU, rfl, eu, ez⟩ := y
    cases eu
    subst es
    have hi2 : i < ps.length := by rw [← hlen]; exact hi
    have hr2 : ps[i]? = some ps[i] := List.getElem?_eq_getElem hi2
    have hin : ps[i] ∈ ps := List.getElem_mem hi2
    obtain ⟨w1, w2⟩ := hg.ok _ hin
    have l1 := isWordM_len w1
    have l2 := isMarksM_len w2
    have pU : p ≠ U := ne_of_none hl hU
    have k2 : Kp N0 H (upd H' U (.tup [.int (i : Nat), z])) := k1.trans (Kp.new hU)
    obtain ⟨b, rfl, _, hb⟩ := paperD_ex ((hx.map_at ez hr2).kp k2)
    have hl2 : (upd H' U (.tup [.int (i : Nat), V.ref b])) p = some (SetSO w p l) := by rw [upd_ne pU]; exact hl
    have aU : (upd H' U (.tup [.int (i : Nat), V.ref b])) U = some (.tup [.int (i : Nat), V.ref b]) := upd_same
    generalize upd H' U (.tup [.int (i : Nat), V.ref b]) = H3 at k2 hb hl2 aU ⊢
    refine ⟨U, _, rfl, SqT.of aU, rfl, _, _, rfl, _, _, rfl, b, _, rfl, SqT.of hb, rfl, _, _, rfl, _, _, rfl, rfl, rfl, ?_⟩
    refine ⟨_, rfl, _, _, rfl, rfl, _, rfl, ite2 (fun c => absurd (of_decide_eq_true c) (by omega)) fun _ => ?_⟩
    refine ⟨_, rfl, _, rfl, by omega, k2.tbs ht, fun H4 k4 => ⟨_, rfl, ?_⟩⟩
    rw [w1]
    refine iteF ⟨_, rfl, _, rfl, by omega, fun H5 k5 => ⟨_, rfl, ?_⟩⟩
    rw [w2]
    refine iteF ?_
    have k45 := k4.trans k5
    have hl5 : H5 p = some (SetSO w p l) := k45.obj hl2 nte nn
    have new : ps[i].1 ∉ l := fun c => by
      have q := hm _ c
      have nd := hg.nd
      rw [← List.take_append_drop i (ps.map (·.1)), ← List.map_take] at nd
      have dj := (List.nodup_append.mp nd).2.2
      refine dj _ q _ ?_ rfl
      rw [← List.map_drop]
      exact List.mem_map.mpr ⟨ps[i], List.mem_of_getElem? (i := 0) (by rw [List.getElem?_drop]; simpa using hr2), rfl⟩
    refine ⟨_, rfl, _, rfl, _, _, _, rfl, rfl, hl5, _, rfl, ite2 (fun c => absurd (of_decide_eq_true c) new) fun _ => ?_⟩
    refine ⟨_, rfl, ⟨p, l, rfl, hl5⟩, _, rfl, p, ps[i].1, l, rfl, rfl, hl5, by omega, ?_⟩
    rw [if_neg new]
    refine ⟨ps[i].1 :: l, _, _, _, rfl, (k2.trans k45).mut hp, upd_same, Nat.succ_le_succ nl, fun x hx => ?_⟩
    have tk : ps.take (i + 1) = ps.take i ++ [ps[i]] := by rw [List.take_append_getElem]
    rw [tk, List.map_append]
    rcases List.mem_cons.mp hx with q | q
    · exact List.mem_append_right _ (by rw [q]; exact List.mem_cons_self)
    · exact List.mem_append_left _ (hm x q)
end
end Fc
set_option maxHeartbeats 4000000
namespace Fc
open PySem PySem.Spec PyProof.Rows L2
section
variable {P : Program} {w : World} {K : PySem.W.Frag} {mg : Str → Option Value} {base : Heap}
theorem scHolds : FnScope ["row", "marks", "_", "needs", "bars"] ["row", "marks"] (defScope sHolds) := ⟨rfl, rfl, rfl, by decide +kernel, rfl, by decide +kernel, by decide +kernel⟩
theorem ok_holds {T : List Addr} (D : DefAt K mg "holds" sHolds) (TB : GxR.TabB base mg (cO K "holds") (tO K "holds")) (hT : tO K "holds" ∈ T) (gAll : mg "all" = none) (gAny : mg "any" = none) : C8.Cal P w K mg base 3 "holds" (spHolds T) [] := by
  refine cal_mk D scHolds (fun vs H Q E h => ?_) (fun _ _ _ _ _ _ us hl => match us, hl with | [_, _], _ => rfl) (fun A outer s H vs Q E hr h => ?_)
  · obtain ⟨v, r, m, rfl, _⟩ := h
    rfl
  · obtain ⟨v, r, m, rfl, hd, ht, k⟩ := h
    obtain ⟨a, rfl, _, ha⟩ := rowD_ex hd
    refine ⟨_, pss_cons (ps_asg (pv 0) (pg_tup rfl (pgs_cons (pg_name (i := 2) scHolds.nd rfl (Or.inl rfl)) (pgs_cons (pg_name (i := 3) scHolds.nd rfl (Or.inl rfl)) (pgs_cons (pg_name (i := 4) scHolds.nd rfl (Or.inl rfl)) pgs_nil)))))
      (pss_one (ps_ret (pe_and (pe_allCap (j := 1) hr gAll TB rfl (pv 3)) (pe_one (pe_not (pe_anyCap (j := 1) hr gAny TB rfl (pv 4))))))), ?_⟩
    refine ⟨_, rfl, a, _, rfl, SqT.of ha, rfl, _, _, rfl, _, _, rfl, _, _, rfl, rfl, ?_⟩
    refine ⟨_, rfl, _, _, rfl, rfl, ht _ hT, fun H2 t2 => ⟨_, rfl, ?_⟩⟩
    have k2 : Kp N0 H H2 := Kp.tabbed (ht _ hT) t2
    have e : holdsM r m = (r.2.1.cps.toList.all (sg m) && !r.2.2.cps.toList.any (sg m)) := rfl
    rw [if_pos rfl]
    cases c : r.2.1.cps.toList.all (sg m) with
    | false =>
      rw [if_neg Bool.false_ne_true]
      have q := k H2 k2
      rw [e, c] at q
      exact q
    | true =>
      rw [if_pos rfl]
      refine ⟨_, rfl, _, _, rfl, rfl, k2.tab (ht _ hT), fun H3 t3 => ⟨_, rfl, ?_⟩⟩
      rw [if_neg Bool.false_ne_true]
      have q := k H3 (k2.trans (Kp.tabbed (k2.tab (ht _ hT)) t3))
      rw [e, c] at q
      exact q
end
end Fc
set_option maxHeartbeats 4000000
namespace Fc
open PySem PySem.Spec PyProof.Rows L2
section
variable {P : Program} {w : World} {K : PySem.W.Frag} {mg : Str → Option Value} {base : Heap}
theorem scTurn : FnScope ["rule", "marks", "row"] ["rule", "marks"] (defScope sTurn) := ⟨rfl, rfl, rfl, by decide +kernel, rfl, by decide +kernel, by decide +kernel⟩
theorem ok_turn {T : List Addr} (D : DefAt K mg "heads_in_turn" sTurn) (C : C8.Cal P w K mg base 3 "holds" (spHolds T) []) (gR : ∃ t, mg "REST" = some (.str "rest" t)) : C8.Cal P w K mg base 4 "heads_in_turn" (spTurn T) [] := by
  refine cal_mk D scTurn (fun vs H Q E h => ?_) (fun _ _ _ _ _ _ us hl => match us, hl with | [_, _], _ => rfl) (fun A outer s H vs Q E hr h => ?_)
  · obtain ⟨v, rs, m, rfl, _⟩ := h
    rfl
  · obtain ⟨v, rs, m, rfl, hd, hl, ht, k⟩ := h
    obtain ⟨a, xs, rfl, _, ha, hx⟩ := hd.lst_ex
    have hlen : rs.length = xs.length := by rw [hx.len, List.length_map]
    refine ⟨_, pss_one (ps_ret (pe_orT (pe_lc (own := [("row", 2)]) (g := gName 2) rfl scTurn.nd (pi_list (pv 0)) (blkOk_by (N := ["rule", "marks", "row"]) (sc := defScope sTurn) (by decide +kernel)) (fun _ _ _ _ _ => pg_name (i := 2) scTurn.nd rfl (Or.inl rfl))
      (fun _ _ _ _ _ => pts_one (pt_val (C8.pe_c C hr (by decide) rfl (pa_cons (pv 2) (pa_cons (pv 1) pa_nil))))) (fun _ _ _ _ _ => pe_ix (ix_tupK (K := K)) (pv 2) pe_int (fun _ _ => rfl)))
      (pe_one (pe_lst (pa_cons (pe_gs gR) pa_nil))))), ?_⟩
    refine ⟨_, rfl, a, rfl, ⟨_, SqL.of ha⟩, fun D hD => lc_lst (xs := xs) rs (fun r => holdsM r m) (fun r => PyData.str r.1) N0 ha hlen (fun _ z => z.elim) hD (by omega) (fun _ => rfl) (fun i r x H2 hr2 hx2 k2 Q2 q2 => ?_) (fun i r x H2 hr2 hx2 _ k2 S' _ _ Q2 q2 => ?_) fun H' out k2 hout hdn => ?_⟩
    · exact ⟨_, rfl, _, rfl, x, r, m, rfl, (hx.map_at hx2 hr2).kp k2, k2.tbs ht, fun H' k' => ⟨_, rfl, q2 H' k'⟩⟩
    · obtain ⟨b, rfl, _, hb⟩ := rowD_ex ((hx.map_at hx2 hr2).kp k2)
      exact ⟨_, rfl, b, _, 0, _, rfl, rfl, SqT.of hb, rfl, q2 _ _ Kp.refl (.str _)⟩
    · have eo : out = (heldM rs m).map V.str := (DnA.strs_eq (xs := heldM rs m) (by unfold heldM; rw [List.map_map]; exact hdn))
      subst eo
      refine ⟨!(heldM rs m).isEmpty, .inl ⟨_, SqL.of hout, by simp⟩, ?_⟩
      cases c : (heldM rs m).isEmpty with
      | false =>
        refine iteT (k D H' hD k2 ?_)
        rw [hout]
        unfold turnM
        rw [if_neg (by rw [c]; exact Bool.false_ne_true)]
      | true =>
        refine iteF ⟨Nat.le_of_lt (by rw [sizeLine_eq]; decide), fun p hp => k p _ (k2.fresh hp) (k2.trans (Kp.new hp)) ?_⟩
        rw [upd_same]
        unfold turnM
        rw [if_pos c]
        rfl
end
end Fc
set_option maxHeartbeats 4000000
namespace Fc
open PySem PySem.Spec PyProof.Rows L2
section
variable {P : Program} {w : World} {K : PySem.W.Frag} {mg : Str → Option Value} {base : Heap}
theorem scMain : FnScope ["rule", "marks"] ["rule", "marks"] (defScope sMain) := ⟨rfl, rfl, rfl, by decide +kernel, rfl, by decide +kernel, by decide +kernel⟩
theorem ok_main {T : List Addr} (D : DefAt K mg "main_head" sMain) (C : C8.Cal P w K mg base 4 "heads_in_turn" (spTurn T) []) : C8.Cal P w K mg base 5 "main_head" (spMain T) [] := by
  refine cal_mk D scMain (fun vs H Q E h => ?_) (fun _ _ _ _ _ _ us hl => match us, hl with | [_, _], _ => rfl) (fun A outer s H vs Q E hr h => ?_)
  · obtain ⟨v, rs, m, rfl, _⟩ := h
    rfl
  · obtain ⟨v, rs, m, rfl, hd, hl, ht, k⟩ := h
    refine ⟨_, pss_one (ps_ret (pe_ix ix_list (C8.pe_c C hr (by decide) rfl (pa_cons (pv 0) (pa_cons (pv 1) pa_nil))) pe_int (fun _ _ => rfl))), ?_⟩
    exact ⟨_, rfl, _, rfl, v, rs, m, rfl, hd, by omega, ht, fun p H1 hp k1 h1 => ⟨p, _, 0, _, rfl, rfl, SqL.of h1, atI_nat (j := 0) (by rw [List.getElem?_map, turnM_0]; rfl), k H1 k1⟩⟩
end
end Fc
set_option maxHeartbeats 4000000
namespace Fc
open PySem PySem.Spec PyProof.Rows L2
section
variable {P : Program} {w : World} {K : PySem.W.Frag} {mg : Str → Option Value} {base : Heap}
theorem scRising : FnScope ["rule", "marks"] ["rule", "marks"] (defScope sRising) := ⟨rfl, rfl, rfl, by decide +kernel, rfl, by decide +kernel, by decide +kernel⟩
theorem ok_rising {T : List Addr} (D : DefAt K mg "rising_heads" sRising) (C : C8.Cal P w K mg base 4 "heads_in_turn" (spTurn T) []) (gS : mg "sorted" = none) (gT : mg "set" = none) : C8.Cal P w K mg base 5 "rising_heads" (spRising T) [] := by
  refine cal_mk D scRising (fun vs H Q E h => ?_) (fun _ _ _ _ _ _ us hl => match us, hl with | [_, _], _ => rfl) (fun A outer s H vs Q E hr h => ?_)
  · obtain ⟨v, rs, m, rfl, _⟩ := h
    rfl
  · obtain ⟨v, rs, m, rfl, hd, hl, ht, k⟩ := h
    refine ⟨_, pss_one (ps_ret (pe_callB (cr_sortSS rfl) (by rfl) gS boot_sorted (pa_cons (pe_callTy (cr_setS rfl) (by rfl) gT boot_set (pa_cons (C8.pe_c C hr (by decide) rfl (pa_cons (pv 0) (pa_cons (pv 1) pa_nil))) pa_nil)) pa_nil))), ?_⟩
    have hlen := turnM_len rs m
    refine ⟨_, rfl, _, rfl, v, rs, m, rfl, hd, by omega, ht, fun p H1 hp k1 h1 => ⟨p, turnM rs m, rfl, SqL.of h1, by omega, fun q l hq nd hm hll => ⟨q, l, rfl, upd_same, by omega, fun u hu => ?_⟩⟩⟩
    have e : riseS l = headsM rs m := riseS_congr hm
    rw [e]
    have k2 : Kp N0 H1 (upd (upd H1 q (SetSO w q l)) u (.lst ((headsM rs m).map V.str))) := (Kp.new hq).trans (Kp.new hu)
    exact k u _ ((k1.trans (Kp.new hq)).fresh hu) (k1.trans k2) upd_same
end
end Fc
set_option maxHeartbeats 4000000
namespace Fc
open PySem PySem.Spec PyProof.Rows L2
section
variable {P : Program} {w : World} {K : PySem.W.Frag} {mg : Str → Option Value} {base : Heap}
theorem scNeedsOf : FnScope ["rule", "marks", "main", "head"] ["rule", "marks"] (defScope sNeedsOf) := ⟨rfl, rfl, rfl, by decide +kernel, rfl, by decide +kernel, by decide +kernel⟩
theorem ok_needsOf {T : List Addr} (D : DefAt K mg "needs_of_marks" sNeedsOf) (C1 : C8.Cal P w K mg base 5 "main_head" (spMain T) []) (C2 : C8.Cal P w K mg base 5 "rising_heads" (spRising T) []) : C8.Cal P w K mg base 6 "needs_of_marks" (spNeedsOf T) [] := by
  refine cal_mk D scNeedsOf (fun vs H Q E h => ?_) (fun _ _ _ _ _ _ us hl => match us, hl with | [_, _], _ => rfl) (fun A outer s H vs Q E hr h => ?_)
  · obtain ⟨v, rs, m, rfl, _⟩ := h
    rfl
  · obtain ⟨v, rs, m, rfl, hd, hl, ht, k⟩ := h
    refine ⟨_, pss_cons (ps_set (i := 2) scNeedsOf.nd rfl (Or.inr rfl) (C8.pe_c C1 hr (by decide) rfl (pa_cons (pv 0) (pa_cons (pv 1) pa_nil))))
      (pss_one (ps_ret (pe_lc (own := [("head", 3)]) (g := gName 3) rfl scNeedsOf.nd (pi_list (C8.pe_c C2 hr (by decide) rfl (pa_cons (pv 0) (pa_cons (pv 1) pa_nil)))) (blkOk_by (N := ["rule", "marks", "main", "head"]) (sc := defScope sNeedsOf) (by decide +kernel)) (fun _ _ _ _ _ => pg_name (i := 3) scNeedsOf.nd rfl (Or.inl rfl))
        (fun _ _ _ _ _ => pts_one (pt_cmpR op_ne (pv 3) (pv 2) (nomark _))) (fun _ _ _ _ _ => pe_tup (pa_cons (pv 3) (pa_cons (pv 2) pa_nil)))))), ?_⟩
    have sz : ∀ n : Nat, n ≤ 1000 → n ≤ sizeLine := fun n h => by rw [sizeLine_eq]; omega
    refine ⟨_, rfl, _, rfl, v, rs, m, rfl, hd, hl, ht, fun H1 k1 => ?_⟩
    have hl2 : (headsM rs m).length ≤ 51 := Nat.le_trans (riseS_len _) (Nat.le_trans (turnM_len rs m) (by omega))
    refine ⟨_, rfl, _, rfl, v, rs, m, rfl, hd.kp k1, hl, k1.tbs ht, fun p H2 hp k2 h2 => ⟨p, rfl, ⟨_, SqL.of h2⟩, fun C fC => lc_gen (walk_list (xs := (headsM rs m).map V.str)) (headsM rs m) (by rw [List.length_map]) (fun h => decide (h ≠ mainM rs m)) (fun h => paperD (h, mainM rs m)) N0 (fun _ z => z.elim) fC (by rw [List.length_map]; omega) (fun H' k' => SqL.of (k'.obj h2 ntl nn)) (fun i h x H7 H7' hp2 k7 y Kt kt => ?_) fun H7 out k7 aC hdn => ?_⟩⟩
    · obtain ⟨rfl, hx2⟩ := y
      rw [List.getElem?_map, hp2] at hx2
      have ex : V.str h = x := Option.some.inj hx2
      subst ex
      have ef : (!decide (V.str h = V.str (mainM rs m))) = decide (h ≠ mainM rs m) := by simp
      refine kt _ _ Kp.refl rfl (fun Q2 q2 => ⟨_, rfl, _, rfl, rfl, _, rfl, ?_⟩) fun _ H8 k8 S' _ hS' Q2 q2 => ?_
      · rw [ef]
        exact q2 _ Kp.refl
      · exact ⟨_, rfl, _, rfl, sz 2 (by decide), fun U fU => q2 _ _ (Kp.new fU) (.tup (fun z => hS' _ z fU) upd_same (DnA.strs [h, mainM rs m]))⟩
    · have e : (headsM rs m).filter (fun h => decide (h ≠ mainM rs m)) = (headsM rs m).filter fun h => decide (h ≠ mainM rs m) := rfl
      refine k C H7 (k1.fresh (k2.fresh fC)) (k1.trans (k2.trans k7)) (.lst nn aC ?_)
      unfold needsM
      rw [List.map_map]
      exact hdn.weak fun _ z => z.elim
end
end Fc
set_option maxHeartbeats 4000000
namespace Fc
open PySem PySem.Spec PyProof.Rows L2
section
variable {P : Program} {w : World} {K : PySem.W.Frag} {mg : Str → Option Value} {base : Heap}
theorem scNeeded : FnScope ["rule", "papers", "name", "marks", "need"] ["rule", "papers"] (defScope sNeeded) := ⟨rfl, rfl, rfl, by decide +kernel, rfl, by decide +kernel, by decide +kernel⟩
theorem ok_needed {T : List Addr} (D : DefAt K mg "needed" sNeeded) (C1 : C8.Cal P w K mg base 5 "check_rule" (spCheckRule T) []) (C2 : C8.Cal P w K mg base 4 "check_papers" (spCheckPapers T) []) (C3 : C8.Cal P w K mg base 6 "needs_of_marks" (spNeedsOf T) []) (gT : mg "set" = none) (gS : mg "sorted" = none) : C8.Cal P w K mg base 7 "needed" (spNeeded T) [] := by
  refine cal_mk D scNeeded (fun vs H Q E h => ?_) (fun _ _ _ _ _ _ us hl => match us, hl with | [_, _], _ => rfl) (fun A outer s H vs Q E hr h => ?_)
  · obtain ⟨v, u, rs, ps, rfl, _⟩ := h
    rfl
  · obtain ⟨v, u, rs, ps, rfl, hd, hp, hg, hgp, ht, k⟩ := h
    refine ⟨_, pss_cons (ps_expr (C8.pe_c C1 hr (by decide) rfl (pa_cons (pv 0) pa_nil)))
      (pss_cons (ps_expr (C8.pe_c C2 hr (by decide) rfl (pa_cons (pv 1) pa_nil)))
      (pss_one (ps_ret (pe_callB (cr_sortPS rfl) (by rfl) gS boot_sorted (pa_cons (pe_callTy (cr_setPPK (K := K) rfl rfl (hu64 hr)) (by rfl) gT boot_set (pa_cons (pe_lc2 (vs1 := [4]) (own := [("name", 2), ("marks", 3), ("need", 4)]) (g := gTup K 2 (gCons (gName 2) (gCons (gName 3) gNil))) (g1 := gName 4) (tt := tYes) (tt1 := tYes) rfl scNeeded.nd (pi_list (pv 1)) (blkOk_by (N := ["rule", "papers", "name", "marks", "need"]) (sc := defScope sNeeded) (by decide +kernel)) (by decide)
        (fun _ _ _ _ _ => pg_tupK (K := K) rfl rfl (pgs_cons (pg_name (i := 2) scNeeded.nd rfl (Or.inl rfl)) (pgs_cons (pg_name (i := 3) scNeeded.nd rfl (Or.inl rfl)) pgs_nil))) (fun _ _ _ _ _ => pts_nil) (fun _ _ _ _ _ => pi_listK (K := K) (C8.pe_c C3 hr (by decide) rfl (pa_cons (pv 0) (pa_cons (pv 3) pa_nil))))
        (fun _ _ _ _ _ => pg_name (i := 4) scNeeded.nd rfl (Or.inl rfl)) (fun _ _ _ _ _ => pts_nil) (fun _ _ _ _ _ => pv 4)) pa_nil)) pa_nil))))), ?_⟩
    have few := hg.few
    have fewp := hgp.few
    refine ⟨_, rfl, v, rs, rfl, hd, hg, ht, fun H1 k1 => ?_⟩
    refine ⟨_, rfl, u, ps, rfl, hp.kp k1, hgp, k1.tbs ht, fun H2 k2 => ?_⟩
    have k12 := k1.trans k2
    have hd2 := hd.kp k12
    have t2 := k12.tbs ht
    obtain ⟨a, xs, rfl, _, ha, hx⟩ := (hp.kp k12).lst_ex
    have hlen : xs.length = ps.length := by rw [hx.len, List.length_map]
    refine ⟨_, rfl, a, rfl, ⟨_, SqL.of ha⟩, fun C fC => ?_⟩
    refine lc2_it (walk_list (xs := xs)) (Pv := fun i H' => Kp N0 H2 H' ∧ ∃ zs, H' C = some (.lst zs) ∧ zs.length ≤ 13 * i ∧ DnA (fun x => x = C) H' zs (((ps.take i).flatMap fun p => needsM rs p.2).map paperD))
      ⟨Kp.new fC, [], upd_same, Nat.zero_le _, .nil⟩ (fun i H' _ p => SqL.of (p.1.obj ha ntl nn)) (fun i x H' H'' hi p y => ?_) fun H' p => ?_
    · obtain ⟨k3, zs0, aC, lz, dz⟩ := p
      obtain ⟨rfl, hx2⟩ := y
      rw [hlen] at hi
      have ep : ps[i]? = some ps[i] := List.getElem?_eq_getElem hi
      have tk : ps.take (i + 1) = ps.take i ++ [ps[i]] := by rw [List.take_append_getElem]
      generalize ps[i] = q at ep tk
      obtain ⟨t, rfl, _, at0⟩ := paperD_ex ((hx.map_at hx2 ep).kp k3)
      refine ⟨t, _, rfl, SqT.of at0, rfl, _, _, rfl, _, _, rfl, rfl, rfl, ?_⟩
      refine ⟨_, rfl, _, rfl, v, rs, q.2, rfl, hd2.kp k3, by omega, k3.tbs t2, fun b H3 hb k4 dn => ?_⟩
      obtain ⟨_, ys, e, _, ab, hy⟩ := dn.lst_ex
      cases e
      have bC : b ≠ C := fun e => by rw [e, aC] at hb; cases hb
      have ly : ys.length = (needsM rs q.2).length := by rw [hy.len, List.length_map]
      have ln := needs_len rs q.2
      refine ⟨b, rfl, ⟨_, SqL.of ab⟩, lc2_in (walk_list (xs := ys)) (Pv := fun j H' => Kp N0 H2 H' ∧ Kp (fun x => x = C) H3 H' ∧ ∃ zs, H' C = some (.lst zs) ∧ zs.length ≤ 13 * i + j ∧ DnA (fun x => x = C) H' zs (((ps.take i).flatMap (fun p => needsM rs p.2) ++ (needsM rs q.2).take j).map paperD))
        ⟨k3.trans k4, Kp.refl, zs0, k4.obj aC ntl nn, lz, by rw [List.take_zero, List.append_nil]; exact dz.kp k4.up⟩ (fun j H' _ p => SqL.of (p.2.1.obj ab ntl bC)) (fun j x H5 H5' hj p y => ?_) fun H5 p => ?_⟩
      · obtain ⟨k5, k6, zs, aC5, lz, dz⟩ := p
        obtain ⟨rfl, hx3⟩ := y
        rw [ly] at hj
        have en : (needsM rs q.2)[j]? = some (needsM rs q.2)[j] := List.getElem?_eq_getElem hj
        have tkj : (needsM rs q.2).take (j + 1) = (needsM rs q.2).take j ++ [(needsM rs q.2)[j]] := by rw [List.take_append_getElem]
        generalize (needsM rs q.2)[j] = n at en tkj
        have dx : Dn (fun x => x = C) H5' x (paperD n) := (pair_off (fun a e => ⟨zs0, by rw [e]; exact k4.obj aC ntl nn⟩) (hy.map_at hx3 en)).kp k6
        have kC : Kp (fun x => x = C) H5' (upd H5' C (.lst (zs ++ [x]))) := Kp.mutS rfl aC5 ntl ntl
        refine ⟨rfl, _, rfl, zs, aC5, by rw [sizeLine_eq]; omega, k5.mut fC, k6.trans kC, zs ++ [x], upd_same, by rw [List.length_append]; show _ + 1 ≤ _; omega, ?_⟩
        rw [tkj, ← List.append_assoc, List.map_append]
        exact (dz.kp kC).app (.one (dx.kp kC))
      · obtain ⟨k5, _, zs, aC5, lz, dz⟩ := p
        rw [ly, List.take_length] at dz
        rw [ly] at lz
        refine ⟨k5, zs, aC5, by omega, ?_⟩
        rw [tk, List.flatMap_append]
        show DnA _ _ _ ((_ ++ (needsM rs q.2 ++ [])).map _)
        rw [List.append_nil]
        exact dz
    · obtain ⟨k3, zs, aC, lz, dz⟩ := p
      rw [hlen, List.take_length] at dz
      obtain ⟨Ds, d1, d2⟩ := pairs_few hg
      have sub : ∀ p ∈ ps.flatMap (fun p => needsM rs p.2), p ∈ Ds := fun p hp => by
        obtain ⟨q, _, hq⟩ := List.mem_flatMap.mp hp
        obtain ⟨_, _, _, h4, h5⟩ := needs_from hq
        exact d2 p h4 h5
      refine ⟨_, C, zs, _, rfl, SqL.of aC, dz, ⟨Ds, d1, sub⟩, fun a2 L ha2 hL hall nd => ?_⟩
      refine ⟨N0, a2, L, rfl, upd_same, fun q hq => ⟨nn, (by rw [upd_ne (fun e => by have z := (hL q hq).2.2; rw [e, ha2] at z; cases z)]; exact (hL q hq).2.2)⟩, nd, fun ys p dn hp => ?_⟩
      have er : riseP (L.map (·.2)) = neededM rs ps := riseP_congr fun x => ⟨fun z => by
        obtain ⟨q, hq, e⟩ := List.mem_map.mp z
        rw [← e]
        exact (hL q hq).2.1, fun z => hall x z⟩
      rw [er] at dn
      have kk : Kp N0 H (upd (upd H' a2 (SetPO P w a2 L)) p (.lst ys)) := ((k12.trans k3).trans (Kp.new ha2)).trans (Kp.new hp)
      refine k p _ kk ⟨((k12.trans k3).trans (Kp.new ha2)).fresh hp, ys, upd_same, ?_⟩
      exact (DnA.offs (fun a e => by rw [e]; exact hp) dn).kp (Kp.new hp)
end
end Fc
set_option maxHeartbeats 4000000
namespace Fc
open PySem PySem.Spec PyProof.Rows L2
section
variable {P : Program} {w : World} {K : PySem.W.Frag} {mg : Str → Option Value} {base : Heap}
theorem scRuleHeads : FnScope ["rule", "row"] ["rule"] (defScope sRuleHeads) := ⟨rfl, rfl, rfl, by decide +kernel, rfl, by decide +kernel, by decide +kernel⟩
theorem ok_ruleHeads (D : DefAt K mg "rule_heads" sRuleHeads) (gS : mg "sorted" = none) (gT : mg "set" = none) (gR : ∃ t, mg "REST" = some (.str "rest" t)) : C8.Cal P w K mg base 1 "rule_heads" spRuleHeads [] := by
  refine cal_mk D scRuleHeads (fun vs H Q E h => ?_) (fun _ _ _ _ _ _ us hl => match us, hl with | [_], _ => rfl) (fun A outer s H vs Q E hr h => ?_)
  · obtain ⟨v, rs, rfl, _⟩ := h
    rfl
  · obtain ⟨v, rs, rfl, hd, hl, k⟩ := h
    obtain ⟨a, xs, rfl, _, ha, hx⟩ := hd.lst_ex
    have hlen : rs.length = xs.length := by rw [hx.len, List.length_map]
    refine ⟨_, pss_one (ps_ret (pe_callB (cr_sortSS rfl) (by rfl) gS boot_sorted (pa_cons (pe_callTy (cr_setS rfl) (by rfl) gT boot_set (pa_cons (pe_op op_cat
      (pe_lc (own := [("row", 1)]) (g := gName 1) (tt := tYes) rfl scRuleHeads.nd (pi_list (pv 0)) (blkOk_by (N := ["rule", "row"]) (sc := defScope sRuleHeads) (by decide +kernel)) (fun _ _ _ _ _ => pg_name (i := 1) scRuleHeads.nd rfl (Or.inl rfl))
        (fun _ _ _ _ _ => pts_nil) (fun _ _ _ _ _ => pe_ix (ix_tupK (K := K)) (pv 1) pe_int (fun _ _ => rfl)))
      (pe_lst (pa_cons (pe_gs gR) pa_nil))) pa_nil)) pa_nil))), ?_⟩
    refine ⟨_, rfl, a, rfl, ⟨_, SqL.of ha⟩, fun D hD => lc_lst (xs := xs) rs (fun _ => true) (fun r => PyData.str r.1) N0 ha hlen (fun _ z => z.elim) hD (by omega) (fun _ => rfl) (fun i r x H2 hr2 hx2 k2 Q2 q2 => q2 H2 Kp.refl) (fun i r x H2 hr2 hx2 _ k2 S' _ _ Q2 q2 => ?_) fun H' out k2 hout hdn => ?_⟩
    · obtain ⟨b, rfl, _, hb⟩ := rowD_ex ((hx.map_at hx2 hr2).kp k2)
      exact ⟨_, rfl, b, _, 0, _, rfl, rfl, SqT.of hb, rfl, q2 _ _ Kp.refl (.str _)⟩
    · rw [List.filter_eq_self.mpr fun _ _ => rfl] at hdn
      have eo : out = (rs.map (·.1)).map V.str := DnA.strs_eq (xs := rs.map (·.1)) (by rw [List.map_map]; exact hdn)
      subst eo
      refine ⟨Nat.le_of_lt (by rw [sizeLine_eq]; exact (by decide : 1 < 16777216)), fun p1 f1 => ?_⟩
      have k3 : Kp N0 H' (upd H' p1 (.lst [.str "rest"])) := Kp.new f1
      refine ⟨D, p1, _, _, rfl, rfl, k3.obj hout ntl nn, upd_same, by rw [List.length_map, List.length_map, sizeLine_eq]; show _ + 1 ≤ _; omega, fun p2 f2 => ?_⟩
      have k4 : Kp N0 H' (upd (upd H' p1 (.lst [.str "rest"])) p2 (.lst ((rs.map (·.1)).map V.str ++ [.str "rest"]))) := k3.trans (Kp.new f2)
      have a4 : (upd (upd H' p1 (.lst [.str "rest"])) p2 (.lst ((rs.map (·.1)).map V.str ++ [.str "rest"]))) p2 = some (.lst ((rs.map (·.1) ++ (["rest"] : List Str)).map V.str)) := by
        rw [upd_same, List.map_append]
        rfl
      generalize upd (upd H' p1 (.lst [.str "rest"])) p2 (.lst ((rs.map (·.1)).map V.str ++ [.str "rest"])) = H4 at k4 a4 ⊢
      have k04 := k2.trans k4
      refine ⟨p2, rs.map (·.1) ++ (["rest"] : List Str), rfl, SqL.of a4, by rw [List.length_append, List.length_map]; show _ + 1 < _; omega, fun q l hq nd hm hll => ⟨q, l, rfl, upd_same, ?_, fun u hu => ?_⟩⟩
      · rw [List.length_append, List.length_map] at hll
        have : ([("rest" : Str)] : List Str).length = 1 := rfl
        omega
      have e : riseS l = ruleHeadsM rs := riseS_congr hm
      rw [e]
      have k5 : Kp N0 H4 (upd (upd H4 q (SetSO w q l)) u (.lst ((ruleHeadsM rs).map V.str))) := (Kp.new hq).trans (Kp.new hu)
      exact k u _ ((k04.trans (Kp.new hq)).fresh hu) (k04.trans k5) upd_same
end
end Fc
set_option maxHeartbeats 4000000
namespace Fc
open PySem PySem.Spec PyProof.Rows L2
section
variable {P : Program} {w : World} {K : PySem.W.Frag} {mg : Str → Option Value} {base : Heap}
theorem scCheckHead : FnScope ["rule", "head"] ["rule", "head"] (defScope sCheckHead) := ⟨rfl, rfl, rfl, by decide +kernel, rfl, by decide +kernel, by decide +kernel⟩
theorem ok_checkHead (D : DefAt K mg "check_head" sCheckHead) (C : C8.Cal P w K mg base 1 "rule_heads" spRuleHeads []) : C8.Cal P w K mg base 2 "check_head" spCheckHead [] := by
  refine cal_mk D scCheckHead (fun vs H Q E h => ?_) (fun _ _ _ _ _ _ us hl => match us, hl with | [_, _], _ => rfl) (fun A outer s H vs Q E hr h => ?_)
  · obtain ⟨v, rs, hh, rfl, _⟩ := h
    rfl
  · obtain ⟨v, rs, hh, rfl, hd, hl, hm, k⟩ := h
    refine ⟨_, pss_one (ps_if (pt_cmpR (op_notInK (K := K)) (pv 1) (C8.pe_c C hr (by decide) rfl (pa_cons (pv 0) pa_nil)) rfl) pss_never pss_nil), ?_⟩
    refine ⟨_, rfl, _, rfl, v, rs, rfl, hd, hl, fun p H1 hp k1 h1 => ⟨p, _, rfl, .inl (SqL.of h1), rfl, flat_strs _, _, rfl, ?_⟩⟩
    rw [inV_str, decide_eq_true hm]
    exact iteF (k H1 k1)
end
end Fc
set_option maxHeartbeats 4000000
namespace Fc
open PySem PySem.Spec PyProof.Rows L2
section
variable {P : Program} {w : World} {K : PySem.W.Frag} {mg : Str → Option Value} {base : Heap}
theorem scCome : FnScope ["cards", "head", "reached", "waiting", "here", "start", "goal"] ["cards", "head"] (defScope sCome) := ⟨rfl, rfl, rfl, by decide +kernel, rfl, by decide +kernel, by decide +kernel⟩
theorem ok_come (D : DefAt K mg "come_to" sCome) (gS : mg "sorted" = none) : C8.Cal P w K mg base 1 "come_to" spCome [] := by
  have hcd := kds_def D
  refine cal_mk D scCome (fun vs H Q E h => ?_) (fun _ _ _ _ _ _ us hl => match us, hl with | [_, _], _ => rfl) (fun A outer s H vs Q E hr h => ?_)
  · obtain ⟨v, cs, hh, rfl, _⟩ := h
    rfl
  · obtain ⟨v, cs, hh, rfl, hd, hl, k⟩ := h
    obtain ⟨a, xs, rfl, _, ha, hx⟩ := hd.lst_ex
    have hlen : xs.length = cs.length := by rw [hx.len, List.length_map]
    refine ⟨_, pss_cons (ps_set (i := 2) scCome.nd rfl (Or.inl rfl) (pe_set1w (w := w) (K := K) (pv 1) hcd))
      (pss_cons (ps_set (i := 3) scCome.nd rfl (Or.inl rfl) (pe_lst (pa_cons (pv 1) pa_nil)))
      (pss_cons (ps_while PassesOwn.never (pt_truthK (K := K) (pv 3) (by intro _; rfl))
        (pss_cons (ps_set (i := 4) scCome.nd rfl (Or.inl rfl) (pe_bm0 PySem.F.plainAttrs_list PySem.F.slot_list_pop PySem.F.type_list_pop mt_pop (pv 3)))
        (pss_one (ps_for PassesOwn.never rfl (pi_list (pv 0)) (pg_tup rfl (pgs_cons (pg_name (i := 5) scCome.nd rfl (Or.inl rfl)) (pgs_cons (pg_name (i := 6) scCome.nd rfl (Or.inl rfl)) pgs_nil)))
          (pss_one (ps_if (PW.pt (pw_and (pt_cmpR op_eq (pv 5) (pv 4) (nomark _)) (pw_and1 (pt_cmpR op_notInSS (pv 6) (pv 2) rfl))))
            (pss_cons (ps_expr (pe_saddS (pv 2) (pa_cons (pv 6) pa_nil)))
            (pss_one (ps_expr (pe_bm PySem.F.plainAttrs_list PySem.F.slot_list_append PySem.F.type_list_append mt_append (pv 3) (pa_cons (pv 6) pa_nil))))) pss_nil))))))
      (pss_one (ps_ret (pe_callB (cr_sortSA rfl) (by rfl) gS boot_sorted (pa_cons (pv 2) pa_nil)))))), ?_⟩
    have sz : ∀ n : Nat, n ≤ 1000 → n ≤ sizeLine := fun n h => by rw [sizeLine_eq]; omega
    refine fun R fR => ⟨_, rfl, _, rfl, upd_same, ?_⟩
    have k1 : Kp N0 H (upd (upd H R (SetSO w R [])) R (SetSO w R [hh])) := (Kp.new fR).mut fR
    have aR : (upd (upd H R (SetSO w R [])) R (SetSO w R [hh])) R = some (SetSO w R [hh]) := upd_same
    generalize upd (upd H R (SetSO w R [])) R (SetSO w R [hh]) = H1 at k1 aR ⊢
    refine ⟨_, rfl, sz 1 (by decide), fun W fW => ?_⟩
    have WR : W ≠ R := fun e => by rw [e, aR] at fW; cases fW
    have fW0 : H W = none := k1.fresh fW
    have k2 : Kp N0 H (upd H1 W (.lst [.str hh])) := k1.trans (Kp.new fW)
    have aR2 : (upd H1 W (.lst [.str hh])) R = some (SetSO w R [hh]) := by rw [upd_ne WR.symm]; exact aR
    have aW2 : (upd H1 W (.lst [.str hh])) W = some (.lst [.str hh]) := upd_same
    generalize upd H1 W (.lst [.str hh]) = H2 at k2 aR2 aW2 ⊢
    clear k1 aR fW
    refine while_rel (c := tTruth K (tVar 3)) (fun m σ' H' => ∃ (rs ws : List Str) (o4 o5 o6 : Option V), m = 2 * (cs.length + 1 - rs.length) + ws.length ∧ m ≤ 2000 ∧ σ' = [some (.ref a), some (.str hh), some (.ref R), some (.ref W), o4, o5, o6] ∧ Kp N0 H H' ∧ H' R = some (SetSO w R rs) ∧ H' W = some (.lst (ws.map V.str)) ∧ Way cs hh rs ws none)
      _ ⟨[hh], [hh], none, none, none, rfl, by simp only [List.length_singleton]; omega, rfl, k2, aR2, aW2, Way.begin cs hh⟩ ?_ (tTruth_mono tVar_mono)
    rintro m σ' H' ⟨rs, ws, o4, o5, o6, rfl, hm0, rfl, k3, aR3, aW3, z⟩
    refine ⟨_, rfl, !(ws.map V.str).isEmpty, .inl ⟨_, SqL.of aW3, rfl⟩, ?_⟩
    rcases List.eq_nil_or_concat ws with rfl | ⟨W0, y, rfl⟩
    · have lr := z.len
      refine iteF ⟨_, rfl, R, rs, rfl, aR3, by omega, fun p fp => ?_⟩
      have er : riseS rs = comeM cs hh := comeM_of z.all
      rw [er]
      exact k p _ (k3.fresh fp) (k3.trans (Kp.new fp)) upd_same
    · rw [show (!(List.map V.str (W0.concat y)).isEmpty) = true from by simp]
      rw [List.concat_eq_append] at aW3 z hm0 ⊢
      have lw : (List.map V.str (W0 ++ [y]))[(List.map V.str (W0 ++ [y])).length - 1]? = some (V.str y) := by simp
      have dl : (List.map V.str (W0 ++ [y])).dropLast = W0.map V.str := by simp
      refine iteT ⟨_, rfl, .inl ⟨rfl, _, SqL.of aW3⟩, W, _, _, rfl, rfl, aW3, lw, ?_⟩
      rw [dl]
      have k4 : Kp (fun x => x = W) H' (upd H' W (.lst (W0.map V.str))) := Kp.mutS rfl aW3 ntl ntl
      have k4' : Kp N0 H (upd H' W (.lst (W0.map V.str))) := k3.mut fW0
      have aR4 : (upd H' W (.lst (W0.map V.str))) R = some (SetSO w R rs) := by rw [upd_ne WR.symm]; exact aR3
      have aW4 : (upd H' W (.lst (W0.map V.str))) W = some (.lst (W0.map V.str)) := upd_same
      generalize upd H' W (.lst (W0.map V.str)) = H4 at k4' aR4 aW4 ⊢
      have yR : y ∈ rs := z.wait y (List.mem_append_right _ (List.mem_singleton.mpr rfl))
      refine ⟨_, rfl, a, rfl, ⟨_, SqL.of (k4'.obj ha ntl nn)⟩, for_list (K := K) (a := a) (xs := xs) (fun i σ' H' => ∃ (rs1 ws1 : List Str) (o5 o6 : Option V), 2 * (cs.length + 1 - rs1.length) + ws1.length ≤ 2 * (cs.length + 1 - rs.length) + W0.length ∧ σ' = [some (.ref a), some (.str hh), some (.ref R), some (.ref W), some (.str y), o5, o6] ∧ Kp N0 H H' ∧ H' R = some (SetSO w R rs1) ∧ H' W = some (.lst (ws1.map V.str)) ∧ y ∈ rs1 ∧ Way cs hh rs1 ws1 (some (y, i)))
        ⟨rs, W0, _, _, Nat.le_refl _, rfl, k4', aR4, aW4, yR, z.take⟩ (fun i σ' H' _ ⟨_, _, _, _, _, _, k', _⟩ => SqL.of (k'.obj ha ntl nn)) (fun i x σ' H' hx2 ⟨rs1, ws1, o5, o6, hm, es, k', aR', aW', yR', z'⟩ => ?_) fun σ' H' ⟨rs1, ws1, o5, o6, hm, es, k', aR', aW', yR', z'⟩ => ?_⟩
      · subst es
        have il : i < cs.length := by
          have q := (List.getElem?_eq_some_iff.mp hx2).1
          omega
        have ec : cs[i]? = some cs[i] := List.getElem?_eq_getElem il
        generalize cs[i] = c at ec
        obtain ⟨t, rfl, _, at0⟩ := paperD_ex ((hx.map_at hx2 ec).kp k')
        obtain ⟨c1, c2⟩ := c
        have lr := z'.len
        refine ⟨t, _, rfl, SqT.of at0, rfl, _, _, rfl, _, _, rfl, rfl, ?_⟩
        refine ⟨_, rfl, _, rfl, rfl, _, rfl, ite2 (fun e => ?_) fun e => ?_⟩
        · have e1 : c1 = y := by simpa using e
          refine ⟨_, rfl, _, rfl, c2, R, rs1, rfl, rfl, aR', _, rfl, ite2 (fun e2 => ?_) fun e2 => ?_⟩
          · have new : c2 ∉ rs1 := by simpa using e2
            refine ⟨_, rfl, ⟨R, rs1, rfl, aR'⟩, _, rfl, R, c2, rs1, rfl, rfl, aR', by omega, ?_⟩
            rw [if_neg new]
            have k5 : Kp N0 H (upd H' R (SetSO w R (c2 :: rs1))) := k'.mut fR
            have aR5 : (upd H' R (SetSO w R (c2 :: rs1))) R = some (SetSO w R (c2 :: rs1)) := upd_same
            have aW5 : (upd H' R (SetSO w R (c2 :: rs1))) W = some (.lst (ws1.map V.str)) := by rw [upd_ne WR]; exact aW'
            have lw : ws1.length ≤ 3000 := by
              rw [List.length_append, List.length_singleton] at hm0
              omega
            refine ⟨_, rfl, .inl ⟨rfl, _, SqL.of aW5⟩, _, rfl, W, _, _, rfl, rfl, aW5, ?_, c2 :: rs1, ws1 ++ [c2], _, _, ?_, rfl, k5.mut fW0, by rw [upd_ne WR.symm]; exact aR5, by rw [List.map_append]; exact upd_same, List.mem_cons_of_mem _ yR', z'.add yR' ec e1 new⟩
            · rw [List.length_map, sizeLine_eq]
              omega
            · have z2 := (z'.add yR' ec e1 new).len
              rw [List.length_append, List.length_cons, List.length_singleton]
              rw [List.length_cons] at z2
              omega
          · have old : c2 ∈ rs1 := by simpa using e2
            exact ⟨rs1, ws1, _, _, hm, rfl, k', aR', aW', yR', z'.skip ec fun _ => old⟩
        · have e1 : ¬ c1 = y := by simpa using e
          exact ⟨rs1, ws1, _, _, hm, rfl, k', aR', aW', yR', z'.skip ec fun q => (e1 q).elim⟩
      · rw [hlen] at z'
        exact ⟨_, by rw [List.length_append, List.length_singleton]; omega, rs1, ws1, _, _, _, rfl, by rw [List.length_append, List.length_singleton] at hm0; omega, es, k', aR', aW', z'.end_⟩
end
end Fc
set_option maxHeartbeats 4000000
/-! any, all of a generator expression with any target and a test or none. -/
namespace Fc
open PySem PySem.Spec PyProof.Rows L2
/-- how many pass ahead of i -/
def cntP (p : Nat → Bool) (i : Nat) : Nat := ((List.range i).filter p).length
def idxP (p : Nat → Bool) (n : Nat) : List Nat := (List.range n).filter p
theorem cntP_succ (p : Nat → Bool) (i : Nat) : cntP p (i + 1) = if p i = true then cntP p i + 1 else cntP p i := by
  unfold cntP
  rw [List.range_succ, List.filter_append, List.length_append]
  cases h : p i <;> simp [h]
theorem idxP_split (p : Nat → Bool) {i n : Nat} (h : i ≤ n) : ∃ r, idxP p n = idxP p i ++ r := by
  induction n with
  | zero =>
    have e : i = 0 := by omega
    subst e
    exact ⟨[], by simp [idxP]⟩
  | succ n ih =>
    rcases Nat.lt_or_ge n i with c | c
    · have e : i = n + 1 := by omega
      subst e
      exact ⟨[], by simp⟩
    · obtain ⟨r, e⟩ := ih c
      refine ⟨r ++ [n].filter p, ?_⟩
      have z : idxP p (n + 1) = idxP p n ++ [n].filter p := by
        unfold idxP
        rw [List.range_succ, List.filter_append]
      rw [z, e, List.append_assoc]
theorem idxP_at (p : Nat → Bool) {i n : Nat} (h : i < n) (hp : p i = true) : (idxP p n).getD (cntP p i) 0 = i := by
  obtain ⟨r, e⟩ := idxP_split p (show i + 1 ≤ n from h)
  have z : idxP p (i + 1) = idxP p i ++ [i] := by
    unfold idxP
    rw [List.range_succ, List.filter_append]
    simp [hp]
  rw [e, z]
  have l : (idxP p i).length = cntP p i := rfl
  simp [List.getD_eq_getElem?_getD, ← l]
theorem cntP_le (p : Nat → Bool) {i n : Nat} (h : i ≤ n) : cntP p i ≤ cntP p n := by
  obtain ⟨r, e⟩ := idxP_split p h
  have z := congrArg List.length e
  rw [List.length_append] at z
  show (idxP p i).length ≤ (idxP p n).length
  omega
theorem range_getD {β : Type} (l : List Nat) (f : Nat → β) : (List.range l.length).map (fun j => f (l.getD j 0)) = l.map f := by
  refine List.ext_getElem (by simp) fun i h1 h2 => ?_
  simp at h1
  simp [List.getD_eq_getElem?_getD, h1]
theorem pass_all (p f : Nat → Bool) (n : Nat) : ((List.range (cntP p n)).all fun j => f ((idxP p n).getD j 0)) = (idxP p n).all f := by
  have z := range_getD (idxP p n) f
  have e : ((List.range (cntP p n)).all fun j => f ((idxP p n).getD j 0)) = ((List.range (idxP p n).length).map fun j => f ((idxP p n).getD j 0)).all id := by
    rw [List.all_map]
    rfl
  rw [e, z, List.all_map]
  rfl
theorem pass_any (p f : Nat → Bool) (n : Nat) : ((List.range (cntP p n)).any fun j => f ((idxP p n).getD j 0)) = (idxP p n).any f := by
  have z := range_getD (idxP p n) f
  have e : ((List.range (cntP p n)).any fun j => f ((idxP p n).getD j 0)) = ((List.range (idxP p n).length).map fun j => f ((idxP p n).getD j 0)).any id := by
    rw [List.any_map]
    rfl
  rw [e, z, List.any_map]
  rfl
def tstOk (ifs : List Expr) (cenv : Env) : Sem Bool := match ifs with
  | [] => pure true
  | c :: _ => isTrue c cenv (eval c cenv)
/-- states at what is yielded -/
def atY (p : Nat → Bool) (n0 : Nat) (Z : Nat → Shared → Prop) : Nat → Shared → Prop
  | 0 => Z 0
  | j + 1 => Z ((idxP p n0).getD j 0 + 1)
abbrev atF (p : Nat → Bool) (n0 : Nat) (f : Nat → Bool) : Nat → Bool := fun j => f ((idxP p n0).getD j 0)
section
variable {prog : Program} {w : World}
structure LoudF (prog : Program) (w : World) (A' : Around) (cenv : Env) (tg : Expr) (ifs : List Expr) (elt : Expr) (I : Addr) (p f : Nat → Bool) (n0 : Nat) (Z : Nat → Shared → Prop) (Ze : Shared → Prop) : Prop where
  turn : ∀ (i : Nat) (s : Shared), i < n0 → Z i s → wpAny (model prog w) A' (pyNext (.ref I)) (fun r s1 => ∃ v, r = some v ∧ wpAny (model prog w) A' (letOwnedTupleGo tg (.ref I) v) (fun _ s2 => wpAny (model prog w) A' (assign tg cenv v) (fun _ s3 =>
    wpAny (model prog w) A' (tstOk ifs cenv) (fun b s4 => b = p i ∧ if b = true then wpAny (model prog w) A' (eval elt cenv) (fun y s5 => y = .bool (f i) ∧ Z (i + 1) s5) (fun _ _ => False) s4 else Z (i + 1) s4) (fun _ _ => False) s3) (fun _ _ => False) s2) (fun _ _ => False) s1) (fun _ _ => False) s
  done : ∀ (s : Shared), Z n0 s → wpAny (model prog w) A' (pyNext (.ref I)) (fun r s1 => r = none ∧ Ze s1) (fun _ _ => False) s
variable {A : Around} {elt iter tg : Expr} {ifs : List Expr} {scope : Scope} {pos : Pos} {I : Addr} {n0 : Nat} {cenv : Env} {p f : Nat → Bool} {Z : Nat → Shared → Prop} {Ze : Shared → Prop}
abbrev fLoop (elt iter tg : Expr) (ifs : List Expr) (scope : Scope) (pos : Pos) (I : Addr) (cenv : Env) : Code := .compLoop (.GeneratorExp elt [⟨tg, iter, ifs, 0⟩] scope pos) 0 (.ref I) .none cenv
abbrev fStart (elt iter tg : Expr) (ifs : List Expr) (scope : Scope) (pos : Pos) (I : Addr) (cenv : Env) : Code := .compStart (.GeneratorExp elt [⟨tg, iter, ifs, 0⟩] scope pos) 0 (.ref I) .none cenv
theorem seg_loudF (hif : ifs.length ≤ 1) (hco : cenv.scope.isCoroutine = false) (L : LoudF prog w (A.over (fLoop elt iter tg ifs scope pos I cenv) []) cenv tg ifs elt I p f n0 Z Ze) :
    ∀ (k i : Nat) (s0 s : Shared), n0 - i = k → i ≤ n0 → Z i s → Seg (model prog w) A (LR Ze) (LY (atY p n0 Z) (atF p n0 f) (cntP p n0)) (cntP p n0 - cntP p i) s0 (fLoop elt iter tg ifs scope pos I cenv) ((model prog w).den (fLoop elt iter tg ifs scope pos I cenv)) [] s := by
  intro k
  induction k with
  | zero =>
    intro i s0 s hk hi hz
    have e : i = n0 := by omega
    subst e
    rw [Nat.sub_self]
    show Seg _ A _ _ _ s0 _ ((compTurn (.GeneratorExp elt [⟨tg, iter, ifs, 0⟩] scope pos) 0 (.ref I) .none cenv).onRaise (leaving cenv)) [] s
    rw [compTurn_gen, Sem.onRaise_eq_wrap]
    refine seg_bind_wrap (wpAny_standAt (seg_bind_wrap (wpAny_mono (L.done s hz) (fun r s1 h1 => ?_) fun _ _ e => e.elim)))
    obtain ⟨rfl, z1⟩ := h1
    exact seg_end (.ok .next) ⟨rfl, rfl, z1⟩
  | succ k ih =>
    intro i s0 s hk hi hz
    have hlt : i < n0 := by omega
    show Seg _ A _ _ _ s0 _ ((compTurn (.GeneratorExp elt [⟨tg, iter, ifs, 0⟩] scope pos) 0 (.ref I) .none cenv).onRaise (leaving cenv)) [] s
    rw [compTurn_gen, Sem.onRaise_eq_wrap]
    refine seg_bind_wrap (wpAny_standAt (seg_bind_wrap (wpAny_mono (L.turn i s hlt hz) (fun r s1 h1 => ?_) fun _ _ e => e.elim)))
    obtain ⟨v, rfl, h1⟩ := h1
    refine seg_bind_wrap (wpAny_mono h1 (fun _ s1b h1b => ?_) fun _ _ e => e.elim)
    refine seg_bind_wrap (wpAny_mono h1b (fun _ s2 h2 => ?_) fun _ _ e => e.elim)
    have le1 := cntP_le p (show i + 1 ≤ n0 from hlt)
    have cs := cntP_succ p i
    refine seg_bind_wrap (m := forIn ifs true _) ?_
    have tst : ∀ (Q : Bool → Shared → Prop), wpAny (model prog w) (A.over (fLoop elt iter tg ifs scope pos I cenv) []) (tstOk ifs cenv) Q (fun _ _ => False) s2 → ∀ (E : Value → Shared → Prop), wpAny (model prog w) (A.over (fLoop elt iter tg ifs scope pos I cenv) []) (forIn ifs true fun c r => (if r = true then do let ok ← isTrue c cenv (eval c cenv); pure (ForInStep.yield ok) else pure (ForInStep.yield r) : Sem (ForInStep Bool))) Q E s2 := by
      intro Q h E
      match ifs, hif with
      | [], _ =>
        rw [List.forIn_nil]
        exact wpAny_mono h (fun _ _ z => z) fun _ _ e => e.elim
      | [c], _ =>
        rw [List.forIn_cons]
        simp only [if_true]
        refine wpAny_bind (wpAny_bind (wpAny_mono h (fun b s' z => ?_) fun _ _ e => e.elim))
        refine wpAny_pure ?_
        show wpAny _ _ (forIn [] b _) _ _ _
        rw [List.forIn_nil]
        exact wpAny_pure z
    refine tst _ (wpAny_mono h2 (fun b s4 h4 => ?_) fun _ _ e => e.elim) _
    obtain ⟨eb, h4⟩ := h4
    have hy : ∀ v, yieldOut cenv v = yieldValue v := fun v => by simp only [yieldOut, hco, Bool.false_eq_true, if_false]
    cases b with
    | true =>
      rw [if_pos rfl] at h4
      rw [if_pos eb.symm] at cs
      simp only [if_true]
      simp only [hy]
      rw [Sem.bind_eq_wrap', Sem.bind_eq_wrap', Sem.wrap_wrap, Sem.wrap_wrap]
      refine seg_wrap (wpAny_mono h4 (fun y s3 h3 => ?_) fun _ _ e => e.elim)
      obtain ⟨rfl, z3⟩ := h3
      obtain ⟨m, em⟩ : ∃ m, cntP p n0 - cntP p i = m + 1 := ⟨cntP p n0 - cntP p i - 1, by omega⟩
      rw [em]
      have e1 : cntP p n0 - 1 - m = cntP p i := by omega
      have e2 : cntP p n0 - m = cntP p i + 1 := by omega
      have ix := idxP_at p hlt eb.symm
      have zz : atY p n0 Z (cntP p i + 1) = Z (i + 1) := by
        show Z ((idxP p n0).getD (cntP p i) 0 + 1) = _
        rw [ix]
      have ff : atF p n0 f (cntP p i) = f i := by
        show f ((idxP p n0).getD (cntP p i) 0) = _
        rw [ix]
      refine seg_at (seg_yield rfl rfl rfl ⟨by show Value.bool (f i) = Value.bool (atF p n0 f (cntP p n0 - 1 - m)); rw [e1, ff], by show atY p n0 Z (cntP p n0 - m) s3; rw [e2, zz]; exact z3, fun s'' hz2 => ?_⟩)
      have hz2 : atY p n0 Z (cntP p n0 - m) s'' := hz2
      rw [e2, zz] at hz2
      have q := ih (i + 1) s'' s'' (by omega) hlt hz2
      rw [show cntP p n0 - cntP p (i + 1) = m by omega] at q
      exact seg_again rfl q
    | false =>
      rw [if_neg Bool.false_ne_true] at h4
      rw [if_neg (by rw [← eb]; exact Bool.false_ne_true)] at cs
      simp only [Bool.false_eq_true, if_false]
      have q := ih (i + 1) s0 s4 (by omega) hlt h4
      rw [cs] at q
      exact seg_again rfl q
theorem seg_loudF0 (hif : ifs.length ≤ 1) (hco : cenv.scope.isCoroutine = false) (L : LoudF prog w (A.over (fLoop elt iter tg ifs scope pos I cenv) []) cenv tg ifs elt I p f n0 Z Ze)
    (hself : ∀ (s : Shared), Z 0 s → wpAny (model prog w) (A.over (fStart elt iter tg ifs scope pos I cenv) []) (pyIter (.ref I)) (fun v s1 => v = .ref I ∧ Z 0 s1) (fun _ _ => False) s) (s0 s : Shared) (hz : Z 0 s) :
    Seg (model prog w) A (LR Ze) (LY (atY p n0 Z) (atF p n0 f) (cntP p n0)) (cntP p n0) s0 (fStart elt iter tg ifs scope pos I cenv) ((model prog w).den (fStart elt iter tg ifs scope pos I cenv)) [] s := by
  have loop : ∀ s, Z 0 s → _ := fun s hz => seg_loudF (iter := iter) (scope := scope) (pos := pos) hif hco L n0 0 s0 s (Nat.sub_zero _) (Nat.zero_le _) hz
  have c0 : cntP p n0 - cntP p 0 = cntP p n0 := by
    show _ - ([] : List Nat).length = _
    exact Nat.sub_zero _
  rw [c0] at loop
  show Seg _ A _ _ _ s0 _ ((compStart (.GeneratorExp elt [⟨tg, iter, ifs, 0⟩] scope pos) 0 (.ref I) .none cenv).onRaise (leaving cenv)) [] s
  unfold compStart
  rw [Sem.onRaise_eq_wrap]
  show Seg _ A _ _ _ s0 _ ((ask >>= _).wrap _ _ _ _) [] s
  refine seg_bind_wrap (wpAny_askSetting ?_)
  split
  · exact seg_again rfl (loop s hz)
  · first
      | (refine seg_bind_wrap (wpAny_rule (seg_bind_wrap (wpAny_standAt (seg_bind_wrap (wpAny_mono (hself s hz) (fun v s1 h1 => ?_) fun _ _ e => e.elim))))); obtain ⟨rfl, z1⟩ := h1; exact seg_again rfl (loop s1 z1))
      | (refine seg_bind_wrap (wpAny_rule ?_); show Seg _ A _ _ _ s0 _ ((standAt iter.pos >>= _).wrap _ _ _ _) [] s; refine seg_bind_wrap (wpAny_standAt (seg_bind_wrap (wpAny_mono (hself s hz) (fun v s1 h1 => ?_) fun _ _ e => e.elim))); obtain ⟨rfl, z1⟩ := h1; exact seg_again rfl (loop s1 z1))
variable {a : Addr} {g : Nat} {Zf : Shared → Prop} {s : Shared}
theorem ZOk.atY (O : ZOk a g Z Ze Zf) : ZOk a g (atY p n0 Z) Ze Zf := by
  refine ⟨fun j s h => ?_, fun j s gs hb h => ?_, O.fin, fun j s h => ?_⟩
  · cases j with
    | zero => exact O.gen 0 s h
    | succ j => exact O.gen _ s h
  · cases j with
    | zero => exact O.set 0 s gs hb h
    | succ j => exact O.set _ s gs hb h
  · cases j with
    | zero => exact O.left 0 s h
    | succ j => exact O.left _ s h
theorem loud_freshF (hif : ifs.length ≤ 1) (hco : cenv.scope.isCoroutine = false) (L : LoudF prog w (A.in1.over (fLoop elt iter tg ifs scope pos I cenv) []) cenv tg ifs elt I p f n0 Z Ze)
    (hself : ∀ (s : Shared), Z 0 s → wpAny (model prog w) (A.in1.over (fStart elt iter tg ifs scope pos I cenv) []) (pyIter (.ref I)) (fun v s1 => v = .ref I ∧ Z 0 s1) (fun _ _ => False) s) (hz : Z 0 s)
    (hg : s.gens[g]? = some (.fresh (fStart elt iter tg ifs scope pos I cenv))) : GenL prog w A g (atF p n0 f) (cntP p n0) (atY p n0 Z) Ze 0 s :=
  ⟨hz, _, hg, fun s2 z2 => ⟨rfl, seg_loudF0 (A := A.in1) hif hco L hself s2 s2 z2⟩⟩
end
end Fc
set_option maxHeartbeats 4000000
/-! all(..), any(..) of a generator expression over pairs, with a test or none. -/
namespace Fc
open PySem PySem.Spec PyProof.Rows L2
theorem loud_roomF {A : Around} {k : Nat} {elt iter tg : Expr} {ifs : List Expr} {scope : Scope} {pos : Pos} {I : Addr} {cenv : Env} (r : Room (k + 1) A) : Room k (A.in1.in1.over (fLoop elt iter tg ifs scope pos I cenv) []) := by
  refine ⟨r.hd, ?_, ?_⟩
  · have z := r.dp
    show A.depth + 0 + 1 + 3 * k + 5 < _
    omega
  · have z := r.un
    show A.units + 1 + 1 + 0 + 3 + 16 * k + 200 < _
    omega
theorem loud_framesF {X : Cx} {l : List Env} {elt iter tg : Expr} {ifs : List Expr} {scope : Scope} {pos : Pos} {I : Addr} {cenv : Env} (h : X.A.frames = some l) : (X.A.in1.in1.over (fLoop elt iter tg ifs scope pos I cenv) []).frames = some (cenv :: l) := by
  show pushEnvs [cenv] (pushEnvs [] X.A.frames) = _
  rw [h]
  rfl
/-- what is asked of the walk over pairs: n0 turns, the i-th passes as p i says, its element f i -/
def LoudW2 (K : PySem.W.Frag) (J : It) (tt : TT) (te : TE) (vals : List (Option V)) (n0 : Nat) (p f : Nat → Bool) (Wv : Nat → Hp → Prop) : Prop :=
  (∀ i H, i < n0 → Wv i H → J.go i H ∧ ∀ y H', J.yld i H y H' → ∃ (t : Addr) (u v : V), y = .ref t ∧ SqT K H' t [u, v] ∧ tt (some u :: some v :: vals) H' fun b H3 => b = p i ∧ if b = true then te (some u :: some v :: vals) H3 fun z H4 => z = .bl (f i) ∧ Wv (i + 1) H4 else Wv (i + 1) H3) ∧ ∀ H, Wv n0 H → J.stop n0 H
def tYep : TT := fun _ H Q => Q true H
/-- the tests of a clause: none, or one -/
def PTst (X : Cx) (ifs : List Expr) (tt : TT) : Prop := (ifs = [] ∧ tt = tYep) ∨ ∃ c, ifs = [c] ∧ PT X c tt
theorem PTst.run {X : Cx} {ifs : List Expr} {tt : TT} (h : PTst X ifs tt) {pins : List (Addr × Obj)} {s : Shared} {σ : L2.St} {H : Hp} {Q : Bool → Hp → Prop} (I : Inv X pins σ H s) (q : tt σ H Q) : wpAny (model X.prog X.w) X.A (tstOk ifs X.env) (fun b s1 => ∃ H1, Inv X pins σ H1 s1 ∧ Q b H1) X.xe s := by
  rcases h with ⟨rfl, rfl⟩ | ⟨c, rfl, h⟩
  · exact wpAny_pure ⟨H, I, q⟩
  · exact h.run pins s σ H Q I q
theorem PTst.one {X : Cx} {ifs : List Expr} {tt : TT} (h : PTst X ifs tt) : ifs.length ≤ 1 := by
  rcases h with ⟨rfl, rfl⟩ | ⟨c, rfl, h⟩
  · exact Nat.zero_le _
  · exact Nat.le_refl _
section
variable {X : Cx}
theorem loud_gen2 {pins : List (Addr × Obj)} {σ : L2.St} {H : Hp} {s : Shared} {c P : Addr} {elt iter : Expr} {ifs : List Expr} {x y : Str} {px py tp gp : Pos} {tk2 : Nat} {scope : Scope} {wi : TI} {tt : TT} {te : TE} {k : Nat} {caps : List (Str × Nat)} {Qg : Value → Shared → Prop} {R : Nat → (Nat → Bool) → (Nat → Bool) → Hp → Prop}
    (hr : Room (k + 1) X.A) (hcp : capOk X.N X.env.scope scope caps = true) (hNd : (x :: y :: caps.map (·.1)).Nodup) (hy : scope.names.lookup y = some .local) (TB : GxR.TabB X.base X.mg c P) (hcode : X.env.code = .ref c) (hS : genOk X.env.scope scope x = true) (hi : PI X (.Tuple [.Name x px, .Name y py] tk2 tp) iter wi) (hs : ∀ v, genFold iter X.env v = pure v)
    (he : ∀ (code : Value) (fp : List Addr) (s4 : Shared) (H4 : Hp) (A' : Around) (a : Addr) (ob : Obj), Room k A' → PE (genX X scope code fp s4 H4 A' x (y :: caps.map (·.1)) a ob) elt te ∧ PTst (genX X scope code fp s4 H4 A' x (y :: caps.map (·.1)) a ob) ifs tt) (hif : ifs.length ≤ 1) (I : Inv X pins σ H s)
    (h : wi σ H fun J H1 => GxR.TabG H1 P ∧ ∀ H2, GxR.Tabbed P H1 H2 → ∃ (n0 : Nat) (p f : Nat → Bool) (Wv : Nat → Hp → Prop), Wv 0 H2 ∧ LoudW2 X.K J tt te (capV σ caps) n0 p f Wv ∧ ∀ i H3, Wv i H3 → R n0 p f H3)
    (hQ : ∀ (a : Addr) (g : Nat) (n0 : Nat) (p f : Nat → Bool) (Z : Nat → Shared → Prop) (Ze Zf : Shared → Prop) (s5 : Shared), ZOk a g Z Ze Zf → GenL X.prog X.w X.A.in1 g (atF p n0 f) (cntP p n0) (atY p n0 Z) Ze 0 s5 → (∀ s', Zf s' → ∃ H2, Inv X pins σ H2 s' ∧ R n0 p f H2) → Qg (.ref a) s5) :
    wpAny (model X.prog X.w) X.A (eval (.GeneratorExp elt [⟨.Tuple [.Name x px, .Name y py] tk2 tp, iter, ifs, 0⟩] scope gp) X.env) Qg X.xe s := by
  have S := genOk_s I hS
  refine wpAny_GeneratorExp_make S.co (closure_ok S.free) S.cell S.dot S.kind (by have z := hr.dp; omega) ?_ hs
  refine wpAny_mono (hi.run pins s σ H _ I h) (fun v s1 h1 => wpAny_mono h1 (fun itv s2 h2 => ?_) fun _ _ e => e) fun _ _ e => e
  obtain ⟨it, fp, tn, J, H2, rfl, I2, T, st0, hfp, tabP, rest⟩ := h2
  obtain ⟨ps, hP, trip⟩ := tabP
  have atP : s2.heap.get? P = some { cls := .none, data := .fields ps } := I2.hok P _ hP
  have codeHd := TB.code.keeps (h' := s2.heap) fun b q e => I2.bk b q e
  have nP : ∀ b ∈ fp, b ≠ P := fun b hb e => by
    have z := (hfp b hb).1
    rw [e, hP] at z
    cases z
  have main : ∀ (code : Value) (h3 : Heap) (tk : Nat) (qs : Array Value), Heap.ExtBut P s2.heap h3 → s2.heap.objs.size ≤ h3.objs.size → h3.get? P = some { cls := .none, data := .fields qs } → (∃ more, qs = ps ++ more) → TriplesOk qs.toList →
      wpAny (model X.prog X.w) X.A (builtinsFor X.env.globals X.env.builtins) (fun bi s4 => ∀ h', h'.Ns s4.heap.objs.size (fun y => if y = ".0" then some (.ref it) else none) → Heap.SameBut s4.heap.objs.size (s4.heap.push { cls := .type "frame", data := .dict #[] }) h' →
        Qg (.ref h'.objs.size) { s4 with
          gens := s4.gens.push (.fresh (fStart elt iter (.Tuple [.Name x px, .Name y py] tk2 tp) ifs scope gp it (genEnv scope (cloFrom X.env.cells scope.names []) s4.heap.objs.size code bi X.env))), toks := s4.toks + 1 + 1 + 1,
          heap := h'.push { cls := .type "generator", data := .fields #[.int s4.gens.size 0, .str "<genexpr>" (s4.toks + 1), .str (X.env.qual ++ "<genexpr>") (s4.toks + 1 + 1)] } }) X.xe { s2 with heap := h3, toks := tk } := by
    intro code h3 tk qs hx hsz hP3 hmore trip3
    obtain ⟨bm, obm, b1, b2, b3, b4, b5, b6, b7, b8⟩ := TB.bm
    have globals : h3.Ns X.env.globals X.mg := by
      rw [I2.ok.glob]
      exact (I2.mod.glob.keeps I2.bk).extBut hx TB.gP
    refine wpAny_builtinsFor globals b1 b2 (hx _ _ b4 (I2.bk _ _ b5)) b6 b7 b8 ?_
    intro h' hn' hs'
    obtain ⟨more, em⟩ := hmore
    have I4 : Inv X pins σ (upd H2 P (.tbl (ps ++ more))) { s2 with heap := h3, toks := tk } := GxR.inv_tab (g' := s2.gens) (d' := s2.drawn) I2 hP (fun b q nb e => hx b q nb e) (by rw [← em]; exact hP3) I2.bare
    have t4 : GxR.Tabbed P H2 (upd H2 P (.tbl (ps ++ more))) := ⟨⟨ps ++ more, upd_same, by rw [← em]; exact trip3⟩, fun b nb => upd_ne nb⟩
    obtain ⟨n0, p, f, Wv, w0, lw, wr⟩ := rest _ t4
    generalize upd H2 P (.tbl (ps ++ more)) = H4 at I4 t4 w0
    have hfp4 : ∀ b ∈ fp, FpOk X pins H4 b ∧ b < h3.objs.size := fun b hb => by
      obtain ⟨o, eo, _⟩ := T.obj _ _ st0 b hb
      refine ⟨⟨(t4.2 b (nP b hb)).trans (hfp b hb).1, (hfp b hb).2⟩, Nat.lt_of_lt_of_le (Heap.lt_size eo) hsz⟩
    have st4 : tn 0 h3 := T.keep _ _ _ st0 fun b hb o e => hx b o (nP b hb) e
    have hh : X.A.handled = none := hr.hd
    generalize hA : X.A.in1.in1.over (fLoop elt iter (.Tuple [.Name x px, .Name y py] tk2 tp) ifs scope gp it (gEnv X scope h3.objs.size code)) [] = A'
    have hfr : A'.frames = some (gEnv X scope h3.objs.size code :: X.stack) := by
      rw [← hA]
      exact loud_framesF I2.ok.frames
    have hrm : Room k A' := by
      rw [← hA]
      exact loud_roomF hr
    have hsz' : h'.objs.size = h3.objs.size + 1 := by
      have z := hs'.1
      rw [Heap.size_push] at z
      exact z
    generalize hob : ({ cls := .type "generator", data := .fields #[.int s2.gens.size 0, .str "<genexpr>" (tk + 1), .str (X.env.qual ++ "<genexpr>") (tk + 1 + 1)] } : Obj) = ob
    have hob1 : ob.cls = .type "generator" ∧ ob.data = .fields #[.int s2.gens.size 0, .str "<genexpr>" (tk + 1), .str (X.env.qual ++ "<genexpr>") (tk + 1 + 1)] ∧ ob.slots = #[] ∧ ob.dict = none := by
      rw [← hob]
      exact ⟨rfl, rfl, rfl, rfl⟩
    have keep5 : ∀ b o, h3.get? b = some o → (h'.push ob).get? b = some o := fun b o e => Heap.get?_push_of_some _ (hs'.extBut b o (Nat.ne_of_lt (Heap.lt_size e)) (Heap.get?_push_of_some _ e))
    have at5 : (h'.push ob).get? h'.objs.size = some ob := Heap.get?_push_size _ (by rw [← hob]; rfl)
    have cOk : ∀ (i : Nat) (y : Str) (v : V), (caps.map (·.1))[i]? = some y → (capV σ caps)[i]? = some (some v) → scope.names.lookup y = some .free ∧ ∃ u c, RelV v u ∧ X.env.cells.lookup y = some c ∧ h3.IsCell c (some u) := fun i y v hi hv => by
      unfold capV at hv
      rw [List.getElem?_map] at hi hv
      cases q : caps[i]? with
      | none =>
        rw [q] at hi
        cases hi
      | some p =>
        rw [q] at hi hv
        cases hi
        have hv : (σ[p.2]?).getD none = some v := Option.some.inj hv
        obtain ⟨c1, c2⟩ := Bool.and_eq_true_iff.mp (List.all_eq_true.mp hcp p (List.mem_of_getElem? q))
        obtain ⟨c2, c3⟩ := Bool.and_eq_true_iff.mp c2
        have c1 := of_decide_eq_true c1
        have c2 := of_decide_eq_true c2
        have c3 : X.env.scope.names.lookup p.1 = some .cell := of_decide_eq_true c3
        have hσ : σ[p.2]? = some (some v) := by
          cases w : σ[p.2]? with
          | none =>
            rw [w] at hv
            cases hv
          | some o =>
            rw [w] at hv
            exact congrArg some hv
        obtain ⟨m, _, look⟩ := I4.loc
        obtain ⟨u, ru, lk⟩ := look p.2 p.1 v c1 hσ (.inr (.inl c3))
        rcases lk with ⟨k1, _⟩ | ⟨_, c, e, ic⟩
        · have k1 : X.env.scope.names.lookup p.1 = some .local := k1
          rw [c3] at k1
          cases k1
        · exact ⟨c2, u, c, ru, e, ic⟩
    have J5 := genX_inv (x := x) (caps := y :: caps.map (·.1)) (vals := none :: capV σ caps) (g' := s2.gens.push (.fresh (fStart elt iter (.Tuple [.Name x px, .Name y py] tk2 tp) ifs scope gp it (gEnv X scope h3.objs.size code)))) (t' := tk + 1 + 1 + 1) I4 S hfp4 hrm.hd hfr keep5 (hn'.push _) (a := h'.objs.size) (show h3.objs.size < h'.objs.size by omega) at5 (fun v z => by rw [hob1.2.1] at z; cases z) (AllBare.push I2.bare rfl) (by unfold capV; rw [List.length_cons, List.length_cons, List.length_map, List.length_map]) (fun i y v hi hv => match i, hi, hv with
      | 0, _, hv => nomatch hv
      | i + 1, hi, hv => cOk i y v hi hv)
    have ltA : h3.objs.size < h'.objs.size := by omega
    generalize hX : genX X scope code fp { s2 with heap := h3, toks := tk } H4 A' x (y :: caps.map (·.1)) h'.objs.size ob = X' at J5
    have xA : X'.A = A' := by rw [← hX] <;> rfl
    have xp : X'.prog = X.prog := by rw [← hX] <;> rfl
    have xw : X'.w = X.w := by rw [← hX] <;> rfl
    have xK : X'.K = X.K := by rw [← hX] <;> rfl
    have xc : X'.calm = true := by rw [← hX] <;> rfl
    have xe : X'.env = gEnv X scope h3.objs.size code := by rw [← hX] <;> rfl
    have xx : X'.xe = fun _ _ => False := by rw [← hX] <;> rfl
    have xN : X'.N = x :: y :: caps.map (·.1) := by rw [← hX] <;> rfl
    have xn : X'.pn = [(h'.objs.size, ob)] := by rw [← hX] <;> rfl
    have xx2 : X'.ex = fp := by rw [← hX] <;> rfl
    have stat : ∀ {σ2 : L2.St} {H6 : Hp} {s6 : Shared}, Inv X' [] σ2 H6 s6 → (∀ b ∈ fp, H6 b = none) → ∀ b ∈ fp, FpOk X' [] H6 b := fun {σ2 H6 s6} J n b hb =>
      have hb2 : b ∈ X'.ex := by rw [xx2]; exact hb
      ⟨n b hb, (J.ok.exf b hb2).1, J.ok.exfs b hb2, .inl hb2, fun y c e => (J.ok.exf b hb2).2 y c e, fun p hp => by
        rw [xn] at hp
        have e : p = (h'.objs.size, ob) := by simpa using hp
        rw [e]
        have z := (hfp4 b hb).2
        exact Nat.ne_of_gt (Nat.lt_trans z ltA)⟩
    obtain ⟨PEe, PTe⟩ := he code fp { s2 with heap := h3, toks := tk } H4 A' h'.objs.size ob hrm
    rw [hX] at PEe PTe
    have loc : Loc X'.env.scope x := by rw [xe]; exact Or.inl S.loc
    have locy : Loc X'.env.scope y := by rw [xe]; exact Or.inl hy
    have PG0 : PG X' (.Name x px) (gName 0) := pg_name (by rw [xN]; exact hNd) (by rw [xN]; rfl) loc (Or.inr (by rw [xe]; exact S.loc))
    have PG1 : PG X' (.Name y py) (gName 1) := pg_name (by rw [xN]; exact hNd) (by rw [xN]; rfl) locy (Or.inr (by rw [xe]; exact hy))
    have PGx : PG X' (.Tuple [.Name x px, .Name y py] tk2 tp) (gTup X'.K 2 (gCons (gName 0) (gCons (gName 1) gNil))) := pg_tup xc (pgs_cons PG0 (pgs_cons PG1 pgs_nil)) rfl rfl
    have key : Qg (.ref h'.objs.size) { s2 with gens := s2.gens.push (.fresh (fStart elt iter (.Tuple [.Name x px, .Name y py] tk2 tp) ifs scope gp it (gEnv X scope h3.objs.size code))), toks := tk + 1 + 1 + 1, heap := h'.push ob } := by
      refine hQ h'.objs.size s2.gens.size n0 p f (fun i s => ∃ (o : Option V) (H6 : Hp), (∃ o2 : Option V, Inv X' [] (o :: o2 :: capV σ caps) H6 s) ∧ tn i s.heap ∧ (∀ b ∈ fp, H6 b = none) ∧ Wv i H6 ∧ s2.gens.size < s.gens.size) (fun s => ∃ (σ2 : L2.St) (H6 : Hp), Inv X' [] σ2 H6 s ∧ Wv n0 H6) (fun s => ∃ (i : Nat) (σ2 : L2.St) (H6 : Hp), Inv X' [] σ2 H6 s ∧ Wv i H6) _
        ⟨fun j s ⟨σ2, H6, ⟨_, J6⟩, _, _, _, gz⟩ => ?_, fun j s gs hb ⟨o, H6, ⟨_, J6⟩, st6, n6, w6, gz⟩ => ?_, fun s gs h6 hb ⟨σ2, H6, J6, w6⟩ hk => ?_, fun j s ⟨o, H6, ⟨_, J6⟩, _, _, w6, _⟩ => ⟨j, _, H6, J6, w6⟩⟩ ?_ fun s' ⟨i, σ2, H6, J6, w6⟩ => ?_
      · obtain ⟨e, _⟩ := J6.pin (h'.objs.size, ob) (by rw [xn]; exact List.mem_cons_self)
        exact ⟨⟨ob, _, _, e, hob1.1, hob1.2.1, hob1.2.2.1⟩, J6.nolimit, gz⟩
      · exact ⟨o, H6, ⟨_, Fc.Inv.gens J6 (bare_set J6.bare hb)⟩, st6, n6, w6, by simpa [Shared.setGen] using gz⟩
      · exact ⟨n0, σ2, H6, (Fc.Inv.gens J6 (bare_set J6.bare hb)).kept (t' := s.toks) hk, w6⟩
      · refine loud_freshF (A := X.A.in1) (iter := iter) (scope := scope) (pos := gp) (cenv := gEnv X scope h3.objs.size code) hif S.co ?_ (fun s ⟨o, H6, J6, st6, r⟩ => T.self _ 0 s _ _ st6 ⟨rfl, o, H6, J6, st6, r⟩) ⟨_, H4, ⟨_, J5⟩, T.keep _ _ _ st4 fun b hb o e => keep5 b o e, fun b hb => (hfp4 b hb).1.1, w0, ?_⟩ (Array.getElem?_push_size ..)
        · rw [hA]
          refine ⟨fun i s6 lt ⟨o, H6, ⟨o2, J6⟩, st6, n6, w6, gz⟩ => ?_, fun s6 ⟨o, H6, ⟨o2, J6⟩, st6, n6, w6, gz⟩ => ?_⟩
          · obtain ⟨go, step⟩ := lw.1 i H6 lt w6
            have ti := T.item X' xp xw xK xc i [] s6 (o :: o2 :: capV σ caps) H6 (fun _ _ => False) J6 (stat J6 n6) st6 go
            rw [xA] at ti
            refine GenW.wpAny_gsz (n := s2.gens.size + 1) gz (wpAny_mono ti (fun r s7 hh7 hsz7 => ?_) fun _ _ e _ => e)
            obtain ⟨u, rfl, hh7⟩ := hh7
            refine ⟨u, rfl, GenW.wpAny_gsz (n := s2.gens.size + 1) hsz7 (wpAny_mono hh7 (fun _ s8 hh8 hsz8 => ?_) fun _ _ e _ => e)⟩
            obtain ⟨yv, H8, J8, r8, y8, st8, n8⟩ := hh8
            have J8' := J8.pinned (stat J8 n8) (T.obj _ _ st8)
            obtain ⟨tA, v1, v2, rfl, sq, cont⟩ := step yv H8 y8
            rw [← xK] at sq
            have pg := PGx.run _ s8 (o :: o2 :: capV σ caps) H8 (.ref tA) u (fun σ9 H9 => σ9 = some v1 :: some v2 :: capV σ caps ∧ H9 = H8) J8' r8 ⟨tA, _, rfl, sq, rfl, _, _, rfl, _, _, rfl, rfl, rfl, rfl⟩
            rw [xA, xe, xp, xw, xx] at pg
            refine GenW.wpAny_gsz (n := s2.gens.size + 1) hsz8 (wpAny_mono pg (fun _ s9 hh9 hsz9 => ?_) fun _ _ e _ => e)
            obtain ⟨σ9, H9, J9, rfl, rfl⟩ := hh9
            have pt := PTe.run J9 cont
            rw [xA, xe, xp, xw, xx] at pt
            refine GenW.wpAny_gsz (n := s2.gens.size + 1) hsz9 (wpAny_mono pt (fun bb s9b hh9b hsz9b => ?_) fun _ _ e _ => e)
            obtain ⟨H9b, J9b, ebb, cont2⟩ := hh9b
            refine ⟨ebb, ?_⟩
            cases bb with
            | true =>
              rw [if_pos rfl] at cont2
              refine (if_pos rfl).mpr ?_
              have pe := PEe.run _ s9b (some v1 :: some v2 :: capV σ caps) H9b _ J9b cont2
              rw [xA, xe, xp, xw, xx] at pe
              refine GenW.wpAny_gsz (n := s2.gens.size + 1) hsz9b (wpAny_mono pe (fun z s10 hh10 hsz10 => ?_) fun _ _ e _ => e)
              obtain ⟨zv, H10, J10, r10, e10, w10⟩ := hh10
              subst e10
              have ez : z = .bool (f i) := r10
              have pin' : ∀ b ∈ fp, ∀ o, s8.heap.get? b = some o → s10.heap.get? b = some o ∧ H10 b = none := fun b hb o e =>
                have zz := J10.pin (b, o) (List.mem_append_right _ (List.mem_append_right _ (mem_pinsAt hb e)))
                ⟨zz.1, zz.2.1⟩
              refine ⟨ez, _, H10, ⟨_, J10.unpinned (pins := [])⟩, T.keep _ _ _ st8 fun b hb o e => (pin' b hb o e).1, fun b hb => ?_, w10, hsz10⟩
              obtain ⟨o, e, _⟩ := T.obj _ _ st8 b hb
              exact (pin' b hb o e).2
            | false =>
              rw [if_neg Bool.false_ne_true] at cont2
              refine (if_neg Bool.false_ne_true).mpr ?_
              have pin' : ∀ b ∈ fp, ∀ o, s8.heap.get? b = some o → s9b.heap.get? b = some o ∧ H9b b = none := fun b hb o e =>
                have zz := J9b.pin (b, o) (List.mem_append_right _ (List.mem_append_right _ (mem_pinsAt hb e)))
                ⟨zz.1, zz.2.1⟩
              refine ⟨_, H9b, ⟨_, J9b.unpinned (pins := [])⟩, T.keep _ _ _ st8 fun b hb o e => (pin' b hb o e).1, fun b hb => ?_, cont2, hsz9b⟩
              obtain ⟨o, e, _⟩ := T.obj _ _ st8 b hb
              exact (pin' b hb o e).2
          · have td := T.done X' xp xw xK xc n0 [] s6 (o :: o2 :: capV σ caps) H6 (fun _ _ => False) J6 (stat J6 n6) st6 (lw.2 H6 w6)
            rw [xA] at td
            exact wpAny_mono td (fun r s7 hh7 => ⟨hh7.1, _, H6, hh7.2, w6⟩) fun _ _ e => e
        · show s2.gens.size < (s2.gens.push _).size
          rw [Array.size_push]
          exact Nat.lt_succ_self _
      · rw [← hX] at J6
        exact ⟨H6, genX_back I4 hfp4 J6, wr i H6 w6⟩
    exact key
  refine ⟨I2.nolimit, ?_⟩
  cases hc : codeAmong gp ps.toList with
  | none =>
    refine wpAny_genexprCodeX hcode (codeHd.code atP trip) (codeHd.tab atP) hc fun c' h' tk hx hge hlt hco _ htab _ => ?_
    obtain ⟨_, _, _, _, _, _, _, _, _, _, _, _, _, _, _, _, _, _, _, tr3, _⟩ := hco
    exact main _ h' tk _ hx (Nat.le_trans hge (Nat.le_of_lt hlt)) htab.2 ⟨_, rfl⟩ tr3
  | some cv =>
    refine wpAny_genexprCode_hit hcode (codeHd.code atP trip) hc ?_
    exact main cv _ s2.toks ps (Heap.ExtBut.refl _ _) (Nat.le_refl _) atP ⟨#[], by simp⟩ trip
/-- what is asked of all(..), any(..) over pairs -/
def tGenP (b : Bool) (K : PySem.W.Frag) (P : Addr) (wi : TI) (tt : TT) (te : TE) (caps : List (Str × Nat)) : TE := fun σ H Q => wi σ H fun J H1 => GxR.TabG H1 P ∧ ∀ H2, GxR.Tabbed P H1 H2 → ∃ (n0 : Nat) (p f : Nat → Bool) (Wv : Nat → Hp → Prop), Wv 0 H2 ∧ LoudW2 K J tt te (capV σ caps) n0 p f Wv ∧
  ∀ i H3, Wv i H3 → Q (.bl (if b = true then (idxP p n0).all f else (idxP p n0).any f)) H3
theorem pe_allP {K : PySem.W.Frag} {c P : Addr} {elt iter : Expr} {ifs : List Expr} {x y : Str} {px py tp p pos gp : Pos} {tk2 : Nat} {scope : Scope} {wi : TI} {tt : TT} {te : TE} {k : Nat} (caps : List (Str × Nat)) (hr : Room (k + 1) X.A) (hm : X.mg "all" = none) (TB : GxR.TabB X.base X.mg c P) (hcode : X.env.code = .ref c) (hi : PI X (.Tuple [.Name x px, .Name y py] tk2 tp) iter wi)
    (he : ∀ (code : Value) (fp : List Addr) (s4 : Shared) (H4 : Hp) (A' : Around) (a : Addr) (ob : Obj), Room k A' → PE (genX X scope code fp s4 H4 A' x (y :: caps.map (·.1)) a ob) elt te ∧ PTst (genX X scope code fp s4 H4 A' x (y :: caps.map (·.1)) a ob) ifs tt) (hK : X.K = K := by rfl) (hif : ifs.length ≤ 1 := by decide) (hg : Gl X "all" := by rfl)
    (hcp : capOk X.N X.env.scope scope caps = true := by rfl) (hNd : (x :: y :: caps.map (·.1)).Nodup := by decide) (hy : scope.names.lookup y = some .local := by rfl) (hS : genOk X.env.scope scope x = true := by rfl) (hs : ∀ v, genFold iter X.env v = pure v := by exact fun _ => rfl)
    (hst : starEach [.GeneratorExp elt [⟨.Tuple [.Name x px, .Name y py] tk2 tp, iter, ifs, 0⟩] scope gp] X.env = (false, eval (.GeneratorExp elt [⟨.Tuple [.Name x px, .Name y py] tk2 tp, iter, ifs, 0⟩] scope gp) X.env) :: starEach [] X.env := by rfl) :
    PE X (.Call (.Name "all" p) [.GeneratorExp elt [⟨.Tuple [.Name x px, .Name y py] tk2 tp, iter, ifs, 0⟩] scope gp] [] pos) (tGenP true K P wi tt te caps) := by
  subst hK
  refine ⟨fun pins s σ H Q I h => ?_⟩
  refine wpAny_Call_Name_kw (ld_blt I hg hm boot_all' ?_)
  refine PyProof.Rows.callWith_builtin1 ?_ hst (by rfl)
  rw [hst]
  show wpAny _ _ (spliced ((false, eval (.GeneratorExp elt [⟨.Tuple [.Name x px, .Name y py] tk2 tp, iter, ifs, 0⟩] scope gp) X.env) :: backTo pos (starEach [] X.env))) _ _ s
  refine Calls.spliced_cons (loud_gen2 (R := fun n p f H3 => Q (.bl ((idxP p n).all f)) H3) hr hcp hNd hy TB hcode hS hi hs he hif I h fun a g n0 p f Z Ze Zf s5 O G back => Calls.spliced_nil ?_)
  refine call_all_loud hr.hd (by have z := hr.dp; show X.A.depth < recursionLimit; omega) O.atY G fun s' z => ?_
  obtain ⟨H2, J, q⟩ := back s' z
  rw [pass_all]
  exact ⟨.bl _, H2, J, rfl, q⟩
theorem pe_anyP {K : PySem.W.Frag} {c P : Addr} {elt iter : Expr} {ifs : List Expr} {x y : Str} {px py tp p pos gp : Pos} {tk2 : Nat} {scope : Scope} {wi : TI} {tt : TT} {te : TE} {k : Nat} (caps : List (Str × Nat)) (hr : Room (k + 1) X.A) (hm : X.mg "any" = none) (TB : GxR.TabB X.base X.mg c P) (hcode : X.env.code = .ref c) (hi : PI X (.Tuple [.Name x px, .Name y py] tk2 tp) iter wi)
    (he : ∀ (code : Value) (fp : List Addr) (s4 : Shared) (H4 : Hp) (A' : Around) (a : Addr) (ob : Obj), Room k A' → PE (genX X scope code fp s4 H4 A' x (y :: caps.map (·.1)) a ob) elt te ∧ PTst (genX X scope code fp s4 H4 A' x (y :: caps.map (·.1)) a ob) ifs tt) (hK : X.K = K := by rfl) (hif : ifs.length ≤ 1 := by decide) (hg : Gl X "any" := by rfl)
    (hcp : capOk X.N X.env.scope scope caps = true := by rfl) (hNd : (x :: y :: caps.map (·.1)).Nodup := by decide) (hy : scope.names.lookup y = some .local := by rfl) (hS : genOk X.env.scope scope x = true := by rfl) (hs : ∀ v, genFold iter X.env v = pure v := by exact fun _ => rfl)
    (hst : starEach [.GeneratorExp elt [⟨.Tuple [.Name x px, .Name y py] tk2 tp, iter, ifs, 0⟩] scope gp] X.env = (false, eval (.GeneratorExp elt [⟨.Tuple [.Name x px, .Name y py] tk2 tp, iter, ifs, 0⟩] scope gp) X.env) :: starEach [] X.env := by rfl) :
    PE X (.Call (.Name "any" p) [.GeneratorExp elt [⟨.Tuple [.Name x px, .Name y py] tk2 tp, iter, ifs, 0⟩] scope gp] [] pos) (tGenP false K P wi tt te caps) := by
  subst hK
  refine ⟨fun pins s σ H Q I h => ?_⟩
  refine wpAny_Call_Name_kw (ld_blt I hg hm boot_any ?_)
  refine PyProof.Rows.callWith_builtin1 ?_ hst (by rfl)
  rw [hst]
  show wpAny _ _ (spliced ((false, eval (.GeneratorExp elt [⟨.Tuple [.Name x px, .Name y py] tk2 tp, iter, ifs, 0⟩] scope gp) X.env) :: backTo pos (starEach [] X.env))) _ _ s
  refine Calls.spliced_cons (loud_gen2 (R := fun n p f H3 => Q (.bl ((idxP p n).any f)) H3) hr hcp hNd hy TB hcode hS hi hs he hif I h fun a g n0 p f Z Ze Zf s5 O G back => Calls.spliced_nil ?_)
  refine call_any_loud hr.hd (by have z := hr.dp; show X.A.depth < recursionLimit; omega) O.atY G fun s' z => ?_
  obtain ⟨H2, J, q⟩ := back s' z
  rw [pass_any]
  exact ⟨.bl _, H2, J, rfl, q⟩
end
end Fc
set_option maxHeartbeats 4000000
namespace Fc
open PySem PySem.Spec PyProof.Rows L2
section
variable {P : Program} {w : World} {K : PySem.W.Frag} {mg : Str → Option Value} {base : Heap}
theorem scEnough : FnScope ["rule", "papers", "cards", "needs", "start", "goal"] ["rule", "papers", "cards"] (defScope sEnough) := ⟨rfl, rfl, rfl, by decide +kernel, rfl, by decide +kernel, by decide +kernel⟩
theorem ok_enough {T : List Addr} (D : DefAt K mg "enough" sEnough) (C1 : C8.Cal P w K mg base 7 "needed" (spNeeded T) []) (C2 : C8.Cal P w K mg base 2 "check_head" spCheckHead []) (C3 : C8.Cal P w K mg base 1 "come_to" spCome []) (TB : GxR.TabB base mg (cO K "enough") (tO K "enough")) (hT : tO K "enough" ∈ T) (gAll : mg "all" = none) : C8.Cal P w K mg base 8 "enough" (spEnough T) [] := by
  refine cal_mk D scEnough (fun vs H Q E h => ?_) (fun _ _ _ _ _ _ us hl => match us, hl with | [_, _, _], _ => rfl) (fun A outer s H vs Q E hr h => ?_)
  · obtain ⟨v, u, c, rs, ps, cs, rfl, _⟩ := h
    rfl
  · obtain ⟨v, u, c, rs, ps, cs, rfl, hd, hp, hc, hg, hgp, lc, hcs, ht, k⟩ := h
    refine ⟨_, pss_cons (ps_set (i := 3) scEnough.nd rfl (Or.inl rfl) (C8.pe_c C1 hr (by decide) rfl (pa_cons (pv 0) (pa_cons (pv 1) pa_nil))))
      (pss_cons (ps_for PassesOwn.never rfl (pi_list (pv 2)) (pg_tup rfl (pgs_cons (pg_name (i := 4) scEnough.nd rfl (Or.inl rfl)) (pgs_cons (pg_name (i := 5) scEnough.nd rfl (Or.inl rfl)) pgs_nil)))
        (pss_cons (ps_expr (C8.pe_c C2 hr (by decide) rfl (pa_cons (pv 0) (pa_cons (pv 4) pa_nil))))
        (pss_one (ps_expr (C8.pe_c C2 hr (by decide) rfl (pa_cons (pv 0) (pa_cons (pv 5) pa_nil)))))))
      (pss_one (ps_ret (pe_allP (k := 3) (K := K) [("cards", 2)] (hr.mono (by decide)) gAll TB rfl (pi_list (pv 3)) (fun code fp s4 H4 A' a ob r => ⟨pe_cmpR (op_inK (K := K)) (pv 1) (C8.pe_c C3 r (by decide) rfl (pa_cons (pv 2) (pa_cons (pv 0) pa_nil))) rfl, .inl ⟨rfl, rfl⟩⟩))))), ?_⟩
    have few := hg.few
    obtain ⟨a, xs, rfl, _, ha, hx⟩ := hc.lst_ex
    have hlen : xs.length = cs.length := by rw [hx.len, List.length_map]
    refine ⟨_, rfl, _, rfl, v, u, rs, ps, rfl, hd, hp, hg, hgp, ht, fun N H1 k1 ⟨fN, ys, aN, hy⟩ => ?_⟩
    have dN : DnA N0 H1 ys ((neededM rs ps).map paperD) := hy.weak fun _ z => z.elim
    refine ⟨_, rfl, a, rfl, ⟨_, SqL.of (k1.obj ha ntl nn)⟩, for_list (K := K) (a := a) (xs := xs) (fun i σ' H' => ∃ o4 o5 : Option V, σ' = [some v, some u, some (.ref a), some (.ref N), o4, o5] ∧ Kp N0 H1 H')
      ⟨_, _, rfl, Kp.refl⟩ (fun i σ' H' _ ⟨_, _, _, k'⟩ => SqL.of ((k1.trans k').obj ha ntl nn)) (fun i x σ' H' hx2 ⟨o4, o5, es, k'⟩ => ?_) fun σ' H2 ⟨o4, o5, es, k2⟩ => ?_⟩
    · subst es
      have il : i < cs.length := by
        have q := (List.getElem?_eq_some_iff.mp hx2).1
        omega
      have ec : cs[i]? = some cs[i] := List.getElem?_eq_getElem il
      have inC := hcs _ (List.getElem_mem il)
      generalize cs[i] = q at ec inC
      have k3 := k1.trans k'
      obtain ⟨t, rfl, _, at0⟩ := paperD_ex ((hx.map_at hx2 ec).kp k3)
      refine ⟨t, _, rfl, SqT.of at0, rfl, _, _, rfl, _, _, rfl, rfl, ?_⟩
      refine ⟨_, rfl, _, rfl, v, rs, q.1, rfl, hd.kp k3, by omega, inC.1, fun H4 k4 => ?_⟩
      exact ⟨_, rfl, _, rfl, v, rs, q.2, rfl, hd.kp (k3.trans k4), by omega, inC.2, fun H5 k5 => ⟨_, _, rfl, k'.trans (k4.trans k5)⟩⟩
    · subst es
      have k3 := k1.trans k2
      have aN2 := k2.obj aN ntl nn
      have ln := needed_len hg ps
      have lys : ys.length = (neededM rs ps).length := by rw [hy.len, List.length_map]
      refine ⟨_, rfl, N, rfl, ⟨_, SqL.of aN2⟩, (k3.tbs ht) _ hT, fun H4 t4 => ?_⟩
      have k4 : Kp N0 H2 H4 := Kp.tabbed ((k3.tbs ht) _ hT) t4
      refine ⟨(neededM rs ps).length, fun _ => true, fun i => decide (((neededM rs ps).getD i ("", "")).2 ∈ comeM cs ((neededM rs ps).getD i ("", "")).1), fun _ H3 => Kp N0 H2 H3, k4, ⟨fun i H3 hi k5 => ?_, fun H3 k5 => ?_⟩, fun i H3 k5 => ?_⟩
      · have en : (neededM rs ps)[i]? = some (neededM rs ps)[i] := List.getElem?_eq_getElem hi
        have eg : (neededM rs ps).getD i ("", "") = (neededM rs ps)[i] := by simp [List.getD, hi]
        generalize (neededM rs ps)[i] = n at en eg
        have hi2 : i < ys.length := by rw [lys]; exact hi
        have e3 := k5.obj aN2 ntl nn
        refine ⟨⟨_, _, SqL.of e3, List.getElem?_eq_getElem hi2⟩, fun y H' ⟨eH, hyy⟩ => ?_⟩
        subst eH
        have ey := hyy _ (SqL.of e3)
        obtain ⟨t, rfl, _, at0⟩ := paperD_ex ((dN.map_at ey en).kp (k2.trans k5))
        refine ⟨t, _, _, rfl, SqT.of at0, rfl, iteT ?_⟩
        refine ⟨_, rfl, _, rfl, _, rfl, .ref a, cs, n.1, rfl, hc.kp (k3.trans k5), lc, fun q H5 hq k6 h6 => ?_⟩
        refine ⟨q, _, rfl, .inl (SqL.of h6), rfl, flat_strs _, ?_, k5.trans k6⟩
        show V.bl (inV (V.str n.2) ((comeM cs n.1).map V.str)) = _
        dsimp only
        rw [eg]
        exact congrArg V.bl (inV_str _ _)
      · exact ⟨_, SqL.of (k5.obj aN2 ntl nn), by rw [lys]; exact Nat.le_refl _⟩
      · have e : ((idxP (fun _ => true) (neededM rs ps).length).all fun i => decide (((neededM rs ps).getD i ("", "")).2 ∈ comeM cs ((neededM rs ps).getD i ("", "")).1)) = enoughM (neededM rs ps) cs := by
          have z : idxP (fun _ => true) (neededM rs ps).length = List.range (neededM rs ps).length := List.filter_eq_self.mpr fun _ _ => rfl
          rw [z]
          unfold enoughM
          exact Fc.all_range (fun n : P2 => decide (n.2 ∈ comeM cs n.1)) ("", "") _
        rw [if_pos rfl, e]
        exact k H3 (k3.trans k5)
end
end Fc
set_option maxHeartbeats 4000000
namespace Fc
open PySem PySem.Spec PyProof.Rows L2
section
variable {P : Program} {w : World} {K : PySem.W.Frag} {mg : Str → Option Value} {base : Heap}
theorem scAlike : FnScope ["_law_found", "_law_due", "_law_k"] ["_law_found", "_law_due"] (defScope sAlike) := ⟨rfl, rfl, rfl, by decide +kernel, rfl, by decide +kernel, by decide +kernel⟩
theorem ok_alike (D : DefAt K mg "_law_alike" sAlike) (gI : mg "isinstance" = none) (gB : mg "bool" = none) (gN : mg "int" = none) (gS : mg "str" = none) (gT : mg "tuple" = none) (gL : mg "list" = none) (gLen : mg "len" = none) (gR : mg "range" = none) : ∀ n : Nat, C8.Cal P w K mg base (n + 1) "_law_alike" (spAlike n) []
  | 0 => by
    refine cal_mk D scAlike (fun vs H Q E h => ?_) (fun _ _ _ _ _ _ us hl => match us, hl with | [_, _], _ => rfl) (fun A outer s H vs Q E hr h => ?_)
    · obtain ⟨_, _, _, rfl, _⟩ := h
      rfl
    · obtain ⟨_, _, _, rfl, _, _, h, _⟩ := h
      exact absurd h (Nat.not_lt_zero _)
  | n + 1 => by
    have C := ok_alike D gI gB gN gS gT gL gLen gR n
    refine cal_mk D scAlike (fun vs H Q E h => ?_) (fun _ _ _ _ _ _ us hl => match us, hl with | [_, _], _ => rfl) (fun A outer s H vs Q E hr h => ?_)
    · obtain ⟨v, u, d, rfl, _⟩ := h
      rfl
    · obtain ⟨v, u, d, rfl, hv, hu, hdep, hwt, k⟩ := h
      refine ⟨_, pss_cons (ps_if (pt_cmpR op_isN (pv 1) pe_non (nomark _)) (pss_one (ps_ret (pe_cmpR op_isN (pv 0) pe_non (nomark _)))) pss_nil)
        (pss_cons (ps_if (pt_val (pe_callB call_isi (by rfl) gI PyProof.Rows.boot_isinstance (pa_cons (pv 1) (pa_cons (pe_bltn (v := .ty "bool") (by rfl) gB (by decide +kernel) rfl) pa_nil)))) (pss_one (ps_ret (pe_and (pe_callB call_isi (by rfl) gI PyProof.Rows.boot_isinstance (pa_cons (pv 0) (pa_cons (pe_bltn (v := .ty "bool") (by rfl) gB (by decide +kernel) rfl) pa_nil))) (pe_one (pe_cmpR op_eq (pv 0) (pv 1) (nomark _)))))) pss_nil)
        (pss_cons (ps_if (pt_val (pe_callB call_isi (by rfl) gI PyProof.Rows.boot_isinstance (pa_cons (pv 1) (pa_cons (pe_bltn (v := .ty "int") (by rfl) gN (by decide +kernel) rfl) pa_nil)))) (pss_one (ps_ret (pe_and (pe_callB call_isi (by rfl) gI PyProof.Rows.boot_isinstance (pa_cons (pv 0) (pa_cons (pe_bltn (v := .ty "int") (by rfl) gN (by decide +kernel) rfl) pa_nil)))
          (pe_and (pe_not (pe_callB call_isi (by rfl) gI PyProof.Rows.boot_isinstance (pa_cons (pv 0) (pa_cons (pe_bltn (v := .ty "bool") (by rfl) gB (by decide +kernel) rfl) pa_nil)))) (pe_one (pe_cmpR op_eq (pv 0) (pv 1) (nomark _))))))) pss_nil)
        (pss_cons (ps_if (pt_val (pe_callB call_isi (by rfl) gI PyProof.Rows.boot_isinstance (pa_cons (pv 1) (pa_cons (pe_bltn (v := .ty "str") (by rfl) gS (by decide +kernel) rfl) pa_nil)))) (pss_one (ps_ret (pe_and (pe_callB call_isi (by rfl) gI PyProof.Rows.boot_isinstance (pa_cons (pv 0) (pa_cons (pe_bltn (v := .ty "str") (by rfl) gS (by decide +kernel) rfl) pa_nil))) (pe_one (pe_cmpR op_eq (pv 0) (pv 1) (nomark _)))))) pss_nil)
        (pss_cons (ps_if (PW.pt (pw_or (pt_cmpR op_ne (pe_callB call_isi (by rfl) gI PyProof.Rows.boot_isinstance (pa_cons (pv 1) (pa_cons (pe_bltn (v := .ty "tuple") (by rfl) gT (by decide +kernel) rfl) pa_nil))) (pe_callB call_isi (by rfl) gI PyProof.Rows.boot_isinstance (pa_cons (pv 0) (pa_cons (pe_bltn (v := .ty "tuple") (by rfl) gT (by decide +kernel) rfl) pa_nil))) (nomark _))
          (pw_or1 (pt_cmpR op_ne (pe_callB call_isi (by rfl) gI PyProof.Rows.boot_isinstance (pa_cons (pv 1) (pa_cons (pe_bltn (v := .ty "list") (by rfl) gL (by decide +kernel) rfl) pa_nil))) (pe_callB call_isi (by rfl) gI PyProof.Rows.boot_isinstance (pa_cons (pv 0) (pa_cons (pe_bltn (v := .ty "list") (by rfl) gL (by decide +kernel) rfl) pa_nil))) (nomark _))))) pss_never pss_nil)
        (pss_cons (ps_if (pt_cmpR op_ne (pe_callB call_len_seq (by rfl) gLen PySem.boot_len (pa_cons (pv 0) pa_nil)) (pe_callB call_len_seq (by rfl) gLen PySem.boot_len (pa_cons (pv 1) pa_nil)) (nomark _)) pss_never pss_nil)
        (pss_cons (ps_for PassesOwn.never rfl (pi_range1 (by rfl) gR (pa_cons (pe_callB call_len_seq (by rfl) gLen PySem.boot_len (pa_cons (pv 1) pa_nil)) pa_nil)) (pg_name (i := 2) scAlike.nd rfl (Or.inl rfl))
          (pss_one (ps_if (pt_not (pt_val (C8.pe_c C hr (Nat.le_refl _) rfl (pa_cons (pe_ix ix_seq (pv 0) (pv 2) (fun _ _ => rfl)) (pa_cons (pe_ix ix_seq (pv 1) (pv 2) (fun _ _ => rfl)) pa_nil))))) pss_never pss_nil)))
        (pss_one (ps_ret pe_bl)))))))), ?_⟩
      have kk := k H Kp.refl
      cases d with
      | none =>
        obtain rfl := hv.non_eq
        obtain rfl := hu.non_eq
        exact ⟨_, rfl, rfl, _, rfl, iteT ⟨_, rfl, rfl, kk⟩⟩
      | bool c =>
        obtain rfl := hv.bl_eq
        obtain rfl := hu.bl_eq
        refine ⟨_, rfl, rfl, _, rfl, iteF ⟨_, rfl, ⟨_, .ty _, _, _, true, rfl, .ty _, .base (.bl c), kit_ty (by decide +kernel), _, rfl, iteT ?_⟩⟩⟩
        refine ⟨_, rfl, ⟨_, .ty _, _, _, true, rfl, .ty _, .base (.bl c), kit_ty (by decide +kernel), _, rfl, iteT ⟨_, rfl, _, rfl, rfl, ?_⟩⟩⟩
        rw [decide_eq_true rfl]
        exact kk
      | int c =>
        obtain rfl := hv.int_eq
        obtain rfl := hu.int_eq
        refine ⟨_, rfl, rfl, _, rfl, iteF ⟨_, rfl, ⟨_, .ty _, _, _, false, rfl, .ty _, .base (.int c), kit_ty (by decide +kernel), _, rfl, iteF ?_⟩⟩⟩
        refine ⟨_, rfl, ⟨_, .ty _, _, _, true, rfl, .ty _, .base (.int c), kit_ty (by decide +kernel), _, rfl, iteT ?_⟩⟩
        refine ⟨_, rfl, ⟨_, .ty _, _, _, true, rfl, .ty _, .base (.int c), kit_ty (by decide +kernel), _, rfl, iteT ⟨_, rfl, ⟨_, .ty _, _, _, false, rfl, .ty _, .base (.int c), kit_ty (by decide +kernel), _, rfl, _, rfl, ?_⟩⟩⟩⟩
        refine iteT ⟨_, rfl, _, rfl, rfl, ?_⟩
        rw [decide_eq_true rfl]
        exact kk
      | str c =>
        obtain rfl := hv.str_eq
        obtain rfl := hu.str_eq
        refine ⟨_, rfl, rfl, _, rfl, iteF ⟨_, rfl, ⟨_, .ty _, _, _, false, rfl, .ty _, .base (.str c), kit_ty (by decide +kernel), _, rfl, iteF ?_⟩⟩⟩
        refine ⟨_, rfl, ⟨_, .ty _, _, _, false, rfl, .ty _, .base (.str c), kit_ty (by decide +kernel), _, rfl, iteF ?_⟩⟩
        refine ⟨_, rfl, ⟨_, .ty _, _, _, true, rfl, .ty _, .base (.str c), kit_ty (by decide +kernel), _, rfl, iteT ?_⟩⟩
        refine ⟨_, rfl, ⟨_, .ty _, _, _, true, rfl, .ty _, .base (.str c), kit_ty (by decide +kernel), _, rfl, iteT ⟨_, rfl, _, rfl, rfl, ?_⟩⟩⟩
        rw [decide_eq_true rfl]
        exact kk
      | dict kvs => cases hv
      | list ds =>
        obtain ⟨a, xs, rfl, _, ha, hx⟩ := hv.lst_ex
        obtain ⟨b, ys, rfl, _, hb, hy⟩ := hu.lst_ex
        have lx := hx.len
        have ly := hy.len
        have wl := weight_len ds
        simp only [PyData.weight] at hwt
        simp only [PyData.depth] at hdep
        refine ⟨_, rfl, rfl, _, rfl, iteF ⟨_, rfl, ⟨_, .ty _, _, _, false, rfl, .ty _, .base (.lst hb), kit_ty (by decide +kernel), _, rfl, iteF ?_⟩⟩⟩
        refine ⟨_, rfl, ⟨_, .ty _, _, _, false, rfl, .ty _, .base (.lst hb), kit_ty (by decide +kernel), _, rfl, iteF ?_⟩⟩
        refine ⟨_, rfl, ⟨_, .ty _, _, _, false, rfl, .ty _, .base (.lst hb), kit_ty (by decide +kernel), _, rfl, iteF ?_⟩⟩
        refine ⟨_, rfl, ⟨_, .ty _, _, _, false, rfl, .ty _, .base (.lst hb), kit_ty (by decide +kernel), _, rfl, ⟨_, .ty _, _, _, false, rfl, .ty _, .base (.lst ha), kit_ty (by decide +kernel), rfl, _, rfl, iteF ?_⟩⟩⟩
        refine ⟨_, rfl, ⟨_, .ty _, _, _, true, rfl, .ty _, .base (.lst hb), kit_ty (by decide +kernel), _, rfl, ⟨_, .ty _, _, _, true, rfl, .ty _, .base (.lst ha), kit_ty (by decide +kernel), rfl, _, rfl, iteF ?_⟩⟩⟩
        refine ⟨_, rfl, a, xs, rfl, .inl (SqL.of ha), _, rfl, b, ys, rfl, .inl (SqL.of hb), rfl, _, rfl, ?_⟩
        refine iteNS (by rw [lx, ly]) ?_
        refine ⟨_, rfl, b, ys, rfl, .inl (SqL.of hb), _, rfl, by omega, by omega, for_range (fun i σ' H' => ∃ o : Option V, σ' = [some (.ref a), some (.ref b), o] ∧ Kp N0 H H') ⟨none, rfl, Kp.refl⟩ (fun i σ' H' hi ⟨o, es, k1⟩ => ?_) fun σ' H' ⟨o, es, k1⟩ => k H' k1⟩
        subst es
        have hi2 : i < ds.length := by rw [← ly]; simpa using hi
        have hd2 : ds[i]? = some ds[i] := List.getElem?_eq_getElem hi2
        obtain ⟨x, hx1, hx2⟩ := hx.at' hd2
        obtain ⟨y, hy1, hy2⟩ := hy.at' hd2
        obtain ⟨w1, w2⟩ := weight_at hd2
        refine ⟨_, rfl, _, rfl, .inl ⟨a, xs, _, x, rfl, rfl, SqL.of (k1.obj ha ntl nn), at_of (Int.zero_add _) hx1, ?_⟩⟩
        refine ⟨_, rfl, _, rfl, .inl ⟨b, ys, _, y, rfl, rfl, SqL.of (k1.obj hb ntl nn), at_of (Int.zero_add _) hy1, ?_⟩⟩
        exact ⟨x, y, _, rfl, hx2.kp k1, hy2.kp k1, by omega, by omega, fun H2 k2 => ⟨_, rfl, iteF ⟨_, rfl, k1.trans k2⟩⟩⟩
      | tuple ds =>
        obtain ⟨a, xs, rfl, _, ha, hx⟩ := hv.tup_ex
        obtain ⟨b, ys, rfl, _, hb, hy⟩ := hu.tup_ex
        have lx := hx.len
        have ly := hy.len
        have wl := weight_len ds
        simp only [PyData.weight] at hwt
        simp only [PyData.depth] at hdep
        refine ⟨_, rfl, rfl, _, rfl, iteF ⟨_, rfl, ⟨_, .ty _, _, _, false, rfl, .ty _, .base (.tup hb), kit_ty (by decide +kernel), _, rfl, iteF ?_⟩⟩⟩
        refine ⟨_, rfl, ⟨_, .ty _, _, _, false, rfl, .ty _, .base (.tup hb), kit_ty (by decide +kernel), _, rfl, iteF ?_⟩⟩
        refine ⟨_, rfl, ⟨_, .ty _, _, _, false, rfl, .ty _, .base (.tup hb), kit_ty (by decide +kernel), _, rfl, iteF ?_⟩⟩
        refine ⟨_, rfl, ⟨_, .ty _, _, _, true, rfl, .ty _, .base (.tup hb), kit_ty (by decide +kernel), _, rfl, ⟨_, .ty _, _, _, true, rfl, .ty _, .base (.tup ha), kit_ty (by decide +kernel), rfl, _, rfl, iteF ?_⟩⟩⟩
        refine ⟨_, rfl, ⟨_, .ty _, _, _, false, rfl, .ty _, .base (.tup hb), kit_ty (by decide +kernel), _, rfl, ⟨_, .ty _, _, _, false, rfl, .ty _, .base (.tup ha), kit_ty (by decide +kernel), rfl, _, rfl, iteF ?_⟩⟩⟩
        refine ⟨_, rfl, a, xs, rfl, .inr (SqT.of ha), _, rfl, b, ys, rfl, .inr (SqT.of hb), rfl, _, rfl, ?_⟩
        refine iteNS (by rw [lx, ly]) ?_
        refine ⟨_, rfl, b, ys, rfl, .inr (SqT.of hb), _, rfl, by omega, by omega, for_range (fun i σ' H' => ∃ o : Option V, σ' = [some (.ref a), some (.ref b), o] ∧ Kp N0 H H') ⟨none, rfl, Kp.refl⟩ (fun i σ' H' hi ⟨o, es, k1⟩ => ?_) fun σ' H' ⟨o, es, k1⟩ => k H' k1⟩
        subst es
        have hi2 : i < ds.length := by rw [← ly]; simpa using hi
        have hd2 : ds[i]? = some ds[i] := List.getElem?_eq_getElem hi2
        obtain ⟨x, hx1, hx2⟩ := hx.at' hd2
        obtain ⟨y, hy1, hy2⟩ := hy.at' hd2
        obtain ⟨w1, w2⟩ := weight_at hd2
        refine ⟨_, rfl, _, rfl, .inr (.inl ⟨a, xs, _, x, rfl, rfl, SqT.of (k1.obj ha ntt nn), at_of (Int.zero_add _) hx1, ?_⟩)⟩
        refine ⟨_, rfl, _, rfl, .inr (.inl ⟨b, ys, _, y, rfl, rfl, SqT.of (k1.obj hb ntt nn), at_of (Int.zero_add _) hy1, ?_⟩)⟩
        exact ⟨x, y, _, rfl, hx2.kp k1, hy2.kp k1, by omega, by omega, fun H2 k2 => ⟨_, rfl, iteF ⟨_, rfl, k1.trans k2⟩⟩⟩
end
end Fc
set_option maxHeartbeats 4000000
/-! Words mostly in a row. -/
namespace Fc
open PySem PySem.Spec PyProof.Rows L2
def wn (k : Nat) : Str := "w" ++ (⟨#[97 + k / 8]⟩ : Str) ++ (⟨#[97 + k % 8]⟩ : Str)
theorem abc8_at : ∀ k < 8, ("abcdefgh" : Str).cps[k]? = some (97 + k) := by decide
theorem abc8_len : (("abcdefgh" : Str).length : Nat) = 8 := by decide
theorem wn_ok : ∀ k < 42, PyData.strOk (wn k) = true ∧ (wn k).cps.size ≤ 1000 := by decide +kernel
def wnL (n : Nat) : List Str := (List.range n).map wn
theorem wnL_at {n i : Nat} (h : i < n) : (wnL n)[i]? = some (wn i) := by
  unfold wnL
  rw [List.getElem?_map, List.getElem?_range h]
  rfl
theorem wnL_len (n : Nat) : (wnL n).length = n := by unfold wnL; rw [List.length_map, List.length_range]
/-- cards of such words -/
def OfW (n : Nat) (cs : List P2) : Prop := ∀ c ∈ cs, (∃ i, i < n ∧ c.1 = wn i) ∧ ∃ i, i < n ∧ c.2 = wn i
theorem OfW.snoc {n : Nat} {cs : List P2} {i j : Nat} (h : OfW n cs) (hi : i < n) (hj : j < n) : OfW n (cs ++ [(wn i, wn j)]) := fun c hc => by
  rcases List.mem_append.mp hc with z | z
  · exact h c z
  · rw [List.mem_singleton.mp z]
    exact ⟨⟨i, hi, rfl⟩, ⟨j, hj, rfl⟩⟩
theorem OfW.turn {n : Nat} {cs : List P2} (h : OfW n cs) (m : Nat) : OfW n (cs.drop m ++ cs.take m) := fun c hc => by
  rcases List.mem_append.mp hc with z | z
  · exact h c (List.mem_of_mem_drop z)
  · exact h c (List.mem_of_mem_take z)
theorem DnA.dropT {S : Addr → Prop} {H : Hp} : ∀ {xs : List V} {ds : List PyData} (m : Nat), DnA S H xs ds → DnA S H (xs.drop m) (ds.drop m)
  | _, _, 0, h => h
  | _, _, _ + 1, .nil => .nil
  | _, _, m + 1, .cons _ t => DnA.dropT m t
theorem DnA.takeT {S : Addr → Prop} {H : Hp} : ∀ {xs : List V} {ds : List PyData} (m : Nat), DnA S H xs ds → DnA S H (xs.take m) (ds.take m)
  | _, _, 0, _ => by
    rw [List.take_zero, List.take_zero]
    exact .nil
  | _, _, _ + 1, .nil => .nil
  | _, _, m + 1, .cons h t => .cons h (DnA.takeT m t)
/-- what is told of cards: small data -/
theorem come_weight {cs : List P2} {h : Str} (lc : cs.length ≤ 500) (hh : h.cps.size ≤ 1000) (hc : ∀ c ∈ cs, c.2.cps.size ≤ 1000) : PyData.weight (.list ((comeM cs h).map PyData.str)) ≤ 1000000 := by
  have z := weightS (comeM cs h) fun x hx => by
    have g := comeM_mem.mp hx
    cases g with
    | here => exact hh
    | on _ hm => exact hc _ hm
  have l := comeM_len cs h
  simp only [PyData.weight]
  omega
/-- _law_far(box) -/
def spFar : Sp := fun vs H Q _ => ∃ b l : Addr, vs = [.ref b] ∧ Box H b l ∧ ∀ H', Q (.bl true) H'
end Fc
set_option maxHeartbeats 4000000
namespace Fc
open PySem PySem.Spec PyProof.Rows L2
section
variable {P : Program} {w : World} {K : PySem.W.Frag} {mg : Str → Option Value} {base : Heap}
theorem scFar : FnScope ["_law_box", "_law_k", "_law_words", "_law_cards", "_law_turn", "_law_word"] ["_law_box"] (defScope sFar) := ⟨rfl, rfl, rfl, by decide +kernel, rfl, by decide +kernel, by decide +kernel⟩
theorem ok_far (D : DefAt K mg "_law_far" sFar) (C1 : C8.Cal P w K mg base 1 "_law_take" spTake []) (C2 : C8.Cal P w K mg base 1 "come_to" spCome []) (C3 : C8.Cal P w K mg base 1 "_law_reach" spReachL []) (C4 : C8.Cal P w K mg base 5 "_law_alike" (spAlike 4) []) (gR : mg "range" = none) (gL : mg "len" = none) : C8.Cal P w K mg base 6 "_law_far" spFar [] := by
  refine cal_mk D scFar (fun vs H Q E h => ?_) (fun _ _ _ _ _ _ us hl => match us, hl with | [_], _ => rfl) (fun A outer s H vs Q E hr h => ?_)
  · obtain ⟨b, l, rfl, _⟩ := h
    rfl
  · obtain ⟨b, l, rfl, hB, k⟩ := h
    refine ⟨_, pss_cons (ps_setLc (i := 2) (own := [("_law_k", 1)]) (g := gName 1) (tt := tYes) rfl scFar.nd rfl rfl (sw_true rfl rfl rfl (by decide +kernel)) (pi_range1 (by rfl) gR (pa_cons (pe_op op_add pe_int (C8.pe_c C1 hr (by decide) rfl (pa_cons (pv 0) (pa_cons pe_int pa_nil)))) pa_nil)) (blkOk_by (N := ["_law_box", "_law_k", "_law_words", "_law_cards", "_law_turn", "_law_word"]) (sc := defScope sFar) (by decide +kernel)) (fun _ _ _ _ _ => pg_name (i := 1) scFar.nd rfl (Or.inl rfl)) (fun _ _ _ _ _ => pts_nil)
          (fun _ _ _ _ _ => pe_op op_add_str (pe_op op_add_str pe_str (pe_item_str pe_str (pe_op op_fdiv (pv 1) pe_int) (fun _ _ => rfl))) (pe_item_str pe_str (pe_op op_mod (pv 1) pe_int) (fun _ _ => rfl))))
      (pss_cons (ps_set (i := 3) scFar.nd rfl (Or.inl rfl) (pe_lst pa_nil))
      (pss_cons (ps_for PassesOwn.never rfl (pi_range1 (by rfl) gR (pa_cons (pe_op op_sub (pe_callB call_len_seq (by rfl) gL PySem.boot_len (pa_cons (pv 2) pa_nil)) pe_int) pa_nil)) (pg_name (i := 1) scFar.nd rfl (Or.inl rfl))
        (pss_one (ps_if (pt_cmpR op_gt (C8.pe_c C1 hr (by decide) rfl (pa_cons (pv 0) (pa_cons pe_int pa_nil))) pe_int (nomark _))
          (pss_one (ps_expr (pe_bm PySem.F.plainAttrs_list PySem.F.slot_list_append PySem.F.type_list_append mt_append (pv 3) (pa_cons (pe_tup (pa_cons (pe_ix ix_list (pv 2) (pv 1) (fun _ _ => rfl)) (pa_cons (pe_ix ix_list (pv 2) (pe_op op_add (pv 1) pe_int) (fun _ _ => rfl)) pa_nil))) pa_nil)))) pss_nil)))
      (pss_cons (ps_for PassesOwn.never rfl (pi_range1 (by rfl) gR (pa_cons (C8.pe_c C1 hr (by decide) rfl (pa_cons (pv 0) (pa_cons pe_int pa_nil))) pa_nil)) (pg_name (i := 4) scFar.nd rfl (Or.inl rfl))
        (pss_one (ps_expr (pe_bm PySem.F.plainAttrs_list PySem.F.slot_list_append PySem.F.type_list_append mt_append (pv 3) (pa_cons (pe_tup (pa_cons (pe_ix ix_list (pv 2) (C8.pe_c C1 hr (by decide) rfl (pa_cons (pv 0) (pa_cons (pe_callB call_len_seq (by rfl) gL PySem.boot_len (pa_cons (pv 2) pa_nil)) pa_nil))) (fun _ _ => rfl)) (pa_cons (pe_ix ix_list (pv 2) (C8.pe_c C1 hr (by decide) rfl (pa_cons (pv 0) (pa_cons (pe_callB call_len_seq (by rfl) gL PySem.boot_len (pa_cons (pv 2) pa_nil)) pa_nil))) (fun _ _ => rfl)) pa_nil))) pa_nil)))))
      (pss_cons (ps_set (i := 3) scFar.nd rfl (Or.inl rfl) (pe_op op_cat (pe_slice sl_list (pv 3) (po_some (pe_op op_fdiv (pe_callB call_len_seq (by rfl) gL PySem.boot_len (pa_cons (pv 3) pa_nil)) pe_int)) po_none) (pe_slice sl_list (pv 3) po_none (po_some (pe_op op_fdiv (pe_callB call_len_seq (by rfl) gL PySem.boot_len (pa_cons (pv 3) pa_nil)) pe_int)))))
      (pss_cons (ps_set (i := 5) scFar.nd rfl (Or.inl rfl) (pe_ix ix_list (pv 2) (pe_op op_mod (C8.pe_c C1 hr (by decide) rfl (pa_cons (pv 0) (pa_cons pe_int pa_nil))) (pe_callB call_len_seq (by rfl) gL PySem.boot_len (pa_cons (pv 2) pa_nil))) (fun _ _ => rfl)))
      (pss_one (ps_ret (C8.pe_c C4 hr (by decide) rfl (pa_cons (C8.pe_c C2 hr (by decide) rfl (pa_cons (pv 3) (pa_cons (pv 5) pa_nil))) (pa_cons (C8.pe_c C3 hr (by decide) rfl (pa_cons (pv 3) (pa_cons (pv 5) pa_nil))) pa_nil)))))))))), ?_⟩
    have sz : ∀ n : Nat, n ≤ 1000 → n ≤ sizeLine := fun n h => by rw [sizeLine_eq]; omega
    refine ⟨_, rfl, b, l, 40, rfl, hB, by decide, by decide, fun r H1 r0 r1 hB1 k1 => ⟨_, _, rfl, rfl, 2 + r, rfl, by omega, by omega, fun W fW => ?_⟩⟩
    obtain ⟨n, en, n2, n41⟩ : ∃ n : Nat, (2 + r).toNat = n ∧ 2 ≤ n ∧ n ≤ 41 := ⟨_, rfl, by omega, by omega⟩
    rw [en]
    refine lc_gen walk_range (List.range n) (by simp) (fun _ => true) (fun i => PyData.str (wn i)) N0 (fun _ z => z.elim) fW (by omega) (fun _ _ => trivial) (fun i q x H9 H10 hq k9 y Kt kt => ?_) fun H2 out k2 aW hdn => ?_
    · obtain ⟨rfl, rfl⟩ := y
      have hin : i < n := by
        have z := (List.getElem?_eq_some_iff.mp hq).1
        simpa using z
      have eq : i = q := by
        have z := (List.getElem?_eq_some_iff.mp hq).2
        simpa using z
      subst eq
      refine kt _ _ Kp.refl rfl (fun Q2 q2 => q2 _ Kp.refl) (fun _ H11 k11 S' _ _ Q2 q2 => ?_)
      have d1 : ((0 : Int) + (i : Nat)) / 8 = ((i / 8 : Nat) : Int) := by omega
      have d2 : ((0 : Int) + (i : Nat)) % 8 = ((i % 8 : Nat) : Int) := by omega
      refine ⟨_, rfl, _, _, rfl, rfl, ⟨by decide, by decide⟩, ?_⟩
      refine ⟨"abcdefgh", _, 97 + i / 8, rfl, rfl, by omega, by omega, by rw [d1, abc8_len]; omega, by rw [d1, Int.toNat_natCast]; exact abc8_at _ (by omega), ?_⟩
      refine ⟨_, _, rfl, rfl, sz _ (by rw [len_cps, len_cps]; show 1 + 1 ≤ 1000; decide), ?_⟩
      refine ⟨_, rfl, _, _, rfl, rfl, (by show (0 : Int) < 8; decide), ?_⟩
      refine ⟨"abcdefgh", _, 97 + i % 8, rfl, rfl, by omega, by omega, by rw [d2, abc8_len]; omega, by rw [d2, Int.toNat_natCast]; exact abc8_at _ (by omega), ?_⟩
      exact ⟨_, _, rfl, rfl, sz _ (by rw [len_cps, len_cps, add_cps, List.length_append]; show 1 + 1 + 1 ≤ 1000; decide), q2 _ _ Kp.refl (.str _)⟩
    rw [List.filter_eq_self.mpr fun _ _ => rfl] at hdn
    have eo : out = (wnL n).map V.str := DnA.strs_eq (xs := wnL n) (by unfold wnL; rw [List.map_map]; exact hdn)
    subst eo
    have fW0 : H W = none := k1.fresh fW
    have sW : ¬ sB b l W := fun z => hB.on _ z fW0
    have hB2 := hB1.kp k2
    have lw : ((wnL n).map V.str).length = n := by rw [List.length_map, wnL_len]
    have watt : ∀ i, i < n → ((wnL n).map V.str)[i]? = some (V.str (wn i)) := fun i h => by rw [List.getElem?_map, wnL_at h]; rfl
    have k2' : Kp (sB b l) H H2 := k1.trans k2.up
    clear k1 k2 hdn hB1
    refine ⟨Nat.zero_le _, fun F fF => ?_⟩
    have fF0 : H F = none := k2'.fresh fF
    have sF : ¬ sB b l F := fun z => hB.on _ z fF0
    have FW : F ≠ W := fun e => by rw [e, aW] at fF; cases fF
    have hB3 := hB2.upd (o := .lst []) sF
    have k3 : Kp (sB b l) H (upd H2 F (.lst [])) := k2'.trans (Kp.new fF)
    have aW3 : (upd H2 F (.lst [])) W = some (.lst ((wnL n).map V.str)) := by rw [upd_ne FW.symm]; exact aW
    have aF3 : (upd H2 F (.lst [])) F = some (.lst []) := upd_same
    generalize upd H2 F (.lst []) = H3 at hB3 k3 aW3 aF3 ⊢
    clear hB2 k2' aW fF
    refine ⟨_, rfl, W, _, rfl, .inl (SqL.of aW3), _, _, rfl, rfl, _, rfl, by rw [lw]; omega, by rw [lw]; omega, ?_⟩
    have en2 : ((((wnL n).map V.str).length : Int) - 1).toNat = n - 1 := by rw [lw]; omega
    rw [en2]
    -- a card is put in
    have put : ∀ (H' H4 : Hp) (cs : List P2) (xs : List V) (i j : Nat) (U : Addr), i < n → j < n → Box H' b l → Kp (sB b l) H H' → H' W = some (.lst ((wnL n).map V.str)) → H' F = some (.lst xs) → DnA (sD (sB b l) F) H' xs (cs.map paperD) → Box H4 b l → Kp (sB b l) H' H4 → H4 U = none →
        (upd H4 U (.tup [.str (wn i), .str (wn j)])) F = some (.lst xs) ∧ Box (upd (upd H4 U (.tup [.str (wn i), .str (wn j)])) F (.lst (xs ++ [.ref U]))) b l ∧ Kp (sB b l) H (upd (upd H4 U (.tup [.str (wn i), .str (wn j)])) F (.lst (xs ++ [.ref U]))) ∧ (upd (upd H4 U (.tup [.str (wn i), .str (wn j)])) F (.lst (xs ++ [.ref U]))) W = some (.lst ((wnL n).map V.str)) ∧
        (upd (upd H4 U (.tup [.str (wn i), .str (wn j)])) F (.lst (xs ++ [.ref U]))) F = some (.lst (xs ++ [.ref U])) ∧ DnA (sD (sB b l) F) (upd (upd H4 U (.tup [.str (wn i), .str (wn j)])) F (.lst (xs ++ [.ref U]))) (xs ++ [.ref U]) ((cs ++ [(wn i, wn j)]).map paperD) := by
      intro H' H4 cs xs i j U hi hj hB' k' aW' aF' dn hB4 k4 fU
      have fU' : H' U = none := k4.fresh fU
      have kU : Kp (sB b l) H' (upd H4 U (.tup [.str (wn i), .str (wn j)])) := k4.trans (Kp.new fU)
      have aU : (upd H4 U (.tup [.str (wn i), .str (wn j)])) U = some (.tup [.str (wn i), .str (wn j)]) := upd_same
      have hBU := hB4.upd (o := .tup [.str (wn i), .str (wn j)]) (p := U) fun z => hB'.on _ z fU'
      generalize upd H4 U (.tup [.str (wn i), .str (wn j)]) = H5 at kU aU hBU ⊢
      have aF5 := kU.obj aF' ntl sF
      have UF : U ≠ F := fun e => by rw [e, aF'] at fU'; cases fU'
      have kF : Kp (sD (sB b l) F) H' (upd H5 F (.lst (xs ++ [.ref U]))) := (kU.mono fun a z => .inl z).trans (Kp.mutS (.inr rfl) aF5 ntl ntl)
      refine ⟨aF5, hBU.upd sF, (k'.trans kU).mut fF0, by rw [upd_ne FW.symm]; exact kU.obj aW' ntl sW, upd_same, ?_⟩
      rw [List.map_append]
      exact (dn.kp kF).app (.one (.tup (fun z => by
        rcases z with z | z
        · exact hB'.on _ z fU'
        · exact UF z) (by rw [upd_ne UF]; exact aU) (DnA.strs [wn i, wn j])))
    refine for_range (fun i σ' H' => ∃ (cs : List P2) (xs : List V) (o1 : Option V), σ' = [some (.ref b), o1, some (.ref W), some (.ref F), none, none] ∧ Box H' b l ∧ Kp (sB b l) H H' ∧ H' W = some (.lst ((wnL n).map V.str)) ∧ H' F = some (.lst xs) ∧ DnA (sD (sB b l) F) H' xs (cs.map paperD) ∧ OfW n cs ∧ cs.length ≤ i)
      ⟨[], [], _, rfl, hB3, k3, aW3, aF3, .nil, (fun c z => nomatch z), Nat.le_refl _⟩ (fun i σ' H' hi ⟨cs, xs, o1, es, hB', k', aW', aF', dn, ow, lc⟩ => ?_) fun σ' H' ⟨cs, xs, o1, es, hB', k', aW', aF', dn, ow, lc⟩ => ?_
    · subst es
      have lx : xs.length = cs.length := by rw [dn.len, List.length_map]
      refine ⟨_, rfl, b, l, 12, rfl, hB', by decide, by decide, fun r4 H4 q0 q1 hB4 k4 => ⟨_, _, rfl, rfl, _, rfl, ite2 (fun c => ?_) fun c => ?_⟩⟩
      · have aF4 := k4.obj aF' ntl sF
        have aW4 := k4.obj aW' ntl sW
        have e0 : ((0 : Int) + (i : Nat)) = ((i : Nat) : Int) := by omega
        refine ⟨_, rfl, .inl ⟨rfl, _, SqL.of aF4⟩, _, rfl, _, rfl, W, _, _, _, rfl, congrArg V.int e0, SqL.of aW4, atI_nat (watt i (by omega)), _, rfl, _, rfl, _, _, rfl, rfl, ?_⟩
        refine ⟨W, _, ((i + 1 : Nat) : Int), _, rfl, congrArg V.int (by omega), SqL.of aW4, atI_nat (watt (i + 1) (by omega)), sz 2 (by decide), fun U fU => ?_⟩
        obtain ⟨z1, z2, z3, z4, z5, z6⟩ := put H' H4 cs xs i (i + 1) U (by omega) (by omega) hB' k' aW' aF' dn hB4 k4 fU
        exact ⟨F, xs, _, rfl, rfl, z1, by rw [sizeLine_eq]; omega, cs ++ [(wn i, wn (i + 1))], xs ++ [.ref U], _, rfl, z2, z3, z4, z5, z6, ow.snoc (by omega) (by omega), by rw [List.length_append]; exact Nat.succ_le_succ lc⟩
      · exact ⟨cs, xs, _, rfl, hB4, k'.trans k4, k4.obj aW' ntl sW, k4.obj aF' ntl sF, dn.kp (k4.mono fun a z => .inl z), ow, by omega⟩
    · subst es
      refine ⟨_, rfl, b, l, 6, rfl, hB', by decide, by decide, fun r5 H5 q0 q1 hB5 k5 => ⟨r5, rfl, by omega, by omega, for_range (fun i σ' H' => ∃ (cs : List P2) (xs : List V) (o1 o4 : Option V), σ' = [some (.ref b), o1, some (.ref W), some (.ref F), o4, none] ∧ Box H' b l ∧ Kp (sB b l) H H' ∧ H' W = some (.lst ((wnL n).map V.str)) ∧ H' F = some (.lst xs) ∧ DnA (sD (sB b l) F) H' xs (cs.map paperD) ∧ OfW n cs ∧ cs.length ≤ 41 + i)
        ⟨cs, xs, _, _, rfl, hB5, k'.trans k5, k5.obj aW' ntl sW, k5.obj aF' ntl sF, dn.kp (k5.mono fun a z => .inl z), ow, by omega⟩ (fun i σ' H' hi ⟨cs, xs, o1, o4, es, hB', k', aW', aF', dn, ow, lc⟩ => ?_) fun σ' H' ⟨cs, xs, o1, o4, es, hB', k', aW', aF', dn, ow, lc⟩ => ?_⟩⟩
      · subst es
        have lx : xs.length = cs.length := by rw [dn.len, List.length_map]
        refine ⟨_, rfl, .inl ⟨rfl, _, SqL.of aF'⟩, _, rfl, _, rfl, _, rfl, W, _, rfl, .inl (SqL.of aW'), b, l, _, rfl, hB', by rw [lw]; omega, by rw [lw]; omega, fun r6 H6 q2 q3 hB6 k6 => ?_⟩
        rw [lw] at q3
        have aW6 := k6.obj aW' ntl sW
        refine ⟨W, _, r6, _, rfl, rfl, SqL.of aW6, at_of (by omega) (watt r6.toNat (by omega)), ?_⟩
        refine ⟨_, rfl, _, rfl, _, rfl, W, _, rfl, .inl (SqL.of aW6), b, l, _, rfl, hB6, by rw [lw]; omega, by rw [lw]; omega, fun r7 H7 q4 q5 hB7 k7 => ?_⟩
        rw [lw] at q5
        have aW7 := k7.obj aW6 ntl sW
        refine ⟨W, _, r7, _, rfl, rfl, SqL.of aW7, at_of (by omega) (watt r7.toNat (by omega)), sz 2 (by decide), fun U fU => ?_⟩
        obtain ⟨z1, z2, z3, z4, z5, z6⟩ := put H' H7 cs xs r6.toNat r7.toNat U (by omega) (by omega) hB' k' aW' aF' dn hB7 (k6.trans k7) fU
        exact ⟨F, xs, _, rfl, rfl, z1, by rw [sizeLine_eq]; omega, cs ++ [(wn r6.toNat, wn r7.toNat)], xs ++ [.ref U], _, _, rfl, z2, z3, z4, z5, z6, ow.snoc (by omega) (by omega), by rw [List.length_append]; show _ + 1 ≤ _; omega⟩
      · subst es
        have lx : xs.length = cs.length := by rw [dn.len, List.length_map]
        have lc2 : cs.length ≤ 46 := by omega
        -- the latter half ahead
        refine ⟨_, rfl, _, rfl, F, _, rfl, .inl (SqL.of aF'), _, _, rfl, rfl, ⟨by decide, by decide⟩, _, rfl, F, xs, rfl, SqL.of aF', fun A fA => ?_⟩
        have eh : ((xs.length : Nat) : Int) / 2 = ((cs.length / 2 : Nat) : Int) := by rw [lx]; omega
        rw [eh, cutV_drop _ (by omega), Int.toNat_natCast]
        have aF2 := (Kp.new (S := N0) (o := .lst (xs.drop (cs.length / 2))) fA).obj aF' ntl nn
        refine ⟨_, rfl, _, rfl, F, _, rfl, .inl (SqL.of aF2), _, _, rfl, rfl, ⟨by decide, by decide⟩, _, rfl, F, xs, rfl, SqL.of aF2, fun B fB => ?_⟩
        rw [eh, cutV_take _ (by omega), Int.toNat_natCast]
        have kB : Kp N0 H' (upd (upd H' A (.lst (xs.drop (cs.length / 2)))) B (.lst (xs.take (cs.length / 2)))) := (Kp.new fA).trans (Kp.new fB)
        have aA : (upd (upd H' A (.lst (xs.drop (cs.length / 2)))) B (.lst (xs.take (cs.length / 2)))) A = some (.lst (xs.drop (cs.length / 2))) := by rw [upd_ne (ne_of_none upd_same fB)]; exact upd_same
        have aB : (upd (upd H' A (.lst (xs.drop (cs.length / 2)))) B (.lst (xs.take (cs.length / 2)))) B = some (.lst (xs.take (cs.length / 2))) := upd_same
        generalize upd (upd H' A (.lst (xs.drop (cs.length / 2)))) B (.lst (xs.take (cs.length / 2))) = H6 at kB aA aB ⊢
        refine ⟨A, B, _, _, rfl, rfl, aA, aB, by rw [List.length_drop, List.length_take, sizeLine_eq]; omega, fun C fC => ?_⟩
        have d0 : DnA N0 H' xs (cs.map paperD) := dn.weak fun _ z => z.elim
        have d6 : DnA N0 H6 (xs.drop (cs.length / 2) ++ xs.take (cs.length / 2)) ((cs.drop (cs.length / 2) ++ cs.take (cs.length / 2)).map paperD) := by
          rw [List.map_append, List.map_drop, List.map_take]
          exact ((d0.kp kB).dropT _).app ((d0.kp kB).takeT _)
        have ow2 := ow.turn (cs.length / 2)
        have lc3 : (cs.drop (cs.length / 2) ++ cs.take (cs.length / 2)).length ≤ 46 := by rw [List.length_append, List.length_drop, List.length_take]; omega
        generalize cs.drop (cs.length / 2) ++ cs.take (cs.length / 2) = cz at d6 ow2 lc3
        have k7 : Kp N0 H' (upd H6 C (.lst (xs.drop (cs.length / 2) ++ xs.take (cs.length / 2)))) := kB.trans (Kp.new fC)
        have dC : Dn N0 (upd H6 C (.lst (xs.drop (cs.length / 2) ++ xs.take (cs.length / 2)))) (.ref C) (papersD cz) := .lst nn upd_same (d6.kp (Kp.new fC))
        have hB7 := hB'.kp k7
        have aW7 := k7.obj aW' ntl nn
        generalize upd H6 C (.lst (xs.drop (cs.length / 2) ++ xs.take (cs.length / 2))) = H7 at k7 dC hB7 aW7 ⊢
        refine ⟨_, rfl, _, rfl, b, l, 3, rfl, hB7, by decide, by decide, fun r8 H8 q0 q1 hB8 k8 => ?_⟩
        have aW8 := k8.obj aW7 ntl sW
        obtain ⟨u, rfl⟩ : ∃ u : Nat, r8 = (u : Int) := ⟨r8.toNat, by omega⟩
        have em : ((u : Nat) : Int) % (((wnL n).map V.str).length : Nat) = ((u % n : Nat) : Int) := by rw [lw]; exact (Int.natCast_emod u n).symm
        have lt : u % n < n := Nat.mod_lt _ (by omega)
        refine ⟨_, rfl, W, _, rfl, .inl (SqL.of aW8), _, _, rfl, rfl, by rw [lw]; omega, W, _, ((u % n : Nat) : Int), _, rfl, congrArg V.int em, SqL.of aW8, atI_nat (watt _ lt), ?_⟩
        have dC8 : Dn N0 H8 (.ref C) (papersD cz) := by
          obtain ⟨_, ws, e, _, aC, dc⟩ := dC.lst_ex
          cases e
          have off : ∀ a, sB b l a → ∃ xs, H7 a = some (.lst xs) := fun a z => hB7.lsts a z
          have fC0 : H' C = none := kB.fresh fC
          exact .lst nn (k8.obj aC ntl fun z => hB'.on _ z fC0) (((pairs_off off dc).kp k8).weak fun _ z => z.elim)
        have okw := wn_ok (u % n) (by omega)
        have okc : ∀ c ∈ cz, PyData.strOk c.2 = true ∧ c.2.cps.size ≤ 1000 := fun c hc => by
          obtain ⟨_, i, hi, e⟩ := ow2 c hc
          rw [e]
          exact wn_ok i (by omega)
        refine ⟨_, rfl, _, rfl, .ref C, cz, wn (u % n), rfl, dC8, by omega, fun p H9 hp k9 a9 => ?_⟩
        refine ⟨_, rfl, _, rfl, .ref C, cz, wn (u % n), rfl, dC8.kp k9, by omega, okw.1, fun c hc => (okc c hc).1, fun q H10 hq k10 a10 => ?_⟩
        have wt := come_weight (h := wn (u % n)) (cs := cz) (by omega) okw.2 fun c hc => (okc c hc).2
        exact ⟨_, _, .list ((comeM cz (wn (u % n))).map PyData.str), rfl, .lst nn (k10.obj a9 ntl nn) (DnA.strs _), .lst nn a10 (DnA.strs _), by simp only [PyData.depth]; rw [depthS]; decide, wt, fun H11 k11 => k H11⟩
end
end Fc
set_option maxHeartbeats 4000000
/-! Cards of heads of a rule. -/
namespace Fc
open PySem PySem.Spec PyProof.Rows L2
theorem head_small {rs : List Row} (hg : GoodR rs) {x : Str} (hx : x ∈ ruleHeadsM rs) : PyData.strOk x = true ∧ x.cps.size ≤ 8 := by
  rcases List.mem_append.mp ((riseS_mem x _).mp hx) with z | z
  · obtain ⟨r, hr, e⟩ := List.mem_map.mp z
    rw [← e]
    have row := hg.row r hr
    have l := (isRowM_len row).1
    have e2 : r.1.length = r.1.cps.size := rfl
    exact ⟨isRowM_ok row, by omega⟩
  · rw [List.mem_singleton.mp z]
    exact ⟨by decide +kernel, by decide +kernel⟩
/-- cards of these heads -/
def OfH (rs : List Row) (cs : List P2) : Prop := ∀ c ∈ cs, c.1 ∈ ruleHeadsM rs ∧ c.2 ∈ ruleHeadsM rs
theorem OfH.app {rs : List Row} {cs ds : List P2} (h : OfH rs cs) (k : OfH rs ds) : OfH rs (cs ++ ds) := fun c hc => (List.mem_append.mp hc).elim (h c) (k c)
theorem needed_of (rs : List Row) (ps : List P2) : OfH rs (neededM rs ps) := fun c hc => ⟨rule_head_in (needed_from hc).2.1, rule_head_in (needed_from hc).2.2⟩
theorem pairs_wt : ∀ l : List P2, (∀ p ∈ l, p.1.cps.size ≤ 8 ∧ p.2.cps.size ≤ 8) → PyData.depthAll (l.map paperD) ≤ 1 ∧ PyData.weightAll (l.map paperD) ≤ 100 * l.length
  | [], _ => ⟨by simp [PyData.depthAll], by simp [PyData.weightAll]⟩
  | r :: l, h => by
    obtain ⟨i1, i2⟩ := pairs_wt l fun x hx => h x (List.mem_cons_of_mem _ hx)
    obtain ⟨l1, l2⟩ := h r List.mem_cons_self
    simp only [List.map_cons, PyData.depthAll, PyData.weightAll, paperD, PyData.depth, PyData.weight, List.length_cons]
    omega
theorem lay2 : ∀ ps : List P2, (∀ p ∈ ps, PyData.strOk p.1 = true ∧ PyData.strOk p.2 = true) → PyData.canLayAll0 (ps.map paperD) = true ∧ PyData.depthAll (ps.map paperD) ≤ 1
  | [], _ => by simp [PyData.canLayAll0, PyData.depthAll]
  | p :: t, h => by
    obtain ⟨i1, i2⟩ := lay2 t fun x hx => h x (List.mem_cons_of_mem _ hx)
    obtain ⟨a, b⟩ := h p List.mem_cons_self
    simp only [List.map_cons, PyData.canLayAll0, PyData.depthAll, paperD, PyData.canLay0, PyData.depth, a, b, i1, Bool.and_self, true_and]
    omega
theorem shaped2 {ps : List P2} (h : ∀ p ∈ ps, PyData.strOk p.1 = true ∧ PyData.strOk p.2 = true) : SeqAt.shaped (papersD ps) = true := by
  obtain ⟨a, b⟩ := lay2 ps h
  unfold SeqAt.shaped papersD
  rw [Bool.and_eq_true]
  exact ⟨by simp only [PyData.canLay0]; exact a, decide_eq_true (by simp only [PyData.depth]; omega)⟩
theorem OfH.ok {rs : List Row} {cs : List P2} (hg : GoodR rs) (h : OfH rs cs) : ∀ c ∈ cs, (PyData.strOk c.1 = true ∧ c.1.cps.size ≤ 8) ∧ PyData.strOk c.2 = true ∧ c.2.cps.size ≤ 8 := fun c hc => ⟨head_small hg (h c hc).1, head_small hg (h c hc).2⟩
theorem come_wtH {rs : List Row} {cs : List P2} {h : Str} (hg : GoodR rs) (oc : OfH rs cs) (hh : h ∈ ruleHeadsM rs) (lc : cs.length ≤ 500) : PyData.weight (.list ((comeM cs h).map PyData.str)) ≤ 1000000 := by
  refine come_weight lc ?_ fun c hc => ?_
  · have z := (head_small hg hh).2
    omega
  · have z := (oc.ok hg c hc).2.2
    omega
theorem eqv_pairs_nil (l : List P2) : PyData.eqv (.list (l.map paperD)) (.list []) = l.isEmpty := by
  cases l <;> simp [PyData.eqv, PyData.eqvAll]
theorem isE_filter {α : Type} (l : List α) (f : α → Bool) : (l.filter fun x => !f x).isEmpty = l.all f := by
  induction l with
  | nil => rfl
  | cons x l ih =>
    rw [List.filter_cons, List.all_cons]
    cases h : f x <;> simp [h, ih]
theorem due_all (ns cs : List P2) : (ns.filter fun n => !decide (n.2 ∈ comeM cs n.1)).isEmpty = enoughM ns cs := isE_filter ns fun n => decide (n.2 ∈ comeM cs n.1)
/-- a new pair is put at the end of the list F, while draws change the box -/
theorem put_pair {b l W F U : Addr} {H H' H4 : Hp} {ws xs : List V} {cs : List P2} {x y : Str} (fF : H F = none) (sF : ¬ sB b l F) (sW : ¬ sB b l W) (FW : F ≠ W) (hB' : Box H' b l) (k' : Kp (sB b l) H H') (aW' : H' W = some (.lst ws)) (aF' : H' F = some (.lst xs)) (dn : DnA (sD (sB b l) F) H' xs (cs.map paperD)) (hB4 : Box H4 b l) (k4 : Kp (sB b l) H' H4) (fU : H4 U = none) :
    (upd H4 U (.tup [.str x, .str y])) F = some (.lst xs) ∧ Box (upd (upd H4 U (.tup [.str x, .str y])) F (.lst (xs ++ [.ref U]))) b l ∧ Kp (sB b l) H (upd (upd H4 U (.tup [.str x, .str y])) F (.lst (xs ++ [.ref U]))) ∧ (upd (upd H4 U (.tup [.str x, .str y])) F (.lst (xs ++ [.ref U]))) W = some (.lst ws) ∧
    (upd (upd H4 U (.tup [.str x, .str y])) F (.lst (xs ++ [.ref U]))) F = some (.lst (xs ++ [.ref U])) ∧ DnA (sD (sB b l) F) (upd (upd H4 U (.tup [.str x, .str y])) F (.lst (xs ++ [.ref U]))) (xs ++ [.ref U]) ((cs ++ [(x, y)]).map paperD) := by
  have fU' : H' U = none := k4.fresh fU
  have kU : Kp (sB b l) H' (upd H4 U (.tup [.str x, .str y])) := k4.trans (Kp.new fU)
  have aU : (upd H4 U (.tup [.str x, .str y])) U = some (.tup [.str x, .str y]) := upd_same
  have hBU := hB4.upd (o := .tup [.str x, .str y]) (p := U) fun z => hB'.on _ z fU'
  generalize upd H4 U (.tup [.str x, .str y]) = H5 at kU aU hBU ⊢
  have aF5 := kU.obj aF' ntl sF
  have UF : U ≠ F := fun e => by rw [e, aF'] at fU'; cases fU'
  have kF : Kp (sD (sB b l) F) H' (upd H5 F (.lst (xs ++ [.ref U]))) := (kU.mono fun a z => .inl z).trans (Kp.mutS (.inr rfl) aF5 ntl ntl)
  refine ⟨aF5, hBU.upd sF, (k'.trans kU).mut fF, by rw [upd_ne FW.symm]; exact kU.obj aW' ntl sW, upd_same, ?_⟩
  rw [List.map_append]
  exact (dn.kp kF).app (.one (.tup (fun z => by
    rcases z with z | z
    · exact hB'.on _ z fU'
    · exact UF z) (by rw [upd_ne UF]; exact aU) (DnA.strs [x, y])))
theorem pairs_box {b l : Addr} {H H' : Hp} {xs : List V} {cs : List P2} (hB : Box H b l) (k : Kp (sB b l) H H') (d : DnA N0 H xs (cs.map paperD)) : DnA N0 H' xs (cs.map paperD) := ((pairs_off hB.lsts d).kp k).weak fun _ z => z.elim
end Fc
set_option maxHeartbeats 4000000
namespace Fc
open PySem PySem.Spec PyProof.Rows L2
section
variable {P : Program} {w : World} {K : PySem.W.Frag} {mg : Str → Option Value} {base : Heap}
theorem scLaw : FnScope ["_law_script", "_law_box", "_law_turn", "_law_rule_here", "_law_papers_here", "_law_heads_here", "_law_cards", "_law_card", "_law_needs_here", "_law_need", "_law_due", "_law_handed", "_law_again", "_law_found", "_law_head", "_law_told"] ["_law_script"] (defScope sLaw) := ⟨rfl, rfl, rfl, by decide +kernel, rfl, by decide +kernel, by decide +kernel⟩
theorem ok_law13 {T : List Addr} {fd : FuncData} (F : FunD K "law" "law" (defArgs sLaw) (defBody sLaw) (defScope sLaw) [] [] (He.ga K "law") fd) (C1 : C8.Cal P w K mg base 1 "_law_begun" (spBegun K) []) (C2 : C8.Cal P w K mg base 3 "_law_rule" spRuleL []) (C3 : C8.Cal P w K mg base 3 "_law_papers" spPapersL []) (C4 : C8.Cal P w K mg base 1 "_law_take" spTake [])
    (C5 : C8.Cal P w K mg base 2 "_law_pairs" spPairs []) (C6 : C8.Cal P w K mg base 1 "_law_heads" spRuleHeads []) (C7 : C8.Cal P w K mg base 2 "_law_needs" spNeedsL []) (C8r : C8.Cal P w K mg base 1 "_law_reach" spReachL []) (C9 : C8.Cal P w K mg base 7 "needed" (spNeeded T) []) (C10 : C8.Cal P w K mg base 8 "enough" (spEnough T) [])
    (C11 : C8.Cal P w K mg base 1 "come_to" spCome []) (C12 : C8.Cal P w K mg base 5 "_law_alike" (spAlike 4) []) (C13 : C8.Cal P w K mg base 6 "_law_far" spFar []) (gR : mg "range" = none) (gLen : mg "len" = none) (gL : mg "list" = none) : FnOk P w K mg base CX0 9 (He.ga K "law") fd ["_law_script"] (spLaw K T) := by
  refine fn_mk F scLaw (fun vs H Q E h => ?_) (fun A outer s H vs Q E hr h => ?_)
  · obtain ⟨a, ns, rfl, _⟩ := h
    rfl
  · obtain ⟨a, ns, rfl, hS, hn, ht, k⟩ := h
    refine ⟨_, PSs.nox (pss_cons (ps_set (i := 1) scLaw.nd rfl (Or.inl rfl) (C8.pe_c C1 hr (by decide) rfl (pa_cons (pv 0) pa_nil)))
        (pss_cons (ps_for PassesOwn.never rfl (pi_range1 (by rfl) gR (pa_cons pe_int pa_nil)) (pg_name (i := 2) scLaw.nd rfl (Or.inl rfl))
          (pss_cons (ps_set (i := 3) scLaw.nd rfl (Or.inl rfl) (C8.pe_c C2 hr (by decide) rfl (pa_cons (pv 1) (pa_cons pe_int pa_nil))))
          (pss_cons (ps_set (i := 4) scLaw.nd rfl (Or.inl rfl) (C8.pe_c C3 hr (by decide) rfl (pa_cons (pv 1) (pa_cons pe_int pa_nil))))
          (pss_cons (ps_if (pt_cmpR op_eq (C8.pe_c C4 hr (by decide) rfl (pa_cons (pv 1) (pa_cons pe_int pa_nil))) pe_int (nomark _)) (pss_one (ps_asg (C8.pe_c C5 hr (by decide) rfl (pa_cons (pv 1) pa_nil)) (pg_tup rfl (pgs_cons (pg_name (i := 3) scLaw.nd rfl (Or.inl rfl)) (pgs_cons (pg_name (i := 4) scLaw.nd rfl (Or.inl rfl)) pgs_nil))))) pss_nil)
          (pss_cons (ps_set (i := 5) scLaw.nd rfl (Or.inl rfl) (C8.pe_c C6 hr (by decide) rfl (pa_cons (pv 3) pa_nil)))
          (pss_cons (ps_set (i := 6) scLaw.nd rfl (Or.inr rfl) (pe_lst pa_nil))
          (pss_cons (ps_for PassesOwn.never rfl (pi_range1 (by rfl) gR (pa_cons (C8.pe_c C4 hr (by decide) rfl (pa_cons (pv 1) (pa_cons pe_int pa_nil))) pa_nil)) (pg_name (i := 7) scLaw.nd rfl (Or.inl rfl))
            (pss_one (ps_expr (pe_bm PySem.F.plainAttrs_list PySem.F.slot_list_append PySem.F.type_list_append mt_append (pv 6) (pa_cons (pe_tup (pa_cons (pe_ix ix_list (pv 5) (C8.pe_c C4 hr (by decide) rfl (pa_cons (pv 1) (pa_cons (pe_callB call_len_seq (by rfl) gLen PySem.boot_len (pa_cons (pv 5) pa_nil)) pa_nil))) (fun _ _ => rfl)) (pa_cons (pe_ix ix_list (pv 5) (C8.pe_c C4 hr (by decide) rfl (pa_cons (pv 1) (pa_cons (pe_callB call_len_seq (by rfl) gLen PySem.boot_len (pa_cons (pv 5) pa_nil)) pa_nil))) (fun _ _ => rfl)) pa_nil))) pa_nil)))))
          (pss_cons (ps_set (i := 8) scLaw.nd rfl (Or.inl rfl) (C8.pe_c C7 hr (by decide) rfl (pa_cons (pv 3) (pa_cons (pv 4) pa_nil))))
          (pss_cons (ps_if (pt_cmpR op_eq (C8.pe_c C4 hr (by decide) rfl (pa_cons (pv 1) (pa_cons pe_int pa_nil))) pe_int (nomark _)) (pss_one (ps_set (i := 6) scLaw.nd rfl (Or.inr rfl) (pe_op op_cat (pv 6) (pe_slice sl_list (pv 8) (po_some (C8.pe_c C4 hr (by decide) rfl (pa_cons (pv 1) (pa_cons pe_int pa_nil)))) po_none)))) pss_nil)
          (pss_cons (ps_set (i := 10) scLaw.nd rfl (Or.inl rfl) (pe_cmpR (op_eqD (hu64 hr)) (pe_lc (own := [("_law_need", 9)]) (g := gName 9) rfl scLaw.nd (pi_list (pv 8)) (blkOk_by (N := ["_law_script", "_law_box", "_law_turn", "_law_rule_here", "_law_papers_here", "_law_heads_here", "_law_cards", "_law_card", "_law_needs_here", "_law_need", "_law_due", "_law_handed", "_law_again", "_law_found", "_law_head", "_law_told"]) (sc := defScope sLaw) (by decide +kernel)) (fun _ _ _ _ _ => pg_name (i := 9) scLaw.nd rfl (Or.inl rfl))
            (fun _ _ _ _ _ => pts_one (pt_cmpR (op_notInK (K := K)) (pe_ix (ix_tupK (K := K)) (pv 9) pe_int (fun _ _ => rfl)) (C8.pe_c C8r hr (by decide) rfl (pa_cons (pv 6) (pa_cons (pe_ix (ix_tupK (K := K)) (pv 9) pe_int (fun _ _ => rfl)) pa_nil))) rfl)) (fun _ _ _ _ _ => pv 9)) (pe_lst pa_nil) (nomark _)))
          (pss_cons (ps_set (i := 11) scLaw.nd rfl (Or.inl rfl) (pe_callTy call_list_of (by rfl) gL PyProof.Rows.boot_list (pa_cons (pv 6) pa_nil)))
          (pss_one (ps_for PassesOwn.never rfl (pi_range1 (by rfl) gR (pa_cons pe_int pa_nil)) (pg_name (i := 12) scLaw.nd rfl (Or.inl rfl))
            (pss_cons (ps_set (i := 13) scLaw.nd rfl (Or.inl rfl) (C8.pe_c C9 hr (by decide) rfl (pa_cons (pv 3) (pa_cons (pv 4) pa_nil))))
            (pss_cons (ps_if (PW.pt (pw_or (pt_not (pt_val (C8.pe_c C12 hr (by decide) rfl (pa_cons (pv 13) (pa_cons (pv 8) pa_nil))))) (pw_or (pt_not (pt_val (C8.pe_c C12 hr (by decide) rfl (pa_cons (C8.pe_c C10 hr (by decide) rfl (pa_cons (pv 3) (pa_cons (pv 4) (pa_cons (pv 11) pa_nil)))) (pa_cons (pv 10) pa_nil))))) (pw_or1 (pt_cmpR (op_neD (hu64 hr)) (pv 11) (pv 6) (nomark _)))))) pss_never pss_nil)
            (pss_cons (ps_expr (pe_bm PySem.F.plainAttrs_list PySem.F.slot_list_append PySem.F.type_list_append mt_append (pv 13) (pa_cons (pe_tup pa_nil) pa_nil)))
            (pss_one (ps_for PassesOwn.never rfl (pi_list (pv 5)) (pg_name (i := 14) scLaw.nd rfl (Or.inl rfl))
              (pss_cons (ps_set (i := 15) scLaw.nd rfl (Or.inl rfl) (C8.pe_c C11 hr (by decide) rfl (pa_cons (pv 11) (pa_cons (pv 14) pa_nil))))
              (pss_cons (ps_if (pt_not (pt_val (C8.pe_c C12 hr (by decide) rfl (pa_cons (pv 15) (pa_cons (C8.pe_c C8r hr (by decide) rfl (pa_cons (pv 6) (pa_cons (pv 14) pa_nil))) pa_nil))))) pss_never pss_nil)
              (pss_one (ps_expr (pe_bm0 PySem.F.plainAttrs_list PySem.F.slot_list_clear PySem.F.type_list_clear mt_clear (pv 15))))))))))))))))))))))))
        (pss_one (ps_ret (C8.pe_c C13 hr (by decide) rfl (pa_cons (pv 1) pa_nil)))))), ?_⟩
    have sz : ∀ n : Nat, n ≤ 1000 → n ≤ sizeLine := fun n h => by rw [sizeLine_eq]; omega
    refine ⟨_, rfl, a, ns, rfl, hS, hn, fun b l H1 fb fl hB k1 => ?_⟩
    refine ⟨_, rfl, by decide, by decide, for_range (fun i σ' H' => ∃ o2 o3 o4 o5 o6 o7 o8 o10 o11 o12 o13 o14 o15 : Option V, σ' = [some (.ref a), some (.ref b), o2, o3, o4, o5, o6, o7, o8, none, o10, o11, o12, o13, o14, o15] ∧ Box H' b l ∧ Tbs T H')
      ⟨_, _, _, _, _, _, _, _, _, _, _, _, _, rfl, hB, k1.tbs ht⟩ (fun i0 σ' H' hi ⟨o2, o3, o4, o5, o6, o7, o8, o10, o11, o12, o13, o14, o15, es, hB1, ht1⟩ => ?_) fun σ' H' ⟨o2, o3, o4, o5, o6, o7, o8, o10, o11, o12, o13, o14, o15, es, hB1, ht1⟩ => ?_⟩
    · subst es
      have n0 : ∀ a : Addr, N0 a → sB b l a := fun _ z => z.elim
      refine ⟨_, rfl, b, l, 12, rfl, by decide, by decide, hB1, fun rs R H2 hg hrl fR hB2 k2 hR => ?_⟩
      refine ⟨_, rfl, b, l, 12, rfl, by decide, by decide, hB2, fun ps Z H3 hp hpn hpl fZ hB3 k3 hZ => ?_⟩
      refine ⟨_, rfl, b, l, 2, rfl, hB3, by decide, by decide, fun r H4 r0 r1 hB4 k4 => ⟨rfl, _, rfl, ite2 (fun c1 => ?_) (fun c1 => ?_)⟩⟩
      case' refine_1 =>
        have ht4 := (k2.trans (k3.trans k4)).tbs ht1
        refine ⟨_, rfl, b, l, rfl, hB4, fun rs ps t R Z H5 hg hp ft hB5 k5 at0 hR5 hZ5 => ⟨t, _, rfl, SqT.of at0, rfl, _, _, rfl, _, _, rfl, rfl, ?_⟩⟩
        have ht5 := k5.tbs ht4
      case' refine_2 =>
        have hB5 := hB4
        have ht5 := (k2.trans (k3.trans k4)).tbs ht1
        have hR5 := (hR.kp k3).kp k4
        have hZ5 := hZ.kp k4
        generalize H4 = H5 at hB5 ht5 hR5 hZ5 ⊢
      all_goals
        clear hB1 hB2 hB3 hB4 k2 k3 k4 ht1
        have few := hg.few
        have hR5w := hR5.weak n0
        have hZ5w := hZ5.weak n0
        refine ⟨_, rfl, .ref R, rs, rfl, hR5w, by omega, fun hh H6 fh k6 ah => ?_⟩
        have fh0 := fh
        have sh : ¬ sB b l hh := fun z => hB5.on _ z fh
        have hB6 := hB5.kp k6
        have k6' : Kp (sB b l) H5 H6 := k6.up
        have lh := ruleHeads_len rs
        have lh1 : 1 ≤ (ruleHeadsM rs).length := List.length_pos_of_mem (main_in rs "")
        refine ⟨Nat.zero_le _, fun F fF => ?_⟩
        have sF : ¬ sB b l F := fun z => hB6.on _ z fF
        have Fh : F ≠ hh := fun e => by rw [e, ah] at fF; cases fF
        have k7 : Kp N0 H6 (upd H6 F (.lst [])) := Kp.new fF
        have aF7 : (upd H6 F (.lst [])) F = some (.lst []) := upd_same
        have fF5 : H5 F = none := k6.fresh fF
        generalize upd H6 F (.lst []) = H7 at k7 aF7 ⊢
        have hB7 := hB6.kp k7
        have k57 : Kp (sB b l) H5 H7 := k6'.trans k7.up
        have ah7 := k7.obj ah ntl nn
        have lm : ((ruleHeadsM rs).map V.str).length = (ruleHeadsM rs).length := List.length_map ..
        have hatt : ∀ i, i < (ruleHeadsM rs).length → ∃ x, x ∈ ruleHeadsM rs ∧ ((ruleHeadsM rs).map V.str)[i]? = some (V.str x) := fun i h => ⟨_, List.getElem_mem h, by rw [List.getElem?_map, List.getElem?_eq_getElem h]; rfl⟩
        refine ⟨_, rfl, b, l, 11, rfl, hB7, by decide, by decide, fun r5 H8 q0 q1 hB8 k8 => ⟨r5, rfl, by omega, by omega, for_range (fun i σ' H' => ∃ (cs : List P2) (xs : List V) (p7 : Option V), σ' = [some (.ref a), some (.ref b), some (.int (0 + (i0 : Nat))), some (.ref R), some (.ref Z), some (.ref hh), some (.ref F), p7, o8, none, o10, o11, o12, o13, o14, o15] ∧ Box H' b l ∧ Kp (sB b l) H5 H' ∧ H' hh = some (.lst ((ruleHeadsM rs).map V.str)) ∧ H' F = some (.lst xs) ∧ DnA (sD (sB b l) F) H' xs (cs.map paperD) ∧ OfH rs cs ∧ cs.length ≤ i)
          ⟨[], [], _, rfl, hB8, k57.trans k8, k8.obj ah7 ntl sh, k8.obj aF7 ntl sF, .nil, (fun c z => nomatch z), Nat.le_refl _⟩ (fun i σ' H' hi ⟨cs, xs, p7, es, hB', k', ah', aF', dn, ow, lc⟩ => ?_) fun σ' H' ⟨cs, xs, p7, es, hB', k', ah', aF', dn, ow, lc⟩ => ?_⟩⟩
        · subst es
          have lx : xs.length = cs.length := by rw [dn.len, List.length_map]
          refine ⟨_, rfl, .inl ⟨rfl, _, SqL.of aF'⟩, _, rfl, _, rfl, _, rfl, hh, _, rfl, .inl (SqL.of ah'), b, l, _, rfl, hB', by rw [lm]; omega, by rw [lm]; omega, fun r6 H6 q2 q3 hB6 k6 => ?_⟩
          rw [lm] at q3
          have ah6 := k6.obj ah' ntl sh
          obtain ⟨x, hx, ex⟩ := hatt r6.toNat (by omega)
          refine ⟨hh, _, r6, _, rfl, rfl, SqL.of ah6, at_of (by omega) ex, ?_⟩
          refine ⟨_, rfl, _, rfl, _, rfl, hh, _, rfl, .inl (SqL.of ah6), b, l, _, rfl, hB6, by rw [lm]; omega, by rw [lm]; omega, fun r7 H7 q4 q5 hB7 k7 => ?_⟩
          rw [lm] at q5
          have ah7 := k7.obj ah6 ntl sh
          obtain ⟨y, hy, ey⟩ := hatt r7.toNat (by omega)
          refine ⟨hh, _, r7, _, rfl, rfl, SqL.of ah7, at_of (by omega) ey, sz 2 (by decide), fun U fU => ?_⟩
          obtain ⟨z1, z2, z3, z4, z5, z6⟩ := put_pair (x := x) (y := y) fF5 sF sh Fh hB' k' ah' aF' dn hB7 (k6.trans k7) fU
          refine ⟨F, xs, _, rfl, rfl, z1, by rw [sizeLine_eq]; omega, cs ++ [(x, y)], xs ++ [.ref U], _, rfl, z2, z3, z4, z5, z6, fun c hc => ?_, by rw [List.length_append]; exact Nat.succ_le_succ lc⟩
          rcases List.mem_append.mp hc with z | z
          · exact ow c z
          · rw [List.mem_singleton.mp z]
            exact ⟨hx, hy⟩
        · subst es
          have d0 : DnA N0 H' xs (cs.map paperD) := dn.weak fun _ z => z.elim
          have lx : xs.length = cs.length := by rw [dn.len, List.length_map]
          have hRs := hR5.kp k'
          have hZs := hZ5.kp k'
          have tH := k'.tbs ht5
          have lcc : cs.length ≤ 10 := by omega
          clear dn k6 k7 k57 aF7 ah7 hB7 ah k6' hB6 hB8 k8
          -- what is needed
          refine ⟨_, rfl, _, rfl, .ref R, .ref Z, rs, ps, rfl, hRs.weak n0, hZs.weak n0, hg, hp, fun N H9 k9 tN => ?_⟩
          obtain ⟨fN, ys, aN, dN⟩ := tN
          have ln := needed_len hg ps
          have ly : ys.length = (neededM rs ps).length := by rw [dN.len, List.length_map]
          have sN : ¬ sB b l N := fun z => hB'.on _ z fN
          have dN0 : DnA N0 H9 ys ((neededM rs ps).map paperD) := dN.weak fun _ z => z.elim
          have oN := needed_of rs ps
          have hB9 := hB'.kp k9
          have hRt := hRs.kp k9.up
          have hZt := hZs.kp k9.up
          have ah9 := k9.obj ah' ntl nn
          have aF9 := k9.obj aF' ntl nn
          have d9 := d0.kp k9
          have t9 := k9.tbs tH
          clear hRs hZs ah' aF' d0 hB' k' tH dN
          refine ⟨_, rfl, b, l, 3, rfl, hB9, by decide, by decide, fun r6 H10 q2 q3 hBA kA => ⟨rfl, _, rfl, ite2 (fun c2 => ?_) (fun c2 => ?_)⟩⟩
          case' refine_1 =>
            have aNA := kA.obj aN ntl sN
            refine ⟨_, rfl, _, rfl, _, rfl, b, l, 2, rfl, hBA, by decide, by decide, fun r7 H11 q4 q5 hB11 k11 => ⟨r7, rfl, N, ys, rfl, SqL.of (k11.obj aNA ntl sN), fun A fA => ?_⟩⟩
            rw [cutV_drop _ q4]
            have k9B := kA.trans k11
            have d11 := pairs_box hB9 k9B d9
            have n11 := pairs_box hB9 k9B dN0
            have k12 : Kp N0 H11 (upd H11 A (.lst (ys.drop r7.toNat))) := Kp.new fA
            have aA : (upd H11 A (.lst (ys.drop r7.toNat))) A = some (.lst (ys.drop r7.toNat)) := upd_same
            generalize upd H11 A (.lst (ys.drop r7.toNat)) = H12 at k12 aA ⊢
            have aF12 := k12.obj (k9B.obj aF9 ntl sF) ntl nn
            refine ⟨F, A, _, _, rfl, rfl, aF12, aA, by rw [List.length_drop, sizeLine_eq]; omega, fun F fF2 => ?_⟩
            have k13 : Kp N0 H11 (upd H12 F (.lst (xs ++ ys.drop r7.toNat))) := k12.trans (Kp.new fF2)
            have aF13 : (upd H12 F (.lst (xs ++ ys.drop r7.toNat))) F = some (.lst (xs ++ ys.drop r7.toNat)) := upd_same
            have dF13 : DnA N0 (upd H12 F (.lst (xs ++ ys.drop r7.toNat))) (xs ++ ys.drop r7.toNat) ((cs ++ (neededM rs ps).drop r7.toNat).map paperD) := by
              rw [List.map_append, List.map_drop]
              exact (d11.kp k13).app ((n11.dropT _).kp k13)
            have ow13 : OfH rs (cs ++ (neededM rs ps).drop r7.toNat) := ow.app fun c hc => oN c (List.mem_of_mem_drop hc)
            have lc13 : (cs ++ (neededM rs ps).drop r7.toNat).length ≤ 100 := by rw [List.length_append, List.length_drop]; omega
            have lx13 : (xs ++ ys.drop r7.toNat).length = (cs ++ (neededM rs ps).drop r7.toNat).length := by rw [List.length_append, List.length_append, List.length_drop, List.length_drop, lx, ly]
            have k913 := k9B.trans k13.up
            generalize upd H12 F (.lst (xs ++ ys.drop r7.toNat)) = H13 at k13 aF13 dF13 k913 ⊢
            generalize cs ++ (neededM rs ps).drop r7.toNat = cs at dF13 ow13 lc13 lx13
            generalize xs ++ ys.drop r7.toNat = xs at aF13 dF13 lx13
            have hB13 := hB11.kp k13
          case' refine_2 =>
            have aF13 := kA.obj aF9 ntl sF
            have dF13 := pairs_box hB9 kA d9
            have ow13 := ow
            have lc13 : cs.length ≤ 100 := by omega
            have lx13 := lx
            have k913 := kA
            have hB13 := hBA
            generalize H10 = H13 at aF13 dF13 k913 hB13 ⊢
          all_goals
            have hR13 := (hRt.kp k913).weak n0
            have hZ13 := (hZt.kp k913).weak n0
            have ah13 := k913.obj ah9 ntl sh
            have aN13 := k913.obj aN ntl sN
            have dN13 := pairs_box hB9 k913 dN0
            have t13 := k913.tbs t9
            clear k913 hRt hZt ah9 aN dN0 t9 d9 aF9 k9 hB9 ow lx kA hBA
            have okc := ow13.ok hg
            have okN := oN.ok hg
            -- what is due
            refine ⟨_, rfl, N, rfl, ⟨_, SqL.of aN13⟩, fun D fD => ?_⟩
            have dND : DnA (fun x => x = D) H13 ys ((neededM rs ps).map paperD) := DnA.offs (fun a e => by rw [e]; exact fD) dN13
            refine lc_it (walk_list (xs := ys)) (fun i H' => Kp N0 H13 H' ∧ ∃ out, H' D = some (.lst out) ∧ out.length ≤ i ∧ DnA (fun x => x = D) H' out ((((neededM rs ps).take i).filter fun n => !decide (n.2 ∈ comeM cs n.1)).map paperD)) ⟨Kp.new fD, [], upd_same, Nat.le_refl _, .nil⟩ (fun i H' _ p => SqL.of (p.1.obj aN13 ntl nn)) (fun i x H' H'' hi2 ⟨k2, out, aD, lo, dO⟩ y => ?_) fun H' ⟨k2, out, aD, lo, dO⟩ => ?_
            · obtain ⟨rfl, hx⟩ := y
              rw [ly] at hi2
              have en : (neededM rs ps)[i]? = some (neededM rs ps)[i] := List.getElem?_eq_getElem hi2
              have tk : (neededM rs ps).take (i + 1) = (neededM rs ps).take i ++ [(neededM rs ps)[i]] := by rw [List.take_append_getElem]
              have okn := okN _ (List.getElem_mem hi2)
              generalize (neededM rs ps)[i] = n at en tk okn
              have dx := (dND.map_at hx en).kp k2.up
              obtain ⟨t, rfl, _, at0⟩ := paperD_ex ((dN13.map_at hx en).kp k2)
              refine ⟨rfl, _, rfl, t, _, 1, _, rfl, rfl, SqT.of at0, rfl, _, rfl, _, rfl, t, _, 0, _, rfl, rfl, SqT.of at0, rfl, .ref F, cs, n.1, rfl, .lst nn (k2.obj aF13 ntl nn) (dF13.kp k2), by omega, okn.1.1, fun c hc => (okc c hc).2.1, fun p H3 hp3 k3 ap => ⟨p, _, rfl, .inl (SqL.of ap), rfl, flat_strs _, _, rfl, ?_⟩⟩
              rw [inV_str]
              have aD3 := k3.obj aD ntl nn
              have dx3 := dx.kp k3.up
              have dO3 := dO.kp k3.up
              have k23 := k2.trans k3
              refine ite2 (fun c => ?_) (fun c => ?_)
              · have kD : Kp (fun x => x = D) H3 (upd H3 D (.lst (out ++ [.ref t]))) := Kp.mutS rfl aD3 ntl ntl
                refine ⟨_, rfl, out, aD3, by rw [sizeLine_eq]; omega, k23.mut fD, out ++ [.ref t], upd_same, by rw [List.length_append]; exact Nat.succ_le_succ lo, ?_⟩
                have c' : (!decide (n.2 ∈ comeM cs n.1)) = true := c
                rw [tk, List.filter_append, List.filter_cons, if_pos c', List.map_append]
                exact (dO3.kp kD).app (.one (dx3.kp kD))
              · refine ⟨k23, out, aD3, by omega, ?_⟩
                have c' : ¬ (!decide (n.2 ∈ comeM cs n.1)) = true := c
                rw [tk, List.filter_append, List.filter_cons, if_neg c', List.filter_nil, List.append_nil]
                exact dO3
            · rw [ly, List.take_length] at dO
              refine ⟨Nat.zero_le _, fun E fE => ?_⟩
              have kE : Kp N0 H' (upd H' E (.lst [])) := Kp.new fE
              have aE : (upd H' E (.lst [])) E = some (.lst []) := upd_same
              have aD2 := kE.obj aD ntl nn
              have dO2 := (dO.weak (S' := N0) fun _ z => z.elim).kp kE
              have k14 := k2.trans kE
              generalize upd H' E (.lst []) = H14 at aE aD2 dO2 k14 ⊢
              refine ⟨_, .list [], .lst (SqL.of aD2) dO2.dp, .lst (SqL.of aE) .nil, shaped2 (fun p hp => ?_), by decide, ?_⟩
              · have z := okN p (List.mem_filter.mp hp).1
                exact ⟨z.1.1, z.2.1⟩
              rw [eqv_pairs_nil, due_all]
              have aF14 := k14.obj aF13 ntl nn
              refine ⟨_, rfl, F, _, rfl, .inl (SqL.of aF14), fun G fG => ?_⟩
              have k15 : Kp N0 H13 (upd H14 G (.lst xs)) := k14.trans (Kp.new fG)
              have aG : (upd H14 G (.lst xs)) G = some (.lst xs) := upd_same
              generalize upd H14 G (.lst xs) = H15 at k15 aG ⊢
              have hR15 := hR13.kp k15
              have hZ15 := hZ13.kp k15
              have ah15 := k15.obj ah13 ntl nn
              have dF15 : Dn N0 H15 (.ref F) (papersD cs) := .lst nn (k15.obj aF13 ntl nn) (dF13.kp k15)
              have dG15 : Dn N0 H15 (.ref G) (papersD cs) := .lst nn aG (dF13.kp k15)
              have dN15 : Dn N0 H15 (.ref N) (papersD (neededM rs ps)) := .lst nn (k15.obj aN13 ntl nn) (dN13.kp k15)
              have hB15 := hB13.kp k15
              have t15 := k15.tbs t13
              have shc : SeqAt.shaped (papersD cs) = true := shaped2 fun p hp => ⟨(okc p hp).1.1, (okc p hp).2.1⟩
              have wtN := pairs_wt (neededM rs ps) fun p hp => ⟨(okN p hp).1.2, (okN p hp).2.2⟩
              clear dO dO2 aD aD2 aE aF14 k14 aG fE fG dND fD k15 dN13 aN13 dF13 aF13 ah13 hZ13 hR13 hB13 t13 k2 kE
              refine ⟨_, rfl, by decide, by decide, for_range (fun i σ' H' => ∃ o12 o13 o14 o15 : Option V, σ' = [some (.ref a), some (.ref b), some (.int (0 + (i0 : Nat))), some (.ref R), some (.ref Z), some (.ref hh), some (.ref F), p7, some (.ref N), none, some (.bl (enoughM (neededM rs ps) cs)), some (.ref G), o12, o13, o14, o15] ∧ Kp N0 H15 H')
                ⟨_, _, _, _, rfl, Kp.refl⟩ (fun i1 σ' H' hi3 ⟨o12, o13, o14, o15, es, k'⟩ => ?_) fun σ' H' ⟨o12, o13, o14, o15, es, k'⟩ => ?_⟩
              · subst es
                refine ⟨_, rfl, _, rfl, .ref R, .ref Z, rs, ps, rfl, hR15.kp k', hZ15.kp k', hg, hp, k'.tbs t15, fun p H2 k2 tp => ?_⟩
                obtain ⟨fp, zs, ap, dp⟩ := tp
                have k3 := k'.trans k2
                refine ⟨_, rfl, _, rfl, .ref p, .ref N, papersD (neededM rs ps), rfl, .lst nn ap (dp.weak fun _ z => z.elim), dN15.kp k3, by simp only [papersD, PyData.depth]; omega, by simp only [papersD, PyData.weight]; omega, fun H4 k4 => ⟨_, rfl, iteF ?_⟩⟩
                have k5 := k3.trans k4
                refine ⟨_, rfl, _, rfl, _, rfl, .ref R, .ref Z, .ref G, rs, ps, cs, rfl, hR15.kp k5, hZ15.kp k5, dG15.kp k5, hg, hp, by omega, ow13, k5.tbs t15, fun H6 k6 => ?_⟩
                refine ⟨_, rfl, _, _, .bool (enoughM (neededM rs ps) cs), rfl, .bl _, .bl _, by simp only [PyData.depth]; decide, by simp only [PyData.weight]; decide, fun H7 k7 => ⟨_, rfl, iteF ?_⟩⟩
                have k8 := k5.trans (k6.trans k7)
                refine ⟨_, rfl, _, rfl, _, _, (dG15.kp k8).dp, (dF15.kp k8).dp, shc, shc, ?_⟩
                rw [eqv_refl _ (SeqAt.canLay_of_shaped shc)]
                refine ⟨_, rfl, iteF ?_⟩
                have k48 := k4.trans (k6.trans k7)
                have ap8 := k48.obj ap ntl nn
                refine ⟨_, rfl, .inl ⟨rfl, _, SqL.of ap8⟩, Nat.zero_le _, fun y fy => ?_⟩
                have lz : zs.length = (neededM rs ps).length := by rw [dp.len, List.length_map]
                refine ⟨p, _, _, rfl, rfl, (Kp.new (S := N0) fy).obj ap8 ntl nn, by rw [sizeLine_eq]; omega, ?_⟩
                have fp0 : H15 p = none := k'.fresh fp
                have k9 : Kp N0 H15 (upd (upd H7 y (.tup [])) p (.lst (zs ++ [.ref y]))) := (k8.trans (Kp.new fy)).mut fp0
                generalize upd (upd H7 y (.tup [])) p (.lst (zs ++ [.ref y])) = H9 at k9 ⊢
                refine ⟨_, rfl, hh, rfl, ⟨_, SqL.of (k9.obj ah15 ntl nn)⟩, for_list (K := K) (a := hh) (xs := (ruleHeadsM rs).map V.str) (fun i σ' H' => ∃ o14 o15 : Option V, σ' = [some (.ref a), some (.ref b), some (.int (0 + (i0 : Nat))), some (.ref R), some (.ref Z), some (.ref hh), some (.ref F), p7, some (.ref N), none, some (.bl (enoughM (neededM rs ps) cs)), some (.ref G), some (.int (0 + (i1 : Nat))), some (.ref p), o14, o15] ∧ Kp N0 H15 H')
                  ⟨_, _, rfl, k9⟩ (fun i σ' H' _ ⟨_, _, _, kk⟩ => SqL.of (kk.obj ah15 ntl nn)) (fun i x σ' H' hx ⟨o14, o15, es, kk⟩ => ?_) fun σ' H' ⟨o14, o15, es, kk⟩ => ⟨_, _, _, _, es, kk⟩⟩
                subst es
                have il : i < (ruleHeadsM rs).length := by
                  have z := (List.getElem?_eq_some_iff.mp hx).1
                  rwa [List.length_map] at z
                have hin := List.getElem_mem il
                rw [List.getElem?_map, List.getElem?_eq_getElem il] at hx
                have ex : V.str (ruleHeadsM rs)[i] = x := Option.some.inj hx
                subst ex
                generalize (ruleHeadsM rs)[i] = g at hin
                have gs := head_small hg hin
                refine ⟨_, rfl, _, rfl, .ref G, cs, g, rfl, dG15.kp kk, by omega, fun q H10 hq k10 aq => ?_⟩
                have k11 := kk.trans k10
                refine ⟨_, rfl, _, rfl, _, rfl, .ref F, cs, g, rfl, dF15.kp k11, by omega, gs.1, fun c hc => (okc c hc).2.1, fun q2 H12 hq2 k12 aq2 => ?_⟩
                refine ⟨_, _, .list ((comeM cs g).map PyData.str), rfl, .lst nn (k12.obj aq ntl nn) (DnA.strs _), .lst nn aq2 (DnA.strs _), by simp only [PyData.depth]; rw [depthS]; decide, come_wtH hg ow13 hin (by omega), fun H14 k14 => ⟨_, rfl, iteF ?_⟩⟩
                have aq3 := (k12.trans k14).obj aq ntl nn
                have fq0 : H15 q = none := kk.fresh hq
                exact ⟨_, rfl, .inl ⟨rfl, _, SqL.of aq3⟩, q, _, rfl, rfl, aq3, _, _, rfl, (k11.trans (k12.trans k14)).mut fq0⟩
              · subst es
                exact ⟨_, _, _, _, _, _, _, _, _, _, _, _, _, rfl, hB15.kp k', k'.tbs t15⟩
    · subst es
      exact ⟨_, rfl, b, l, rfl, hB1, fun H2 => k H2⟩
end
end Fc
set_option maxHeartbeats 0
namespace Fc
open PySem PySem.Spec PyProof.Rows L2
def dd (i : Nat) (n : Str) : He.DefD := ⟨(n, none), n, n, defArgs (top i), defBody (top i), defScope (top i), [], []⟩
def fns : List He.DefD := [dd 32 "_law_begun", dd 33 "_law_take", dd 35 "_law_marks", dd 36 "_law_rule", dd 37 "_law_papers", dd 43 "_law_pairs", dd 39 "_law_heads", dd 38 "_law_held", dd 41 "_law_needs", dd 42 "_law_reach", dd 19 "is_small", dd 20 "is_word", dd 21 "is_marks", dd 22 "is_row", dd 23 "check_rule", dd 24 "check_papers", dd 8 "holds", dd 9 "heads_in_turn", dd 11 "main_head", dd 10 "rising_heads", dd 30 "needs_of_marks", dd 27 "needed", dd 12 "rule_heads", dd 25 "check_head", dd 28 "come_to", dd 29 "enough", dd 34 "_law_alike", dd 44 "_law_far", dd 45 "law"]
def fas : List He.Fa := [.glo "_law_begun", .glo "_law_take", .glo "_law_marks", .glo "_law_rule", .glo "_law_papers", .glo "_law_pairs", .glo "_law_heads", .glo "_law_held", .glo "_law_needs", .glo "_law_reach", .glo "is_small", .glo "is_word", .glo "is_marks", .glo "is_row", .glo "check_rule", .glo "check_papers", .glo "holds", .glo "heads_in_turn", .glo "main_head", .glo "rising_heads", .glo "needs_of_marks", .glo "needed", .glo "rule_heads", .glo "check_head", .glo "come_to", .glo "enough", .glo "_law_alike", .glo "_law_far", .glo "law", .str "MARKS" "abcdefgh", .str "REST" "rest", .str "LETTERS" "abcdefghijklmnopqrstuvwxyz", .int "LONGEST_WORD" 6, .int "MOST_ROWS" 12, .int "MOST_HEADS" 6, .int "MOST_PAPERS" 12, .free "all", .free "any", .free "bool", .free "enumerate", .free "int", .free "isinstance", .free "len", .free "list", .free "range", .free "set", .free "sorted", .free "str", .free "tuple"]
def tfsG : List He.Defn := [("holds", none), ("is_small", none), ("is_row", none), ("enough", none)]
def tfsL : List He.Defn := []
def tfs : List He.Defn := [("holds", none), ("is_small", none), ("is_row", none), ("enough", none)]
abbrev R : PySem.W.OpenRow := PySem.W.OpenLaw.row PySem.Challenge.rw_filecross_k13_cards
abbrev hk : PySem.W.Hook := He.hookX 4 fas fns [] tfs (fun _ => true)
def ob (s : PySem.W.SharedT) : He.AlX := He.obsX 4 fas fns [] tfs (fun _ => true) (HandSHeadRun.getT s)
theorem ob_eq (s : PySem.W.SharedT) : ob s = hk.obs s.abs := He.obsX_eq (HandSHeadRun.getT_eq s)
def loose1 : List PySem.Str := ["FileError", "BadRule", "BadPapers", "NoHead", "MARKS", "REST", "holds", "heads_in_turn", "rising_heads", "main_head", "rule_heads", "LETTERS", "LONGEST_WORD", "MOST_ROWS", "MOST_HEADS", "MOST_PAPERS", "is_small", "is_word", "is_marks", "is_row"]
def loose2 : List PySem.Str := ["check_rule", "check_papers", "check_head", "needed", "come_to", "enough", "needs_of_marks", "_law_begun", "_law_take", "_law_alike", "_law_marks", "_law_rule", "_law_papers", "_law_held", "_law_heads", "_law_cabinet", "_law_needs", "_law_reach", "_law_pairs", "_law_far"]
def loose : List PySem.Str := loose1 ++ loose2
theorem run (w : World) : HandSHeadRun.RunEq R (PySem.W.view R.prog [45]) hk ob 4000 loose w := by
  intro os
  kernel_rfl
theorem facts {P : Program} {w : World} {K : PySem.W.Frag} {h : Heap} {mg : Str → Option Value} (X : K.In h) (G : h.Ns mainGlobals mg) (c : He.SaysX fas fns [] tfs (fun _ => true) w h K) :
    ∃ (fd : FuncData) (cs : List (Addr × Addr)) (sp : Sp), mg "law" = some (.ref (He.ga K "law")) ∧ (∀ p ∈ cs, h.get? p.2 = some { cls := .none, data := .fields #[] }) ∧ (∀ p ∈ cs, K.lookup p.2 = none) ∧ (∀ p ∈ cs, PySem.W.CodeHd h p.1 p.2) ∧ (∀ (s : Shared) (u : Value), BindsTo s fd ⟨[u], []⟩ [("_law_script", u)]) ∧
      (∀ (H : Hp) (a : Addr) (ns : List Int), ns.length ≤ 63 → (∀ z ∈ ns, Builtin.Int.intBits z ≤ 1048576) → (∀ p ∈ cs, H p.2 = some (.tbl #[])) → SqL K H a (ns.map V.int) → sp [.ref a] H (fun v _ => v = .bl true) fun _ _ _ => False) ∧
      ∀ base : Heap, K.In base → base.Ns mainGlobals mg → (∀ p ∈ cs, LamX.TabB base mg p.1 p.2) → FnOk P w K mg base CX0 9 (He.ga K "law") fd ["_law_script"] sp := by
  have cd := c.t.d
  have g__law_begun := He.glo_ok X G (cd.fact 0 (f := .glo "_law_begun") rfl)
  have g__law_take := He.glo_ok X G (cd.fact 1 (f := .glo "_law_take") rfl)
  have g__law_marks := He.glo_ok X G (cd.fact 2 (f := .glo "_law_marks") rfl)
  have g__law_rule := He.glo_ok X G (cd.fact 3 (f := .glo "_law_rule") rfl)
  have g__law_papers := He.glo_ok X G (cd.fact 4 (f := .glo "_law_papers") rfl)
  have g__law_pairs := He.glo_ok X G (cd.fact 5 (f := .glo "_law_pairs") rfl)
  have g__law_heads := He.glo_ok X G (cd.fact 6 (f := .glo "_law_heads") rfl)
  have g__law_held := He.glo_ok X G (cd.fact 7 (f := .glo "_law_held") rfl)
  have g__law_needs := He.glo_ok X G (cd.fact 8 (f := .glo "_law_needs") rfl)
  have g__law_reach := He.glo_ok X G (cd.fact 9 (f := .glo "_law_reach") rfl)
  have g_is_small := He.glo_ok X G (cd.fact 10 (f := .glo "is_small") rfl)
  have g_is_word := He.glo_ok X G (cd.fact 11 (f := .glo "is_word") rfl)
  have g_is_marks := He.glo_ok X G (cd.fact 12 (f := .glo "is_marks") rfl)
  have g_is_row := He.glo_ok X G (cd.fact 13 (f := .glo "is_row") rfl)
  have g_check_rule := He.glo_ok X G (cd.fact 14 (f := .glo "check_rule") rfl)
  have g_check_papers := He.glo_ok X G (cd.fact 15 (f := .glo "check_papers") rfl)
  have g_holds := He.glo_ok X G (cd.fact 16 (f := .glo "holds") rfl)
  have g_heads_in_turn := He.glo_ok X G (cd.fact 17 (f := .glo "heads_in_turn") rfl)
  have g_main_head := He.glo_ok X G (cd.fact 18 (f := .glo "main_head") rfl)
  have g_rising_heads := He.glo_ok X G (cd.fact 19 (f := .glo "rising_heads") rfl)
  have g_needs_of_marks := He.glo_ok X G (cd.fact 20 (f := .glo "needs_of_marks") rfl)
  have g_needed := He.glo_ok X G (cd.fact 21 (f := .glo "needed") rfl)
  have g_rule_heads := He.glo_ok X G (cd.fact 22 (f := .glo "rule_heads") rfl)
  have g_check_head := He.glo_ok X G (cd.fact 23 (f := .glo "check_head") rfl)
  have g_come_to := He.glo_ok X G (cd.fact 24 (f := .glo "come_to") rfl)
  have g_enough := He.glo_ok X G (cd.fact 25 (f := .glo "enough") rfl)
  have g__law_alike := He.glo_ok X G (cd.fact 26 (f := .glo "_law_alike") rfl)
  have g__law_far := He.glo_ok X G (cd.fact 27 (f := .glo "_law_far") rfl)
  have g_law := He.glo_ok X G (cd.fact 28 (f := .glo "law") rfl)
  have g_MARKS := He.str_ok X G (cd.fact 29 (f := .str "MARKS" "abcdefgh") rfl)
  have g_REST := He.str_ok X G (cd.fact 30 (f := .str "REST" "rest") rfl)
  have g_LETTERS := He.str_ok X G (cd.fact 31 (f := .str "LETTERS" "abcdefghijklmnopqrstuvwxyz") rfl)
  have g_LONGEST_WORD := He.int_ok X G (cd.fact 32 (f := .int "LONGEST_WORD" 6) rfl)
  have g_MOST_ROWS := He.int_ok X G (cd.fact 33 (f := .int "MOST_ROWS" 12) rfl)
  have g_MOST_HEADS := He.int_ok X G (cd.fact 34 (f := .int "MOST_HEADS" 6) rfl)
  have g_MOST_PAPERS := He.int_ok X G (cd.fact 35 (f := .int "MOST_PAPERS" 12) rfl)
  have n_all := He.free_ok X G (cd.fact 36 (f := .free "all") rfl)
  have n_any := He.free_ok X G (cd.fact 37 (f := .free "any") rfl)
  have n_bool := He.free_ok X G (cd.fact 38 (f := .free "bool") rfl)
  have n_enumerate := He.free_ok X G (cd.fact 39 (f := .free "enumerate") rfl)
  have n_int := He.free_ok X G (cd.fact 40 (f := .free "int") rfl)
  have n_isinstance := He.free_ok X G (cd.fact 41 (f := .free "isinstance") rfl)
  have n_len := He.free_ok X G (cd.fact 42 (f := .free "len") rfl)
  have n_list := He.free_ok X G (cd.fact 43 (f := .free "list") rfl)
  have n_range := He.free_ok X G (cd.fact 44 (f := .free "range") rfl)
  have n_set := He.free_ok X G (cd.fact 45 (f := .free "set") rfl)
  have n_sorted := He.free_ok X G (cd.fact 46 (f := .free "sorted") rfl)
  have n_str := He.free_ok X G (cd.fact 47 (f := .free "str") rfl)
  have n_tuple := He.free_ok X G (cd.fact 48 (f := .free "tuple") rfl)
  have D__law_begun : DefAt K mg "_law_begun" sBegun := ⟨cd.def_ 0 (d := dd 32 "_law_begun") rfl, g__law_begun⟩
  have D__law_take : DefAt K mg "_law_take" sTake := ⟨cd.def_ 1 (d := dd 33 "_law_take") rfl, g__law_take⟩
  have D__law_marks : DefAt K mg "_law_marks" sMarksL := ⟨cd.def_ 2 (d := dd 35 "_law_marks") rfl, g__law_marks⟩
  have D__law_rule : DefAt K mg "_law_rule" sRuleL := ⟨cd.def_ 3 (d := dd 36 "_law_rule") rfl, g__law_rule⟩
  have D__law_papers : DefAt K mg "_law_papers" sPapersL := ⟨cd.def_ 4 (d := dd 37 "_law_papers") rfl, g__law_papers⟩
  have D__law_pairs : DefAt K mg "_law_pairs" sPairs := ⟨cd.def_ 5 (d := dd 43 "_law_pairs") rfl, g__law_pairs⟩
  have D__law_heads : DefAt K mg "_law_heads" sHeadsL := ⟨cd.def_ 6 (d := dd 39 "_law_heads") rfl, g__law_heads⟩
  have D__law_held : DefAt K mg "_law_held" sHeldL := ⟨cd.def_ 7 (d := dd 38 "_law_held") rfl, g__law_held⟩
  have D__law_needs : DefAt K mg "_law_needs" sNeedsL := ⟨cd.def_ 8 (d := dd 41 "_law_needs") rfl, g__law_needs⟩
  have D__law_reach : DefAt K mg "_law_reach" sReachL := ⟨cd.def_ 9 (d := dd 42 "_law_reach") rfl, g__law_reach⟩
  have D_is_small : DefAt K mg "is_small" sIsSmall := ⟨cd.def_ 10 (d := dd 19 "is_small") rfl, g_is_small⟩
  have D_is_word : DefAt K mg "is_word" sIsWord := ⟨cd.def_ 11 (d := dd 20 "is_word") rfl, g_is_word⟩
  have D_is_marks : DefAt K mg "is_marks" sIsMarks := ⟨cd.def_ 12 (d := dd 21 "is_marks") rfl, g_is_marks⟩
  have D_is_row : DefAt K mg "is_row" sIsRow := ⟨cd.def_ 13 (d := dd 22 "is_row") rfl, g_is_row⟩
  have D_check_rule : DefAt K mg "check_rule" sCheckRule := ⟨cd.def_ 14 (d := dd 23 "check_rule") rfl, g_check_rule⟩
  have D_check_papers : DefAt K mg "check_papers" sCheckPapers := ⟨cd.def_ 15 (d := dd 24 "check_papers") rfl, g_check_papers⟩
  have D_holds : DefAt K mg "holds" sHolds := ⟨cd.def_ 16 (d := dd 8 "holds") rfl, g_holds⟩
  have D_heads_in_turn : DefAt K mg "heads_in_turn" sTurn := ⟨cd.def_ 17 (d := dd 9 "heads_in_turn") rfl, g_heads_in_turn⟩
  have D_main_head : DefAt K mg "main_head" sMain := ⟨cd.def_ 18 (d := dd 11 "main_head") rfl, g_main_head⟩
  have D_rising_heads : DefAt K mg "rising_heads" sRising := ⟨cd.def_ 19 (d := dd 10 "rising_heads") rfl, g_rising_heads⟩
  have D_needs_of_marks : DefAt K mg "needs_of_marks" sNeedsOf := ⟨cd.def_ 20 (d := dd 30 "needs_of_marks") rfl, g_needs_of_marks⟩
  have D_needed : DefAt K mg "needed" sNeeded := ⟨cd.def_ 21 (d := dd 27 "needed") rfl, g_needed⟩
  have D_rule_heads : DefAt K mg "rule_heads" sRuleHeads := ⟨cd.def_ 22 (d := dd 12 "rule_heads") rfl, g_rule_heads⟩
  have D_check_head : DefAt K mg "check_head" sCheckHead := ⟨cd.def_ 23 (d := dd 25 "check_head") rfl, g_check_head⟩
  have D_come_to : DefAt K mg "come_to" sCome := ⟨cd.def_ 24 (d := dd 28 "come_to") rfl, g_come_to⟩
  have D_enough : DefAt K mg "enough" sEnough := ⟨cd.def_ 25 (d := dd 29 "enough") rfl, g_enough⟩
  have D__law_alike : DefAt K mg "_law_alike" sAlike := ⟨cd.def_ 26 (d := dd 34 "_law_alike") rfl, g__law_alike⟩
  have D__law_far : DefAt K mg "_law_far" sFar := ⟨cd.def_ 27 (d := dd 44 "_law_far") rfl, g__law_far⟩
  have D_law : DefAt K mg "law" sLaw := ⟨cd.def_ 28 (d := dd 45 "law") rfl, g_law⟩
  obtain ⟨fd, F⟩ := D_law.fn
  have b := FunD.bindsA (ps := ["_law_script"]) F fun _ _ _ _ _ _ us hl => match us, hl with | [_], _ => rfl
  refine ⟨fd, tfs.map (He.cT K), spLaw K ((tfs.map (He.cT K)).map (·.2)), g_law, fun p hp => ?_, fun p hp => ?_, fun p hp => ?_, fun s u => b s [u] rfl, fun H a ns hl _ ht hS => ⟨a, ns, rfl, hS, hl, fun P hP => ?_, fun _ => rfl⟩, fun base hK hns tb => ?_⟩
  · obtain ⟨q, hq, e⟩ := List.mem_map.mp hp
    rw [← e]
    exact c.empty q hq
  · obtain ⟨q, hq, e⟩ := List.mem_map.mp hp
    rw [← e]
    exact c.out q hq
  · obtain ⟨q, hq, e⟩ := List.mem_map.mp hp
    rw [← e]
    exact PySem.W.codeHd_of_K X (c.hd q hq)
  · obtain ⟨q, hq, e⟩ := List.mem_map.mp hP
    rw [← e]
    exact ⟨#[], ht q hq, trivial⟩
  · have inT : ∀ q ∈ tfs, (He.cT K q).2 ∈ (tfs.map (He.cT K)).map (·.2) := fun q hq => List.mem_map.mpr ⟨_, List.mem_map.mpr ⟨q, hq, rfl⟩, rfl⟩
    have tBa : ∀ q ∈ tfs, GxR.TabB base mg (He.cT K q).1 (He.cT K q).2 := fun q hq => have z := tb _ (List.mem_map.mpr ⟨q, hq, rfl⟩); ⟨z.code, z.bm, z.gP⟩
    have tB : ∀ q ∈ tfs, GxR.TabB base mg (He.cT K q).1 (He.cT K q).2 := fun q hq => tBa q (hq)
    have m_holds : ((("holds" : Str), none) : He.Defn) ∈ tfs := by simp [tfs]
    have m_is_small : ((("is_small" : Str), none) : He.Defn) ∈ tfs := by simp [tfs]
    have m_is_row : ((("is_row" : Str), none) : He.Defn) ∈ tfs := by simp [tfs]
    have m_enough : ((("enough" : Str), none) : He.Defn) ∈ tfs := by simp [tfs]
    generalize (tfs.map (He.cT K)).map (·.2) = T at inT
    have C__law_begun := ok_begun (P := P) (w := w) (base := base) D__law_begun n_len n_list n_int
    have C__law_take := ok_take (P := P) (w := w) (base := base) D__law_take
    have C__law_marks := ok_marksL D__law_marks C__law_take
    have C__law_rule := ok_ruleL D__law_rule C__law_take C__law_marks n_len n_range
    have C__law_papers := ok_papersL D__law_papers C__law_take C__law_marks n_len n_range
    have C__law_pairs := ok_pairs (P := P) (w := w) (base := base) D__law_pairs C__law_take n_range n_len n_sorted n_set
    have C__law_heads := ok_headsL (P := P) (w := w) (base := base) D__law_heads n_sorted n_set
    have C__law_held := ok_heldL (P := P) (w := w) (base := base) D__law_held n_int
    have C__law_needs := ok_needsL (P := P) (w := w) (base := base) D__law_needs C__law_held n_sorted n_set
    have C__law_reach := ok_reach13 (P := P) (w := w) (base := base) D__law_reach n_sorted n_set
    have C_is_small := ok_isSmall (P := P) (w := w) (T := T) D_is_small (tB _ m_is_small) (inT _ m_is_small) n_all g_LETTERS
    have C_is_word := ok_isWord D_is_word C_is_small n_len g_LONGEST_WORD
    have C_is_marks := ok_isMarks (P := P) (w := w) (base := base) D_is_marks g_MARKS
    have C_is_row := ok_isRow D_is_row (tB _ m_is_row) (inT _ m_is_row) C_is_word C_is_marks n_any g_REST
    have C_check_rule := ok_checkRule D_check_rule C_is_row n_set n_enumerate n_len g_MOST_ROWS g_MOST_HEADS
    have C_check_papers := ok_checkPapers D_check_papers C_is_word C_is_marks n_set n_enumerate g_MOST_PAPERS
    have C_holds := ok_holds (P := P) (w := w) (T := T) D_holds (tB _ m_holds) (inT _ m_holds) n_all n_any
    have C_heads_in_turn := ok_turn D_heads_in_turn C_holds g_REST
    have C_main_head := ok_main D_main_head C_heads_in_turn
    have C_rising_heads := ok_rising D_rising_heads C_heads_in_turn n_sorted n_set
    have C_needs_of_marks := ok_needsOf D_needs_of_marks C_main_head C_rising_heads
    have C_needed := ok_needed D_needed C_check_rule C_check_papers C_needs_of_marks n_set n_sorted
    have C_rule_heads := ok_ruleHeads (P := P) (w := w) (base := base) D_rule_heads n_sorted n_set g_REST
    have C_check_head := ok_checkHead D_check_head C_rule_heads
    have C_come_to := ok_come (P := P) (w := w) (base := base) D_come_to n_sorted
    have C_enough := ok_enough D_enough C_needed C_check_head C_come_to (tB _ m_enough) (inT _ m_enough) n_all
    have C__law_alike := ok_alike (P := P) (w := w) (base := base) D__law_alike n_isinstance n_bool n_int n_str n_tuple n_list n_len n_range 4
    have C__law_far := ok_far D__law_far C__law_take C_come_to C__law_reach C__law_alike n_range n_len
    exact ok_law13 F C__law_begun C__law_rule C__law_papers C__law_take C__law_pairs C__law_heads C__law_needs C__law_reach C_needed C_enough C_come_to C__law_alike C__law_far n_range n_len n_list
end Fc
open PySem PySem.W PySem.Calls PyProof.Rows
theorem PySem.Challenge.cw_filecross_k13_cards_holds : PySem.Challenge.rw_filecross_k13_cards.Holds := by
  w_on; o_law
  refine HandSHeadRun.head_any (r := OpenLaw.row PySem.Challenge.rw_filecross_k13_cards) (q := view (OpenLaw.row PySem.Challenge.rw_filecross_k13_cards).prog [45]) (H := Fc.hk) (ob := Fc.ob) (M := 4000) (loose := Fc.loose) (d := HandSHeadRun.topDef (OpenLaw.row PySem.Challenge.rw_filecross_k13_cards).prog 45) (kwd := []) Fc.ob_eq
    (by kernel_rfl) (fun s => by kernel_rfl) Fc.run (by kernel_rfl) (by kernel_rfl) (by kernel_rfl) (by rfl) (by first | assumption | decide +kernel) (by decide +kernel) ⟨rfl, rfl, rfl, rfl, rfl, by decide +kernel⟩ ?hw ?hc
  case hw => w_witness2
  case hc =>
    refine LamX.walk_ofTsE (l := PySem.Challenge.rw_filecross_k13_cards) (n := 63) (k := 9) (x := "_law_script") (CX := fun _ => L2.CX0) rfl (by decide) (by kernel_rfl) ⟨rfl, by decide, by decide⟩ ?F (fun _ _ _ _ _ z => z)
    intro w mg fa h Y G hmg0
    obtain ⟨K, KX, c⟩ := Y
    have hmg : mg ("law" : PySem.Str) = some (.ref fa) := by
      have e : (HandSHeadRun.topDef (OpenLaw.row PySem.Challenge.rw_filecross_k13_cards).prog 45).name = ("law" : PySem.Str) := by kernel_rfl
      rw [← e]
      exact hmg0
    obtain ⟨fd, cs, sp, e, r⟩ := Fc.facts (P := (PySem.Challenge.rw_filecross_k13_cards).prog) (w := w) KX G c
    rw [hmg] at e
    cases e
    exact ⟨K, KX, fd, cs, sp, r⟩
