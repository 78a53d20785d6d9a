import PyProof.Rows.All
import Wide.All
import OpenK.AllK
import Wide.FinOn
import HandS.Style
import KE.KStateDown
import HandS.ForMost
import HandS.AnyAll
import HandS.Defaults
import HandS.Flow
import HandS.Wide
import HandS.IsInst
import HandS.SetKeys
import HandS.Walk
import HandS.Evl
import HandS.Head2
import HandS.HeadHook4
import HandS.HeadWalk
import HandS.Nested
import HandS.Codes
import HandS.Set
import PyProof.Rows.SetFrom
import HandS.SortRule
import HandS.SortOrd
import PyProof.SetRoads
import HandS.DictComp
import HandS.ListItems
import HandS.Records
import HandS.GenOver
import HandS.DeepEq
import HandS.WordsDict
import HandS.SetFor
import PyProof.SeqRoads2
import KE.KDictSum
import HandS.Conv
import KE.LtSeq
import KE.DataMinMax
import KE.KDictList
import KE.KExcSuper
import KE.KExcIs
import HandS.ExcCtx
import HandS.ExcInit
import HandS.HotCalls
import HandS.FStr
import HandS.ExcField
import KE.DataFind
import HandS.Head3
import KE.GoesComp
import KE.GoesRaise
import PyProof.StrLawsChain
import PyProof.ListStr
import HandS.Lambda
import PySem.Challenge.RW_filecross_k01_rules_refused
set_option Elab.async false
set_option linter.all false
set_option maxRecDepth 100000
set_option maxHeartbeats 4000000
namespace Fc
open PySem PySem.Spec PyProof.Rows L2
def top (i : Nat) : Stmt := PySem.Challenge.pw_filecross_k01_rules_refused.main.body.getD i (.Pass ⟨0, 0, 0, 0⟩)
abbrev sBegun : Stmt := top 82
abbrev sTake : Stmt := top 83
abbrev sMarksL : Stmt := top 86
abbrev sRuleL : Stmt := top 87
abbrev sBadL : Stmt := top 90
abbrev sIsSmall : Stmt := top 26
abbrev sIsWord : Stmt := top 27
abbrev sIsMarks : Stmt := top 28
abbrev sIsRow : Stmt := top 29
abbrev sCheckX : Stmt := top 31
abbrev sHeadsOfX : Stmt := top 37
abbrev sMainOfX : Stmt := top 38
abbrev sRightX : Stmt := top 49
abbrev sFoundByX : Stmt := top 50
abbrev sSlipsX : Stmt := top 58
abbrev sSearchX : Stmt := top 59
abbrev sAmissX : Stmt := top 69
abbrev sMendedX : Stmt := top 70
abbrev sDoneX : Stmt := top 71
abbrev sPartingX : Stmt := top 54
abbrev sAlikePX : Stmt := top 55
abbrev sWrittenX : Stmt := top 79
abbrev sNeededX : Stmt := top 40
abbrev sEnoughX : Stmt := top 42
abbrev sFewestX : Stmt := top 43
abbrev sWorksX : Stmt := top 91
abbrev sClass : Stmt := top 85
abbrev sRefused : Stmt := top 89
abbrev sAlike : Stmt := top 84
abbrev sCheckRule : Stmt := top 31
abbrev sCheckMarks : Stmt := top 34
abbrev sHolds : Stmt := top 14
abbrev sTurn : Stmt := top 15
abbrev sRising : Stmt := top 16
abbrev sHeadsOf : Stmt := top 37
abbrev sCheckPapers : Stmt := top 32
abbrev sRuleHeads : Stmt := top 18
abbrev sMain : Stmt := top 17
abbrev sRight : Stmt := top 49
abbrev sWrittenRow : Stmt := top 80
abbrev sWritten : Stmt := top 79
abbrev sNamed : Stmt := top 19
abbrev sToldOf : Stmt := top 56
abbrev sParting : Stmt := top 54
abbrev sAlikeP : Stmt := top 55
abbrev sLaw : Stmt := top 92
end Fc
set_option maxHeartbeats 4000000
/-! What stays between two heaps (Kp), data (Dn), rules that are lacking. -/
namespace Fc
open PySem PySem.Spec PyProof.Rows L2
/-! ### what stays -/
def IsTb (o : HO) : Prop := ∃ ps : Array Value, o = .tbl ps ∧ TriplesOk ps.toList
/-- behind H stands H': all but what S names stands as it stood, tables may have grown -/
def Kp (S : Addr → Prop) (H H' : Hp) : Prop := ∀ a o, H a = some o → ∃ u, H' a = some u ∧ (u = o ∨ (S a ∧ ¬ IsTb o ∧ ¬ IsTb u) ∨ (IsTb o ∧ IsTb u))
abbrev N0 : Addr → Prop := fun _ => False
section
variable {S S' : Addr → Prop} {H H1 H2 H' : Hp} {p a : Addr} {o u : HO}
theorem Kp.refl : Kp S H H := fun a o h => ⟨o, h, .inl rfl⟩
theorem Kp.trans (x : Kp S H H1) (y : Kp S H1 H2) : Kp S H H2 := fun a o h => by
  obtain ⟨u, hu, c⟩ := x a o h
  obtain ⟨w, hw, d⟩ := y a u hu
  refine ⟨w, hw, ?_⟩
  rcases c with rfl | ⟨c1, c2, c3⟩ | ⟨c1, c2⟩
  · exact d
  · rcases d with rfl | ⟨_, _, d3⟩ | ⟨d1, _⟩
    · exact .inr (.inl ⟨c1, c2, c3⟩)
    · exact .inr (.inl ⟨c1, c2, d3⟩)
    · exact (c3 d1).elim
  · rcases d with rfl | ⟨_, d2, _⟩ | ⟨_, d2⟩
    · exact .inr (.inr ⟨c1, c2⟩)
    · exact (d2 c2).elim
    · exact .inr (.inr ⟨c1, d2⟩)
theorem Kp.mono (hs : ∀ a, S a → S' a) (x : Kp S H H') : Kp S' H H' := fun a o h => by
  obtain ⟨u, hu, c⟩ := x a o h
  exact ⟨u, hu, c.imp id (Or.imp (fun z => ⟨hs a z.1, z.2⟩) id)⟩
theorem Kp.up (x : Kp N0 H H') : Kp S H H' := x.mono fun _ z => z.elim
theorem Kp.new (h : H p = none) : Kp S H (upd H p o) := fun a u e => ⟨u, by rw [upd_ne (ne_of_none e h)]; exact e, .inl rfl⟩
theorem Kp.mut (x : Kp S H H') (h : H p = none) : Kp S H (upd H' p o) := fun a u e => by
  obtain ⟨w, hw, c⟩ := x a u e
  exact ⟨w, by rw [upd_ne (ne_of_none e h)]; exact hw, c⟩
theorem Kp.mutS (hs : S p) (h : H p = some u) (h1 : ¬ IsTb u) (h2 : ¬ IsTb o) : Kp S H (upd H p o) := fun a w e => by
  by_cases q : a = p
  · subst q
    rw [h] at e
    cases e
    exact ⟨o, upd_same, .inr (.inl ⟨hs, h1, h2⟩)⟩
  · exact ⟨w, by rw [upd_ne q]; exact e, .inl rfl⟩
theorem Kp.fresh (x : Kp S H H') (h : H' p = none) : H p = none := by
  cases q : H p with
  | none => rfl
  | some o =>
    obtain ⟨u, hu, _⟩ := x p o q
    rw [h] at hu
    cases hu
theorem Kp.obj (x : Kp S H H') (h : H a = some o) (ht : ¬ IsTb o) (hs : ¬ S a) : H' a = some o := by
  obtain ⟨u, hu, c⟩ := x a o h
  rcases c with rfl | ⟨c1, _⟩ | ⟨c1, _⟩
  · exact hu
  · exact (hs c1).elim
  · exact (ht c1).elim
theorem nn {a : Addr} : ¬ N0 a := fun z => z
theorem ntl {xs : List V} : ¬ IsTb (.lst xs) := fun ⟨_, e, _⟩ => nomatch e
theorem ntt {xs : List V} : ¬ IsTb (.tup xs) := fun ⟨_, e, _⟩ => nomatch e
theorem ntf {ob : Obj} {v : HO} : ¬ IsTb (.frz ob v) := fun ⟨_, e, _⟩ => nomatch e
theorem ntd {kvs : List (Key × V)} : ¬ IsTb (.dK kvs) := fun ⟨_, e, _⟩ => nomatch e
theorem nte {φ : Heap → Prop} : ¬ IsTb (.ext φ) := fun ⟨_, e, _⟩ => nomatch e
/-- the tables at these stand -/
def Tbs (T : List Addr) (H : Hp) : Prop := ∀ P ∈ T, GxR.TabG H P
theorem Kp.tab (x : Kp S H H') (h : GxR.TabG H a) : GxR.TabG H' a := by
  obtain ⟨ps, e, t⟩ := h
  obtain ⟨u, hu, c⟩ := x a _ e
  have hb : IsTb (HO.tbl ps) := ⟨ps, rfl, t⟩
  have key : IsTb u := by
    rcases c with rfl | ⟨_, c2, _⟩ | ⟨_, c2⟩
    · exact hb
    · exact (c2 hb).elim
    · exact c2
  obtain ⟨qs, rfl, t2⟩ := key
  exact ⟨qs, hu, t2⟩
theorem Kp.tbs {T : List Addr} (x : Kp S H H') (h : Tbs T H) : Tbs T H' := fun P hP => x.tab (h P hP)
theorem Kp.tabbed (h0 : GxR.TabG H a) (h : GxR.Tabbed a H H') : Kp S H H' := fun b o e => by
  by_cases q : b = a
  · subst q
    obtain ⟨ps, e1, t1⟩ := h0
    obtain ⟨qs, e2, t2⟩ := h.1
    rw [e1] at e
    cases e
    exact ⟨_, e2, .inr (.inr ⟨⟨ps, rfl, t1⟩, ⟨qs, rfl, t2⟩⟩)⟩
  · exact ⟨o, by rw [h.2 b q]; exact e, .inl rfl⟩
end
/-! ### data -/
mutual
inductive Dn (S : Addr → Prop) (H : Hp) : V → PyData → Prop
  | non : Dn S H .non .none
  | bl (b : Bool) : Dn S H (.bl b) (.bool b)
  | int (i : Int) : Dn S H (.int i) (.int i)
  | str (x : Str) : Dn S H (.str x) (.str x)
  | lst {a : Addr} {xs : List V} {ds : List PyData} (hs : ¬ S a) (e : H a = some (.lst xs)) (h : DnA S H xs ds) : Dn S H (.ref a) (.list ds)
  | tup {a : Addr} {xs : List V} {ds : List PyData} (hs : ¬ S a) (e : H a = some (.tup xs)) (h : DnA S H xs ds) : Dn S H (.ref a) (.tuple ds)
inductive DnA (S : Addr → Prop) (H : Hp) : List V → List PyData → Prop
  | nil : DnA S H [] []
  | cons {v : V} {vs : List V} {d : PyData} {ds : List PyData} (h : Dn S H v d) (t : DnA S H vs ds) : DnA S H (v :: vs) (d :: ds)
end
section
variable {S S' : Addr → Prop} {H H1 H2 H' : Hp}
mutual
theorem Dn.kp (k : Kp S H H') : ∀ {v : V} {d : PyData}, Dn S H v d → Dn S H' v d
  | _, _, .non => .non
  | _, _, .bl b => .bl b
  | _, _, .int i => .int i
  | _, _, .str x => .str x
  | _, _, .lst hs e h => .lst hs (k.obj e ntl hs) (DnA.kp k h)
  | _, _, .tup hs e h => .tup hs (k.obj e ntt hs) (DnA.kp k h)
theorem DnA.kp (k : Kp S H H') : ∀ {v : List V} {d : List PyData}, DnA S H v d → DnA S H' v d
  | _, _, .nil => .nil
  | _, _, .cons h t => .cons (Dn.kp k h) (DnA.kp k t)
end
mutual
theorem Dn.weak (k : ∀ a, S' a → S a) : ∀ {v : V} {d : PyData}, Dn S H v d → Dn S' H v d
  | _, _, .non => .non
  | _, _, .bl b => .bl b
  | _, _, .int i => .int i
  | _, _, .str x => .str x
  | _, _, .lst hs e h => .lst (fun z => hs (k _ z)) e (DnA.weak k h)
  | _, _, .tup hs e h => .tup (fun z => hs (k _ z)) e (DnA.weak k h)
theorem DnA.weak (k : ∀ a, S' a → S a) : ∀ {v : List V} {d : List PyData}, DnA S H v d → DnA S' H v d
  | _, _, .nil => .nil
  | _, _, .cons h t => .cons (Dn.weak k h) (DnA.weak k t)
end
mutual
theorem Dn.dp {K : PySem.W.Frag} : ∀ {v : V} {d : PyData}, Dn S H v d → Dp K H v d
  | _, _, .non => .non
  | _, _, .bl b => .bl b
  | _, _, .int i => .int i
  | _, _, .str x => .str x
  | _, _, .lst _ e h => .lst (SqL.of e) (DnA.dp h)
  | _, _, .tup _ e h => .tup (SqT.of e) (DnA.dp h)
theorem DnA.dp {K : PySem.W.Frag} : ∀ {v : List V} {d : List PyData}, DnA S H v d → DpAll K H v d
  | _, _, .nil => .nil
  | _, _, .cons h t => .cons (Dn.dp h) (DnA.dp t)
end
theorem DnA.len : ∀ {v : List V} {d : List PyData}, DnA S H v d → v.length = d.length
  | _, _, .nil => rfl
  | _, _, .cons h t => congrArg Nat.succ t.len
theorem DnA.at : ∀ {vs : List V} {ds : List PyData} {i : Nat} {v : V}, DnA S H vs ds → vs[i]? = some v → ∃ d, ds[i]? = some d ∧ Dn S H v d
  | _, _, _, _, .nil, e => by simp at e
  | _, _, 0, _, .cons h _, e => by simp at e; subst e; exact ⟨_, rfl, h⟩
  | _, _, i + 1, v, .cons _ t, e => by
    obtain ⟨d, h1, h2⟩ := DnA.at (i := i) t (by simpa using e)
    exact ⟨d, by simpa using h1, h2⟩
theorem DnA.at' : ∀ {vs : List V} {ds : List PyData} {i : Nat} {d : PyData}, DnA S H vs ds → ds[i]? = some d → ∃ v, vs[i]? = some v ∧ Dn S H v d
  | _, _, _, _, .nil, e => by simp at e
  | _, _, 0, _, .cons h _, e => by simp at e; subst e; exact ⟨_, rfl, h⟩
  | _, _, i + 1, v, .cons _ t, e => by
    obtain ⟨d, h1, h2⟩ := DnA.at' (i := i) t (by simpa using e)
    exact ⟨d, by simpa using h1, h2⟩
theorem DnA.app : ∀ {xs ys : List V} {ds es : List PyData}, DnA S H xs ds → DnA S H ys es → DnA S H (xs ++ ys) (ds ++ es)
  | _, _, _, _, .nil, h => h
  | _, _, _, _, .cons h t, k => .cons h (t.app k)
theorem DnA.one {v : V} {d : PyData} (h : Dn S H v d) : DnA S H [v] [d] := .cons h .nil
theorem DnA.strs : ∀ (xs : List Str), DnA S H (xs.map V.str) (xs.map PyData.str)
  | [] => .nil
  | x :: xs => .cons (.str x) (DnA.strs xs)
theorem Dn.str_eq {v : V} {x : Str} (h : Dn S H v (.str x)) : v = .str x := by cases h; rfl
theorem Dn.int_eq {v : V} {x : Int} (h : Dn S H v (.int x)) : v = .int x := by cases h; rfl
theorem Dn.bl_eq {v : V} {x : Bool} (h : Dn S H v (.bool x)) : v = .bl x := by cases h; rfl
theorem Dn.non_eq {v : V} (h : Dn S H v .none) : v = .non := by cases h; rfl
theorem Dn.lst_ex {v : V} {ds : List PyData} (h : Dn S H v (.list ds)) : ∃ a xs, v = .ref a ∧ ¬ S a ∧ H a = some (.lst xs) ∧ DnA S H xs ds := by
  cases h with
  | lst hs e h => exact ⟨_, _, rfl, hs, e, h⟩
theorem Dn.tup_ex {v : V} {ds : List PyData} (h : Dn S H v (.tuple ds)) : ∃ a xs, v = .ref a ∧ ¬ S a ∧ H a = some (.tup xs) ∧ DnA S H xs ds := by
  cases h with
  | tup hs e h => exact ⟨_, _, rfl, hs, e, h⟩
theorem DnA.strs_eq : ∀ {vs : List V} {xs : List Str}, DnA S H vs (xs.map PyData.str) → vs = xs.map V.str
  | _, [], h => by cases h; rfl
  | _, x :: xs, h => by
    cases h with
    | cons h t => rw [h.str_eq, t.strs_eq]; rfl
theorem DnA.nil_eq {vs : List V} (h : DnA S H vs []) : vs = [] := by cases h; rfl
theorem DnA.cons_ex {vs : List V} {d : PyData} {ds : List PyData} (h : DnA S H vs (d :: ds)) : ∃ v ws, vs = v :: ws ∧ Dn S H v d ∧ DnA S H ws ds := by
  cases h with
  | cons h t => exact ⟨_, _, rfl, h, t⟩
end
end Fc
set_option maxHeartbeats 4000000
/-! any, all of a generator expression whose element makes nothing that was there otherwise: over a text, a list, a tuple. -/
namespace Fc
open PySem PySem.Spec PyProof.Rows L2
section
variable {X : Cx}
/-- a generator expression's own scope: its one name x, the walked thing, names captured of the def sc's cells -/
def genOk (sc scope : Scope) (x : Str) : Bool := decide (scope.kind = .function) && (!scope.isCoroutine && (scope.names.all (fun y => decide (y.2 ≠ .cell)) && (decide (scope.names.lookup (".0" : Str) = some NameKind.local) &&
  (decide (scope.names.lookup x = some NameKind.local) && scope.names.all fun y => decide (y.2 ≠ .free) || decide (sc.names.lookup y.1 = some .cell)))))
theorem genOk_s {pins : List (Addr × Obj)} {σ : L2.St} {H : Hp} {s : Shared} {scope : Scope} {x : Str} (I : Inv X pins σ H s) (h : genOk X.env.scope scope x = true) : GxR.GenS X.env scope x := by
  obtain ⟨h1, h⟩ := Bool.and_eq_true_iff.mp h
  obtain ⟨h2, h⟩ := Bool.and_eq_true_iff.mp h
  obtain ⟨h3, h⟩ := Bool.and_eq_true_iff.mp h
  obtain ⟨h4, h⟩ := Bool.and_eq_true_iff.mp h
  obtain ⟨h5, h6⟩ := Bool.and_eq_true_iff.mp h
  refine ⟨of_decide_eq_true h1, by simpa using h2, fun y hy => of_decide_eq_true (List.all_eq_true.mp h3 y hy), of_decide_eq_true h4, of_decide_eq_true h5, fun y hy e => ?_⟩
  have q := List.all_eq_true.mp h6 y hy
  rw [e] at q
  have q2 : X.env.scope.names.lookup y.1 = some .cell := by simpa using q
  exact I.ok.has y.1 (.inl q2)
/-- u, walked, gives the values of vs in turn, over addresses other than the table's -/
def Src (X : Cx) (P : Addr) (v : V) (vs : List V) (H1 : Hp) : Prop :=
  ∀ (pins : List (Addr × Obj)) (σ : L2.St) (s1 : Shared) (u : Value) (Qi : Value → Shared → Prop) (Ei : Value → Shared → Prop), Inv X pins σ H1 s1 → RelV v u →
    (∀ (ob : Obj) (fp : List Addr) (St : Nat → Heap → Prop), (∀ b ∈ fp, b = s1.heap.objs.size ∨ (b ≠ P ∧ b < s1.heap.objs.size)) →
      (∀ A' : Around, A'.handled = none → Walks X.prog X.w A' s1.heap.objs.size fp [s1.heap.objs.size] vs.length (fun i q => ∃ x, vs[i]? = some x ∧ RelV x q) St) →
      St 0 (s1.heap.push ob) → Qi (.ref s1.heap.objs.size) { s1 with heap := s1.heap.push ob }) → wpAny (model X.prog X.w) X.A (pyIter u) Qi Ei s1
theorem walks_imp {prog : Program} {w : World} {A : Around} {I : Addr} {fp wr : List Addr} {n m : Nat} {P P' : Nat → Value → Prop} {St : Nat → Heap → Prop} (W : Walks prog w A I fp wr n P St) (hn : n = m) (k : ∀ i v, P i v → P' i v) :
    Walks prog w A I fp wr m P' St := by
  subst hn
  exact ⟨W.sub, W.frame, fun i s Q E hi st q => W.item i s Q E hi st fun v h' tk p => q v h' tk (k i v p), W.done, W.self⟩
def signs (z : Str) : List V := z.cps.toList.map fun c => V.str ⟨#[c]⟩
theorem src_str {P : Addr} {z : Str} {H1 : Hp} : Src X P (.str z) (signs z) H1 := by
  intro pins σ s1 u Qi Ei I r hk
  obtain ⟨t, rfl⟩ := r
  refine wpAny_pyIter_str fun ob St W st => hk ob _ St (fun b hb => .inl (by simpa using hb)) (fun A' hA => walks_imp (W A' hA) (by simp [signs]) fun i q hq => ?_) st
  obtain ⟨c, t', hc, rfl⟩ := hq
  exact ⟨.str ⟨#[c]⟩, by simp [signs, hc], _, rfl⟩
theorem src_lst {P a : Addr} {xs : List V} {H1 : Hp} (ha : H1 a = some (.lst xs)) (hP : GxR.TabG H1 P) : Src X P (.ref a) xs H1 := by
  intro pins σ s1 u Qi Ei I r hk
  obtain rfl : u = Value.ref a := r
  obtain ⟨its, rv, hl, hz⟩ := I.list (SqL.of ha)
  have hi := hl.isList
  have lt : a < s1.heap.objs.size := I.hok.lt ha
  have nP : a ≠ P := fun e => by
    obtain ⟨ps, q, _⟩ := hP
    rw [← e, ha] at q
    cases q
  refine wpAny_pyIter_list hi (hk _ [s1.heap.objs.size, a] _ (fun b hb => ?_) (fun A' hA => walks_imp (Walks.list hA _ a (Nat.ne_of_lt lt) its.toArray) (by simpa using rv.length.symm) fun i q hq => ?_) ⟨⟨_, Heap.get?_push_size _ rfl, rfl, rfl⟩, hi.push _⟩)
  · rcases List.mem_cons.mp hb with q | q
    · exact .inl q
    · rw [List.mem_singleton.mp q]
      exact .inr ⟨nP, lt⟩
  · have hq2 : its[i]? = some q := by simpa using hq
    have hi2 : i < its.length := (List.getElem?_eq_some_iff.mp hq2).1
    have hx : i < xs.length := by rw [rv.length]; exact hi2
    obtain ⟨w, e1, e2⟩ := rv.get (List.getElem?_eq_getElem hx)
    rw [hq2] at e1
    cases e1
    exact ⟨xs[i], List.getElem?_eq_getElem hx, e2⟩
theorem src_tup {P a : Addr} {xs : List V} {H1 : Hp} (ha : H1 a = some (.tup xs)) (hP : GxR.TabG H1 P) : Src X P (.ref a) xs H1 := by
  intro pins σ s1 u Qi Ei I r hk
  obtain rfl : u = Value.ref a := r
  obtain ⟨hz, its, rv, hi⟩ := I.hok a _ ha
  have hi : s1.heap.IsTuple a its.toArray := hi
  have lt : a < s1.heap.objs.size := I.hok.lt ha
  have nP : a ≠ P := fun e => by
    obtain ⟨ps, q, _⟩ := hP
    rw [← e, ha] at q
    cases q
  have hpush : ∀ ob : Obj, (s1.heap.push ob).IsTuple a its.toArray := fun ob => by
    obtain ⟨o, e, r⟩ := hi
    exact ⟨o, Heap.get?_push_of_some _ e, r⟩
  refine wpAny_pyIter_tuple hi (hk _ [s1.heap.objs.size, a] _ (fun b hb => ?_) (fun A' hA => walks_imp (Walks.tuple hA _ a (Nat.ne_of_lt lt) its.toArray) (by simpa using rv.length.symm) fun i q hq => ?_) ⟨⟨_, Heap.get?_push_size _ rfl, rfl, rfl⟩, hpush _⟩)
  · rcases List.mem_cons.mp hb with q | q
    · exact .inl q
    · rw [List.mem_singleton.mp q]
      exact .inr ⟨nP, lt⟩
  · have hq2 : its[i]? = some q := by simpa using hq
    have hi2 : i < its.length := (List.getElem?_eq_some_iff.mp hq2).1
    have hx : i < xs.length := by rw [rv.length]; exact hi2
    obtain ⟨w, e1, e2⟩ := rv.get (List.getElem?_eq_getElem hx)
    rw [hq2] at e1
    cases e1
    exact ⟨xs[i], List.getElem?_eq_getElem hx, e2⟩
/-- the element, of the i-th value a test f i; the heap grows -/
def Elt (X : Cx) (σ : L2.St) (P : Addr) (scope : Scope) (x : Str) (elt : Expr) (vs : List V) (f : Nat → Bool) (H1 : Hp) : Prop :=
  ∀ (pins : List (Addr × Obj)) (s1 : Shared), Inv X pins σ H1 s1 → ∀ (cenv : Env) (A' : Around) (E' : Value → Shared → Prop) (i : Nat) (v : V) (u : Value) (s2 : Shared) (m2 : Str → Option Value),
    cenv.scope = scope → cenv.cells = cloFrom X.env.cells scope.names [] → cenv.globals = X.env.globals → A'.handled = none → vs[i]? = some v → RelV v u → s2.heap.Ns cenv.locals m2 → m2 x = some u →
    (∀ b o, b ≠ P → s1.heap.get? b = some o → s2.heap.get? b = some o) → wpAny (model X.prog X.w) A' (eval elt cenv) (fun y s3 => y = .bool (f i) ∧ Keeps s2 s3) E' s2
theorem gen_any {pins : List (Addr × Obj)} {σ : L2.St} {H : Hp} {s : Shared} {c P : Addr} {elt iter : Expr} {x : Str} {px gp : Pos} {scope : Scope} {te : TE} {k : Nat} {Qg : Value → Shared → Prop} {R : Nat → (Nat → Bool) → Hp → Prop}
    (hr : Room k X.A) (TB : GxR.TabB X.base X.mg c P) (hcode : X.env.code = .ref c) (hS : genOk X.env.scope scope x = true) (hi : PE X iter te) (hs : ∀ v, genFold iter X.env v = pure v) (I : Inv X pins σ H s)
    (h : te σ H fun v H1 => GxR.TabG H1 P ∧ ∃ vs f, Src X P v vs H1 ∧ Elt X σ P scope x elt vs f H1 ∧ R vs.length f H1)
    (hQ : ∀ (n : Nat) (f : Nat → Bool) (H1 : Hp) (g : Addr) (s5 : Shared) (fp wr : List Addr) (G : Array GenState → Array GenState → Prop) (F : Nat → Value → Prop) (St : Nat → Shared → Prop), R n f H1 → WalksS X.prog X.w X.A.in1 g fp wr G n F St → St 0 s5 →
      TruthOf X.prog X.w X.A.in1 F f → (∀ s', Moved wr G s5 s' → ∃ H2, GxR.Tabbed P H1 H2 ∧ Inv X pins σ H2 s') → Qg (.ref g) s5) :
    wpAny (model X.prog X.w) X.A (eval (.GeneratorExp elt [⟨.Name x px, iter, [], 0⟩] scope gp) X.env) Qg X.xe s := by
  have S := genOk_s I hS
  refine wpAny_GeneratorExp_walksQ hr.hd S.co (closure_ok S.free) S.cell S.dot S.loc S.kind (by have z := hr.dp; omega) ?_ hs
  refine thn (hi.run pins s σ H _ I h) fun u s1 ⟨v, H1, I1, r1, tabP, vs, f, src, el, rr⟩ => ?_
  obtain ⟨ps, hP, trip⟩ := tabP
  refine src pins σ s1 u _ _ I1 r1 fun ob fp St hfp W st0 => ?_
  have atP : s1.heap.get? P = some { cls := .none, data := .fields ps } := I1.hok P _ hP
  have ltP : P < s1.heap.objs.size := Heap.lt_size atP
  have atP2 := Heap.get?_push_of_some ob atP
  have limit2 := I1.nolimit.push ob
  have codeHd := TB.code.keeps (h' := s1.heap.push ob) fun b q e => Heap.get?_push_of_some _ (I1.bk b q e)
  have size2 : (s1.heap.push ob).objs.size = s1.heap.objs.size + 1 := Heap.size_push ..
  have main : ∀ (code : Value) (h3 : Heap) (tk : Nat) (qs : Array Value), Heap.ExtBut P (s1.heap.push ob) h3 → (s1.heap.push ob).objs.size ≤ h3.objs.size → h3.get? P = some { cls := .none, data := .fields qs } → (∃ more, qs = ps ++ more) → TriplesOk qs.toList → wpAny (model X.prog X.w) X.A (builtinsFor X.env.globals X.env.builtins) (fun bi s4 => ∃ Ia fp' wr' n' P' St' pz F', Value.ref s1.heap.objs.size = .ref Ia ∧ (∀ A' : Around, A'.handled = none → Walks X.prog X.w A' Ia fp' wr' n' P' St') ∧ St' 0 s4.heap ∧ (∀ b ∈ fp', b < s4.heap.objs.size) ∧ s4.heap.NoLimit ∧ cStatics ∉ wr' ∧ (∀ hf : Heap, (∀ b o, s4.heap.get? b = some o → hf.get? b = some o) → QuietGen X.prog X.w (genEnv scope (cloFrom X.env.cells scope.names []) s4.heap.objs.size code bi X.env) x [] elt (List.range s4.heap.objs.size) wr' P' pz F' hf) ∧ (∀ a h5 tk5 gs, gs.bare = true → s4.heap.objs.size < a → h5.objs.size = a + 1 → (∀ b o, s4.heap.get? b = some o → h5.get? b = some o) → WalksS X.prog X.w X.A.in4 a (a :: s4.heap.objs.size :: List.range s4.heap.objs.size) (s4.heap.objs.size :: wr') (GenOnlyQ s4.gens.size) (passing pz n' 0).length (fun j y => ∃ i, (passing pz n' 0)[j]? = some i ∧ F' i y) (GenAt X.prog X.w X.A.in4 a s4.gens.size s4.heap.objs.size (List.range s4.heap.objs.size) wr' pz n' F') → GenAt X.prog X.w X.A.in4 a s4.gens.size s4.heap.objs.size (List.range s4.heap.objs.size) wr' pz n' F' 0 { s4 with gens := s4.gens.push gs, toks := tk5, heap := h5 } → Qg (.ref a) { s4 with gens := s4.gens.push gs, toks := tk5, heap := h5 })) X.xe { s1 with heap := h3, toks := tk } := by
    intro code h3 tk qs hx hsz hP3 hmore trip3
    obtain ⟨bm, obm, b1, b2, b3, b4, b5, b6, b7, b8⟩ := TB.bm
    have statics : cStatics < s1.heap.objs.size := let ⟨_, q, _⟩ := I1.nolimit; q.lt
    have staticsP : cStatics ≠ P := fun e => by
      obtain ⟨_, ns, _⟩ := I1.nolimit
      obtain ⟨o', es, ep, q1, q2, _⟩ := ns
      rw [e, atP] at q1
      cases q1
      cases q2
    have kept3 : ∀ b q, b ≠ P → s1.heap.get? b = some q → h3.get? b = some q := fun b q nb e => hx b q nb (Heap.get?_push_of_some _ e)
    have globals : h3.Ns X.env.globals X.mg := by
      rw [I1.ok.glob]
      exact ((I1.mod.glob.keeps I1.bk).push ob).extBut hx TB.gP
    refine wpAny_builtinsFor globals b1 b2 (kept3 _ _ b4 (I1.bk _ _ b5)) b6 b7 b8 ?_
    refine ⟨s1.heap.objs.size, fp, [s1.heap.objs.size], vs.length, _, St, (fun _ => true), (fun i y => (∃ q, vs[i]? = some q) ∧ y = .bool (f i)), rfl, W, ?_, fun b hb => ?_, limit2.extBut hx staticsP, fun z => ?_, fun hf keep => ?_, ?_⟩
    · refine (W X.A hr.hd).frame _ _ _ st0 fun b hb q e => hx b q (fun z => ?_) e
      rcases hfp b hb with y | y
      · exact Nat.ne_of_lt ltP (z.symm.trans y)
      · exact y.1 z
    · have big : s1.heap.objs.size < h3.objs.size := Nat.lt_of_lt_of_le (by rw [size2]; exact Nat.lt_succ_self _) hsz
      rcases hfp b hb with y | y
      · rw [y]
        exact big
      · exact Nat.lt_trans y.2 big
    · exact Nat.ne_of_lt statics (List.mem_singleton.mp z)
    · refine ⟨fun A' E' i v2 s2 m2 hA hv hn hm hk => ?_, fun A' E' i v2 s2 m2 hA hv _ hn hm hk => ?_⟩
      · rw [List.forIn_nil]
        exact wpAny_pure ⟨rfl, GxR.keeps_refl _⟩
      · obtain ⟨y, hy, ry⟩ := hv
        refine wpAny_mono (el pins s1 I1 _ A' E' i y v2 s2 m2 rfl rfl rfl hA hy ry hn hm fun b o nb e => ?_) (fun z s3 q => ⟨⟨⟨y, hy⟩, q.1⟩, q.2⟩) fun _ _ e => e
        have e3 := kept3 b o nb e
        have lt1 := Heap.lt_size e
        exact hk b (List.mem_range.mpr (Heap.lt_size e3)) (fun z => Nat.ne_of_lt lt1 (List.mem_singleton.mp z)) o (keep b o e3)
    · intro g h5 tk5 gs hgb hag hsz5 hk5 W5 hat
      rw [GxR.passing_true, List.length_range] at W5
      refine hQ vs.length f H1 g _ _ _ _ _ _ rr W5.in4_1 hat ?_ fun s' hm => ?_
      · intro j y sj Qj Ej hy hQj
        obtain ⟨i, hij, _, rfl⟩ := hy
        obtain ⟨hj, ej⟩ := List.getElem?_eq_some_iff.mp hij
        rw [List.getElem_range] at ej
        subst ej
        exact wpAny_truthy_bool hQj
      · obtain ⟨more, em⟩ := hmore
        have notW : ∀ b q, s1.heap.get? b = some q → b ∉ h3.objs.size :: [s1.heap.objs.size] := fun b q e hb => by
          have lt1 := Heap.lt_size e
          rcases List.mem_cons.mp hb with z | z
          · have big : s1.heap.objs.size < h3.objs.size := Nat.lt_of_lt_of_le (by rw [size2]; exact Nat.lt_succ_self _) hsz
            rw [z] at lt1
            exact Nat.lt_irrefl _ (Nat.lt_trans lt1 big)
          · exact Nat.ne_of_lt lt1 (List.mem_singleton.mp z)
        have atPe : s'.heap.get? P = some { cls := .none, data := .fields (ps ++ more) } := by
          rw [← em]
          exact hm.heap P _ (notW P _ atP) (hk5 P _ hP3)
        have J := GxR.inv_tab (more := more) (h' := s'.heap) (g' := s'.gens) (d' := s'.drawn) (t' := s'.toks) I1 hP (fun b q nb e => hm.heap b q (notW b q e) (hk5 b q (kept3 b q nb e))) atPe (AllBare.movedS (I1.bare.push hgb) hm)
        rw [GxR.sh_eta s1 s' hm.os] at J
        exact ⟨_, ⟨⟨ps ++ more, upd_same, by rw [← em]; exact trip3⟩, fun b nb => upd_ne nb⟩, J⟩
  refine ⟨limit2, ?_⟩
  cases hc : codeAmong gp ps.toList with
  | none =>
    refine wpAny_genexprCodeX hcode (codeHd.code atP2 trip) (codeHd.tab atP2) hc fun c' h' tk hx hge hlt hco _ htab _ => ?_
    obtain ⟨_, _, _, _, _, _, _, _, _, _, _, _, _, _, _, _, _, _, _, tr3, _⟩ := hco
    exact main _ h' tk _ hx (Nat.le_trans hge (Nat.le_of_lt hlt)) htab.2 ⟨_, rfl⟩ tr3
  | some cv =>
    refine wpAny_genexprCode_hit hcode (codeHd.code atP2 trip) hc ?_
    exact main cv _ s1.toks ps (Heap.ExtBut.refl _ _) (Nat.le_refl _) atP2 ⟨#[], by simp⟩ trip
theorem boot_all' : bootBuiltins "all" = some (.builtin "all") := by decide +kernel
/-- all(..), any(..) of n tests f -/
def tGen (X : Cx) (b : Bool) (P : Addr) (scope : Scope) (x : Str) (elt : Expr) (te : TE) : TE := fun σ H Q => te σ H fun v H1 => GxR.TabG H1 P ∧ ∃ vs f, Src X P v vs H1 ∧ Elt X σ P scope x elt vs f H1 ∧
  ∀ H2, GxR.Tabbed P H1 H2 → Q (.bl (if b = true then (List.range vs.length).all f else (List.range vs.length).any f)) H2
theorem pe_all {c P : Addr} {elt iter : Expr} {x : Str} {px p pos gp : Pos} {scope : Scope} {te : TE} {k : Nat} (hr : Room k X.A) (hg : Gl X "all") (hm : X.mg "all" = none) (TB : GxR.TabB X.base X.mg c P) (hcode : X.env.code = .ref c)
    (hi : PE X iter te) (hS : genOk X.env.scope scope x = true := by rfl) (hs : ∀ v, genFold iter X.env v = pure v := by exact fun _ => rfl) (he : starEach [.GeneratorExp elt [⟨.Name x px, iter, [], 0⟩] scope gp] X.env = (false, eval (.GeneratorExp elt [⟨.Name x px, iter, [], 0⟩] scope gp) X.env) :: starEach [] X.env := by rfl) :
    PE X (.Call (.Name "all" p) [.GeneratorExp elt [⟨.Name x px, iter, [], 0⟩] scope gp] [] pos) (tGen X true P scope x elt te) := by
  refine ⟨fun pins s σ H Q I h => ?_⟩
  refine wpAny_Call_Name_kw (ld_blt I hg hm boot_all' ?_)
  refine PyProof.Rows.callWith_builtin1 ?_ he (by rfl)
  rw [he]
  show wpAny _ _ (spliced ((false, eval (.GeneratorExp elt [⟨.Name x px, iter, [], 0⟩] scope gp) X.env) :: backTo pos (starEach [] X.env))) _ _ s
  refine Calls.spliced_cons (gen_any (R := fun n f H1 => ∀ H2, GxR.Tabbed P H1 H2 → Q (.bl ((List.range n).all f)) H2) hr TB hcode hS hi hs I h fun n f H1 g s5 fp wr G F St rr W st tr mv => Calls.spliced_nil ?_)
  refine call_all_walkS (W.self 0 _ _ _ st ⟨g, fp, wr, G, n, F, St, f, rfl, W, st, tr, fun s' m => ?_⟩)
  obtain ⟨H2, t2, J⟩ := mv s' m
  exact ⟨.bl _, H2, J, rfl, rr H2 t2⟩
theorem pe_any {c P : Addr} {elt iter : Expr} {x : Str} {px p pos gp : Pos} {scope : Scope} {te : TE} {k : Nat} (hr : Room k X.A) (hg : Gl X "any") (hm : X.mg "any" = none) (TB : GxR.TabB X.base X.mg c P) (hcode : X.env.code = .ref c)
    (hi : PE X iter te) (hS : genOk X.env.scope scope x = true := by rfl) (hs : ∀ v, genFold iter X.env v = pure v := by exact fun _ => rfl) (he : starEach [.GeneratorExp elt [⟨.Name x px, iter, [], 0⟩] scope gp] X.env = (false, eval (.GeneratorExp elt [⟨.Name x px, iter, [], 0⟩] scope gp) X.env) :: starEach [] X.env := by rfl) :
    PE X (.Call (.Name "any" p) [.GeneratorExp elt [⟨.Name x px, iter, [], 0⟩] scope gp] [] pos) (tGen X false P scope x elt te) := by
  refine ⟨fun pins s σ H Q I h => ?_⟩
  refine wpAny_Call_Name_kw (ld_blt I hg hm boot_any ?_)
  refine PyProof.Rows.callWith_builtin1 ?_ he (by rfl)
  rw [he]
  show wpAny _ _ (spliced ((false, eval (.GeneratorExp elt [⟨.Name x px, iter, [], 0⟩] scope gp) X.env) :: backTo pos (starEach [] X.env))) _ _ s
  refine Calls.spliced_cons (gen_any (R := fun n f H1 => ∀ H2, GxR.Tabbed P H1 H2 → Q (.bl ((List.range n).any f)) H2) hr TB hcode hS hi hs I h fun n f H1 g s5 fp wr G F St rr W st tr mv => Calls.spliced_nil ?_)
  refine call_any_walkS (W.self 0 _ _ _ st ⟨g, fp, wr, G, n, F, St, f, rfl, W, st, tr, fun s' m => ?_⟩)
  obtain ⟨H2, t2, J⟩ := mv s' m
  exact ⟨.bl _, H2, J, rfl, rr H2 t2⟩
end
end Fc
set_option maxHeartbeats 4000000
/-! Elements of generator expressions, defs. -/
namespace Fc
open PySem PySem.Spec PyProof.Rows L2
/-- the sign c is in the text m -/
def sg (m : Str) (c : Nat) : Bool := decide (c ∈ m.cps.toList)
section
variable {X : Cx}
theorem signs_at {z : Str} {i : Nat} {v : V} (h : (signs z)[i]? = some v) : ∃ c, z.cps.toList[i]? = some c ∧ v = .str ⟨#[c]⟩ := by
  unfold signs at h
  rw [List.getElem?_map] at h
  cases e : z.cps.toList[i]? with
  | none =>
    rw [e] at h
    cases h
  | some c =>
    rw [e] at h
    exact ⟨c, rfl, (Option.some.inj h).symm⟩
theorem signs_len (z : Str) : (signs z).length = z.cps.toList.length := by simp [signs]
theorem all_sg (z : Str) (pb : Nat → Bool) : (List.range (signs z).length).all (GxR.trF pb z.cps.toList) = z.cps.toList.all pb := by
  rw [signs_len]
  exact GxR.all_trF _ _
theorem any_sg (z : Str) (pb : Nat → Bool) : (List.range (signs z).length).any (GxR.trF pb z.cps.toList) = z.cps.toList.any pb := by
  rw [signs_len]
  exact GxR.any_trF _ _
/-- the captured name y, slot j, is read within a generator expression -/
theorem ld_cap {pins : List (Addr × Obj)} {σ : L2.St} {H1 : Hp} {s1 s2 : Shared} {P : Addr} {scope : Scope} {j : Nat} {y : Str} {v : V} {cenv : Env} {A' : Around} {E' Q : Value → Shared → Prop} (I : Inv X pins σ H1 s1) (hS : genOk X.env.scope scope x = true)
    (tb : GxR.TabG H1 P) (hN : X.N[j]? = some y) (hv : σ[j]? = some (some v)) (hy : (y, NameKind.free) ∈ scope.names) (hl : scope.names.lookup y = some .free) (hsc : X.env.scope.names.lookup y = some .cell)
    (e1 : cenv.scope = scope) (e2 : cenv.cells = cloFrom X.env.cells scope.names []) (k : ∀ b o, b ≠ P → s1.heap.get? b = some o → s2.heap.get? b = some o) (hQ : ∀ u, RelV v u → Q u s2) (hn : (y == ("__classdict__" : Str)) = false) :
    wpAny (model X.prog X.w) A' (loadName cenv y) Q E' s2 := by
  have S := genOk_s I hS
  obtain ⟨m, _, hloc⟩ := I.loc
  obtain ⟨u, r, hk⟩ := hloc j y v hN hv (.inr (.inl hsc))
  rcases hk with ⟨q, _⟩ | ⟨_, c, hc, hcell⟩
  · have q2 : X.env.scope.names.lookup y = some .local := q
    rw [hsc] at q2
    cases q2
  · have hcl : cenv.cells.lookup y = some c := by
      rw [e2]
      exact NdefX.clo_has S.free hy hc
    obtain ⟨ps, hP, _⟩ := tb
    have atP := I.hok P _ hP
    have atP : s1.heap.get? P = some { cls := .none, data := .fields ps } := atP
    obtain ⟨oc, ho, hd⟩ := hcell
    have nP : c ≠ P := fun z => by
      rw [z, atP] at ho
      cases ho
      cases hd
    exact wpAny_loadName_free (by rw [e1]; exact S.kind) (show cenv.scope.names.lookup y = some .free by rw [e1]; exact hl) hcl ⟨oc, k c oc nP ho, hd⟩ (hQ u r) hn
theorem ld_own {scope : Scope} {x : Str} {cenv : Env} {A' : Around} {E' Q : Value → Shared → Prop} {s2 : Shared} {m2 : Str → Option Value} {u : Value} {prog : Program} {w : World} (hk : scope.kind = .function) (hl : scope.names.lookup x = some .local) (e1 : cenv.scope = scope) (hn : s2.heap.Ns cenv.locals m2) (hm : m2 x = some u) (h : Q u s2) :
    wpAny (model prog w) A' (loadName cenv x) Q E' s2 := wpAny_loadName_local (by rw [e1]; exact hk) (show cenv.scope.names.lookup x = some .local by rw [e1]; exact hl) hn hm h
theorem ld_gl {pins : List (Addr × Obj)} {σ : L2.St} {H1 : Hp} {s1 s2 : Shared} {P : Addr} {scope : Scope} {y : Str} {u : Value} {pos : Pos} {cenv : Env} {A' : Around} {E' Q : Value → Shared → Prop} (I : Inv X pins σ H1 s1) (tb : GxR.TabG H1 P) (hk : scope.kind = .function)
    (hl : scope.names.lookup y = some .globalImplicit) (hm : X.mg y = some u) (e1 : cenv.scope = scope) (e3 : cenv.globals = X.env.globals) (k : ∀ b o, b ≠ P → s1.heap.get? b = some o → s2.heap.get? b = some o) (hQ : Q u s2) (hd : (y == ("__debug__" : Str)) = false) :
    wpAny (model X.prog X.w) A' (eval (.Name y pos) cenv) Q E' s2 := by
  refine Calls.Name_function_global (by rw [e1]; exact hk) (show cenv.scope.names.lookup y = some .globalImplicit by rw [e1]; exact hl) (Calls.loadGlobal_global (mg := X.mg) ?_ hm hQ) hd
  rw [e3, I.ok.glob]
  have g1 : s1.heap.Ns mainGlobals X.mg := I.mod.glob.keeps I.bk
  obtain ⟨o, es, ep, ho, hdat, r⟩ := g1
  obtain ⟨ps, hP, _⟩ := tb
  have atP : s1.heap.get? P = some { cls := .none, data := .fields ps } := I.hok P _ hP
  refine ⟨o, es, ep, k _ o (fun z => ?_) ho, hdat, r⟩
  rw [z, atP] at ho
  cases ho
  cases hdat
/-- mark in marks, marks captured: a text in slot j -/
theorem elt_cap {σ : L2.St} {P : Addr} {scope : Scope} {x y : Str} {p1 p2 p3 : Pos} {z m : Str} {H1 : Hp} {j : Nat} (hS : genOk X.env.scope scope x = true) (tb : GxR.TabG H1 P) (hv : σ[j]? = some (some (.str m)))
    (hN : X.N[j]? = some y) (hy : (y, NameKind.free) ∈ scope.names) (hl : scope.names.lookup y = some .free) (hsc : X.env.scope.names.lookup y = some .cell) (hn : (y == ("__classdict__" : Str)) = false := by decide) (hd : (y == ("__debug__" : Str)) = false := by decide) (hd2 : (x == ("__debug__" : Str)) = false := by decide) :
    Elt X σ P scope x (.Compare (.Name x p1) [.In] [.Name y p2] p3) (signs z) (GxR.trF (sg m) z.cps.toList) H1 := by
  intro pins s1 I cenv A' E' i v u s2 m2 e1 e2 e3 hA hvi r ns hm k
  have S := genOk_s I hS
  obtain ⟨c, hc, rfl⟩ := signs_at hvi
  obtain ⟨t, rfl⟩ := r
  refine wpAny_Compare1 (wpAny_Name (ld_own S.kind S.loc e1 ns hm (wpAny_Name (ld_cap I hS tb hN hv hy hl hsc e1 e2 k (fun u r => ?_) hn) hd)) hd2)
  obtain ⟨t', rfl⟩ := r
  refine PyProof.Rows.in_str ⟨?_, GxR.keeps_refl _⟩
  rw [GxR.trF_some hc]
  exact congrArg Value.bool (PySem.StrLaws.found_one m c)
/-- letter in LETTERS -/
theorem elt_glo {σ : L2.St} {P : Addr} {scope : Scope} {x y : Str} {p1 p2 p3 : Pos} {z m : Str} {H1 : Hp} (hS : genOk X.env.scope scope x = true) (tb : GxR.TabG H1 P) (hm' : ∃ t, X.mg y = some (.str m t)) (hl : scope.names.lookup y = some .globalImplicit)
    (hd : (y == ("__debug__" : Str)) = false := by decide) (hd2 : (x == ("__debug__" : Str)) = false := by decide) :
    Elt X σ P scope x (.Compare (.Name x p1) [.In] [.Name y p2] p3) (signs z) (GxR.trF (sg m) z.cps.toList) H1 := by
  intro pins s1 I cenv A' E' i v u s2 m2 e1 e2 e3 hA hvi r ns hm k
  have S := genOk_s I hS
  obtain ⟨c, hc, rfl⟩ := signs_at hvi
  obtain ⟨t, rfl⟩ := r
  obtain ⟨t', hg⟩ := hm'
  refine wpAny_Compare1 (wpAny_Name (ld_own S.kind S.loc e1 ns hm (ld_gl I tb S.kind hl hg e1 e3 k ?_ hd)) hd2)
  refine PyProof.Rows.in_str ⟨?_, GxR.keeps_refl _⟩
  rw [GxR.trF_some hc]
  exact congrArg Value.bool (PySem.StrLaws.found_one m c)
end

section
variable {X : Cx}
/-- a reading, what is wanted weakened -/
def eMon (te : TE) : TE := fun σ H Q => ∃ Q0 : VK, te σ H Q0 ∧ ∀ v H1, Q0 v H1 → Q v H1
theorem pe_mono {e : Expr} {te : TE} (h : PE X e te) : PE X e (eMon te) := ⟨fun pins s σ H Q I ⟨Q0, h0, k⟩ => thn (h.run pins s σ H Q0 I h0) fun _ _ ⟨x, H1, I1, r, q⟩ => ⟨x, H1, I1, r, k x H1 q⟩⟩
/-- all, any of «x in y» over a text, y captured, a text in slot j -/
def tCap (b : Bool) (P : Addr) (j : Nat) (te : TE) : TE := fun σ H Q => te σ H fun v H1 => ∃ z m : Str, v = .str z ∧ σ[j]? = some (some (.str m)) ∧ GxR.TabG H1 P ∧ ∀ H2, GxR.Tabbed P H1 H2 → Q (.bl (if b = true then z.cps.toList.all (sg m) else z.cps.toList.any (sg m))) H2
/-- .. y a text of the module -/
def tGlo (b : Bool) (P : Addr) (m : Str) (te : TE) : TE := fun σ H Q => te σ H fun v H1 => ∃ z : Str, v = .str z ∧ GxR.TabG H1 P ∧ ∀ H2, GxR.Tabbed P H1 H2 → Q (.bl (if b = true then z.cps.toList.all (sg m) else z.cps.toList.any (sg m))) H2
theorem pe_allCap {c P : Addr} {iter : Expr} {x y : Str} {px p pos gp p1 p2 p3 : Pos} {scope : Scope} {te : TE} {k j : Nat} (hr : Room k X.A) (hm : X.mg "all" = none) (TB : GxR.TabB X.base X.mg c P) (hcode : X.env.code = .ref c) (hi : PE X iter te) (hN : X.N[j]? = some y := by rfl)
    (hg : Gl X "all" := by rfl) (hS : genOk X.env.scope scope x = true := by rfl) (hs : ∀ v, genFold iter X.env v = pure v := by exact fun _ => rfl) (hy : (y, NameKind.free) ∈ scope.names := by decide +kernel) (hl : scope.names.lookup y = some .free := by rfl) (hsc : X.env.scope.names.lookup y = some .cell := by rfl)
    (hn : (y == ("__classdict__" : Str)) = false := by decide) (hd : (y == ("__debug__" : Str)) = false := by decide) (hd2 : (x == ("__debug__" : Str)) = false := by decide)
    (he : starEach [.GeneratorExp (.Compare (.Name x p1) [.In] [.Name y p2] p3) [⟨.Name x px, iter, [], 0⟩] scope gp] X.env = (false, eval (.GeneratorExp (.Compare (.Name x p1) [.In] [.Name y p2] p3) [⟨.Name x px, iter, [], 0⟩] scope gp) X.env) :: starEach [] X.env := by rfl) :
    PE X (.Call (.Name "all" p) [.GeneratorExp (.Compare (.Name x p1) [.In] [.Name y p2] p3) [⟨.Name x px, iter, [], 0⟩] scope gp] [] pos) (tCap true P j te) :=
  ⟨fun pins s σ H Q I h => (pe_all hr hg hm TB hcode (pe_mono hi) hS hs he).run pins s σ H Q I ⟨_, h, fun v H1 q => by
    obtain ⟨z, m, rfl, hv, tb, q⟩ := q
    refine ⟨tb, signs z, GxR.trF (sg m) z.cps.toList, src_str, elt_cap hS tb hv hN hy hl hsc hn hd hd2, fun H2 t2 => ?_⟩
    have q2 := q H2 t2
    rw [if_pos rfl] at q2 ⊢
    rw [all_sg]
    exact q2⟩⟩
theorem pe_anyCap {c P : Addr} {iter : Expr} {x y : Str} {px p pos gp p1 p2 p3 : Pos} {scope : Scope} {te : TE} {k j : Nat} (hr : Room k X.A) (hm : X.mg "any" = none) (TB : GxR.TabB X.base X.mg c P) (hcode : X.env.code = .ref c) (hi : PE X iter te) (hN : X.N[j]? = some y := by rfl)
    (hg : Gl X "any" := by rfl) (hS : genOk X.env.scope scope x = true := by rfl) (hs : ∀ v, genFold iter X.env v = pure v := by exact fun _ => rfl) (hy : (y, NameKind.free) ∈ scope.names := by decide +kernel) (hl : scope.names.lookup y = some .free := by rfl) (hsc : X.env.scope.names.lookup y = some .cell := by rfl)
    (hn : (y == ("__classdict__" : Str)) = false := by decide) (hd : (y == ("__debug__" : Str)) = false := by decide) (hd2 : (x == ("__debug__" : Str)) = false := by decide)
    (he : starEach [.GeneratorExp (.Compare (.Name x p1) [.In] [.Name y p2] p3) [⟨.Name x px, iter, [], 0⟩] scope gp] X.env = (false, eval (.GeneratorExp (.Compare (.Name x p1) [.In] [.Name y p2] p3) [⟨.Name x px, iter, [], 0⟩] scope gp) X.env) :: starEach [] X.env := by rfl) :
    PE X (.Call (.Name "any" p) [.GeneratorExp (.Compare (.Name x p1) [.In] [.Name y p2] p3) [⟨.Name x px, iter, [], 0⟩] scope gp] [] pos) (tCap false P j te) :=
  ⟨fun pins s σ H Q I h => (pe_any hr hg hm TB hcode (pe_mono hi) hS hs he).run pins s σ H Q I ⟨_, h, fun v H1 q => by
    obtain ⟨z, m, rfl, hv, tb, q⟩ := q
    refine ⟨tb, signs z, GxR.trF (sg m) z.cps.toList, src_str, elt_cap hS tb hv hN hy hl hsc hn hd hd2, fun H2 t2 => ?_⟩
    have q2 := q H2 t2
    rw [if_neg Bool.false_ne_true] at q2 ⊢
    rw [any_sg]
    exact q2⟩⟩
theorem pe_allGlo {c P : Addr} {iter : Expr} {x y m : Str} {px p pos gp p1 p2 p3 : Pos} {scope : Scope} {te : TE} {k : Nat} (hr : Room k X.A) (hm : X.mg "all" = none) (TB : GxR.TabB X.base X.mg c P) (hcode : X.env.code = .ref c) (hi : PE X iter te) (hmY : ∃ t, X.mg y = some (.str m t))
    (hg : Gl X "all" := by rfl) (hS : genOk X.env.scope scope x = true := by rfl) (hs : ∀ v, genFold iter X.env v = pure v := by exact fun _ => rfl) (hl : scope.names.lookup y = some .globalImplicit := by rfl) (hd : (y == ("__debug__" : Str)) = false := by decide) (hd2 : (x == ("__debug__" : Str)) = false := by decide)
    (he : starEach [.GeneratorExp (.Compare (.Name x p1) [.In] [.Name y p2] p3) [⟨.Name x px, iter, [], 0⟩] scope gp] X.env = (false, eval (.GeneratorExp (.Compare (.Name x p1) [.In] [.Name y p2] p3) [⟨.Name x px, iter, [], 0⟩] scope gp) X.env) :: starEach [] X.env := by rfl) :
    PE X (.Call (.Name "all" p) [.GeneratorExp (.Compare (.Name x p1) [.In] [.Name y p2] p3) [⟨.Name x px, iter, [], 0⟩] scope gp] [] pos) (tGlo true P m te) :=
  ⟨fun pins s σ H Q I h => (pe_all hr hg hm TB hcode (pe_mono hi) hS hs he).run pins s σ H Q I ⟨_, h, fun v H1 q => by
    obtain ⟨z, rfl, tb, q⟩ := q
    refine ⟨tb, signs z, GxR.trF (sg m) z.cps.toList, src_str, elt_glo hS tb hmY hl hd hd2, fun H2 t2 => ?_⟩
    have q2 := q H2 t2
    rw [if_pos rfl] at q2 ⊢
    rw [all_sg]
    exact q2⟩⟩
theorem pe_anyGlo {c P : Addr} {iter : Expr} {x y m : Str} {px p pos gp p1 p2 p3 : Pos} {scope : Scope} {te : TE} {k : Nat} (hr : Room k X.A) (hm : X.mg "any" = none) (TB : GxR.TabB X.base X.mg c P) (hcode : X.env.code = .ref c) (hi : PE X iter te) (hmY : ∃ t, X.mg y = some (.str m t))
    (hg : Gl X "any" := by rfl) (hS : genOk X.env.scope scope x = true := by rfl) (hs : ∀ v, genFold iter X.env v = pure v := by exact fun _ => rfl) (hl : scope.names.lookup y = some .globalImplicit := by rfl) (hd : (y == ("__debug__" : Str)) = false := by decide) (hd2 : (x == ("__debug__" : Str)) = false := by decide)
    (he : starEach [.GeneratorExp (.Compare (.Name x p1) [.In] [.Name y p2] p3) [⟨.Name x px, iter, [], 0⟩] scope gp] X.env = (false, eval (.GeneratorExp (.Compare (.Name x p1) [.In] [.Name y p2] p3) [⟨.Name x px, iter, [], 0⟩] scope gp) X.env) :: starEach [] X.env := by rfl) :
    PE X (.Call (.Name "any" p) [.GeneratorExp (.Compare (.Name x p1) [.In] [.Name y p2] p3) [⟨.Name x px, iter, [], 0⟩] scope gp] [] pos) (tGlo false P m te) :=
  ⟨fun pins s σ H Q I h => (pe_any hr hg hm TB hcode (pe_mono hi) hS hs he).run pins s σ H Q I ⟨_, h, fun v H1 q => by
    obtain ⟨z, rfl, tb, q⟩ := q
    refine ⟨tb, signs z, GxR.trF (sg m) z.cps.toList, src_str, elt_glo hS tb hmY hl hd hd2, fun H2 t2 => ?_⟩
    have q2 := q H2 t2
    rw [if_neg Bool.false_ne_true] at q2 ⊢
    rw [any_sg]
    exact q2⟩⟩
end
/-! ### defs -/
/-- the def st of the text stands under its name -/
structure DefAt (K : PySem.W.Frag) (mg : Str → Option Value) (x : Str) (st : Stmt) : Prop where
  fn : ∃ fd, FunD K x x (defArgs st) (defBody st) (defScope st) [] [] (He.ga K x) fd
  mgf : mg x = some (.ref (He.ga K x))
/-- its code object, its table -/
abbrev cO (K : PySem.W.Frag) (x : Str) : Addr := (He.cT K (x, none)).1
abbrev tO (K : PySem.W.Frag) (x : Str) : Addr := (He.cT K (x, none)).2
section
variable {P : Program} {w : World} {K : PySem.W.Frag} {mg : Str → Option Value} {base : Heap}
theorem fn_mk {CX : CXT} {x : Str} {st : Stmt} {fd : FuncData} {N ps : List Str} {k : Nat} {sp : Sp} (F : FunD K x x (defArgs st) (defBody st) (defScope st) [] [] (He.ga K x) fd) (S : FnScope N ps (defScope st)) (len : ∀ vs H Q E, sp vs H Q E → vs.length = ps.length)
    (hbody : ∀ (A : Around) (outer : List Env) (s : Shared) (H : Hp) (vs : List V) (Q : VK) (E : XK), Room k (A.deeper (envOfC x (defScope st) s.heap.objs.size (He.ga K x) (.ref (cO K x)))) → sp vs H Q E →
      ∃ t, PSs (cxOf CX P w K mg base N x (defScope st) (He.ga K x) (.ref (cO K x)) A outer s H E) (defBody st) t ∧ t { nx := fun _ H' => Q .non H', rt := Q } (start N vs) H) : FnOk P w K mg base CX (k + 1) (He.ga K x) fd ps sp := by
  obtain ⟨oc, od, dV, kV, doc, pm, an, cdv, ct, osl, rfl, lk, hcd, _, _⟩ := F.ex
  obtain ⟨c, rfl⟩ := He.codeIn_ref hcd
  have e : cO K x = c := He.codeOf_eq (p := (x, none)) lk rfl
  refine fn_of lk hcd S len fun A outer s H vs Q E hr hsp => ?_
  have b := hbody A outer s H vs Q E
  rw [e] at b
  exact b hr hsp
theorem cal_mk {x : Str} {st : Stmt} {N ps : List Str} {k : Nat} {sp : Sp} (D : DefAt K mg x st) (S : FnScope N ps (defScope st)) (len : ∀ vs H Q E, sp vs H Q E → vs.length = ps.length)
    (hb : ∀ (kV doc pm : Value) (an : Option Addr) (cdv ct : Value) (us : List Value), us.length = ps.length → bindArgs (PySem.W.fnOf x x (defArgs st) (defBody st) (defScope st) .none kV doc pm an cdv ct) ⟨us, []⟩ = pure (ps.zip us))
    (hbody : ∀ (A : Around) (outer : List Env) (s : Shared) (H : Hp) (vs : List V) (Q : VK) (E : XK), Room k (A.deeper (envOfC x (defScope st) s.heap.objs.size (He.ga K x) (.ref (cO K x)))) → sp vs H Q E →
      ∃ t, PSs (cxOf CX0 P w K mg base N x (defScope st) (He.ga K x) (.ref (cO K x)) A outer s H E).nox (defBody st) t ∧ t { nx := fun _ H' => Q .non H', rt := Q } (start N vs) H) : C8.Cal P w K mg base (k + 1) x sp [] := by
  obtain ⟨fd, F⟩ := D.fn
  refine ⟨_, fd, ps, [], fn_mk F S len (fun A outer s H vs Q E hr hsp => ?_), D.mgf, F.kp, F.bindsN hb, .nil⟩
  obtain ⟨t, h, q⟩ := hbody A outer s H vs Q E hr hsp
  exact ⟨t, h.nox, q⟩
end
/-! ### what isn't come to -/
section
variable {X : Cx}
def tNev : TS := fun _ _ _ => False
theorem ps_nev {st : Stmt} : PS X st tNev := ⟨fun _ _ _ _ _ _ h => h.elim⟩
def eNev : TE := fun _ _ _ => False
theorem pe_nev {e : Expr} : PE X e eNev := ⟨fun _ _ _ _ _ _ h => h.elim⟩
end
end Fc
set_option maxHeartbeats 4000000
/-! Sets of texts: made of a list or of a text's signs, sorted. -/
namespace Fc
open PySem PySem.Spec PyProof.Rows L2
def keyS (e : Int × Value) : Str := match e.2 with | .str k _ => k | _ => Str.empty
def GoodS (w : World) (e : Int × Value) : Prop := ∃ k tk, e.2 = Value.str k tk ∧ e.1 = hashStr w k
/-- at a a set of the texts l (in some order), each once; it can be walked -/
structure SetS (w : World) (h : Heap) (a : Addr) (l : List Str) : Prop where
  ex : ∃ o es ep t, h.get? a = some o ∧ o.ExactSet ∧ o.data = .set es ep t ∧ (∀ e ∈ es.toList, GoodS w e) ∧ (es.toList.map keyS).Perm l ∧ l.Nodup ∧ es.size < scanBound ∧ t.fits es.size = true ∧ Ris t.place.toList ∧ (w.params.followText "set-order" = true ∨ t.led = true)
section
variable {P : Program} {w : World} {A : Around} {E : Value → Shared → Prop} {s : Shared} {h h' : Heap} {a : Addr} {l : List Str}
theorem SetS.at (R : SetS w h a l) (k : ∀ o, h.get? a = some o → h'.get? a = some o) : SetS w h' a l := by
  obtain ⟨o, es, ep, t, ho, r⟩ := R.ex
  exact ⟨o, es, ep, t, k o ho, r⟩
theorem goodS_elems {es : List (Int × Value)} (g : ∀ e ∈ es, GoodS w e) : ElemsOf (PySem.strKind P w) es := fun e he => by
  obtain ⟨k, tk, h1, h2⟩ := g e he
  exact ⟨⟨k, by rw [h1]; exact strKind_is P w k tk, h2⟩, by rw [h1] <;> rfl⟩
theorem goodS_is {e : Int × Value} (g : GoodS w e) (k : Str) : (PySem.strKind P w).is k e.2 = true ↔ keyS e = k := by
  obtain ⟨k0, tk, h1, _⟩ := g
  unfold keyS
  rw [h1]
  constructor
  · intro z
    obtain ⟨t, q⟩ := Value.isStrOf_shape (x := k) (v := .str k0 tk) z
    injection q
  · intro z
    have z : k0 = k := z
    rw [z]
    exact strKind_is P w k tk
theorem SetS.setOf (R : SetS w h a l) : h.SetOf (PySem.strKind P w) a (fun k => decide (k ∈ l)) l.length := by
  obtain ⟨o, es, ep, t, ho, hx, hd, g, pm, nd, hb, hf, _⟩ := R.ex
  refine ⟨o, es, ep, t, ho, hx, hd, goodS_elems g, fun k => ?_, hb, hf, by rw [← pm.length_eq, List.length_map, Array.length_toList]⟩
  rw [decide_eq_true_eq, ← pm.mem_iff, List.mem_map]
  exact ⟨fun ⟨e, he, q⟩ => ⟨e, he, (goodS_is (g e he) k).2 q⟩, fun ⟨e, he, q⟩ => ⟨e, he, (goodS_is (g e he) k).1 q⟩⟩
theorem addS_tail {gw : Bool → Sem Unit} (hg : ∀ (b : Bool) (s1 : Shared) (Q' : Unit → Shared → Prop), Q' () s1 → wpAny (model P w) A (gw b) Q' E s1) {o : Obj} {es : Array (Int × Value)} {ep : Nat} {t : SetTable} (ho : s.heap.get? a = some o) (hex : o.ExactSet) (hd : o.data = .set es ep t)
    {fs : Array (Int × Value)} {u : SetTable} (gf : ∀ e ∈ fs.toList, GoodS w e) (pf : (fs.toList.map keyS).Perm l) (nd : l.Nodup) (bf : fs.size < scanBound) (ff : u.fits fs.size = true) (rf : Ris u.place.toList) (lf : w.params.followText "set-order" = true ∨ u.led = true) {wasD : Bool} {R : Option Bool → Shared → Prop}
    (hR : ∀ h', Heap.SameBut a s.heap h' → SetS w h' a l → R (some true) { s with heap := h' }) :
    wpAny (model P w) A (do
      storeSet a fs u; if (!wasD && u.tooFull) = true then do { gw (relayAll u fs (SetTable.grown fs.size)).2.2; storeSet a (relayAll u fs (SetTable.grown fs.size)).1 (relayAll u fs (SetTable.grown fs.size)).2.1; pure (some true) } else pure (some true)) R E s := by
  refine wpAny_bind (wpAny_storeSet_of ho hd ?_ (fits_of_scanBound bf))
  have st1 := store_at (es' := fs) (t' := u) ho hd
  have same1 := Heap.SameBut.update s.heap a (Obj.putSet fs u)
  by_cases c : (!wasD && u.tooFull) = true
  · rw [if_pos c]
    have p3 := relayAll_perm u fs (SetTable.grown fs.size)
    have f3 := relayAll_fits u fs (SetTable.grown fs.size)
    have r3 := relayAll_ris u fs (SetTable.grown fs.size)
    have l3 := relayAll_led u fs (SetTable.grown fs.size)
    generalize relayAll u fs (SetTable.grown fs.size) = Z at p3 f3 r3 l3 ⊢
    obtain ⟨gs, v, gave⟩ := Z
    dsimp only at p3 f3 r3 l3 ⊢
    have sz : gs.size = fs.size := by rw [← Array.length_toList, p3.length_eq, Array.length_toList]
    have bg : gs.size < scanBound := by rw [sz]; exact bf
    refine wpAny_bind (hg _ _ _ (wpAny_bind (wpAny_storeSet_of st1 rfl ?_ (fits_of_scanBound bg))))
    have st2 := store_at (es' := gs) (t' := v) st1 rfl
    exact wpAny_pure (hR _ (same1.trans (Heap.SameBut.update _ a _)) ⟨_, gs, _, v, st2, hex, rfl, fun e he => gf e (p3.mem_iff.mp he), (p3.map keyS).trans pf, nd, bg, f3, r3, lf.imp id fun z => by rw [l3]; exact z⟩)
  · rw [if_neg c]
    exact wpAny_pure (hR _ same1 ⟨_, fs, _, u, st1, hex, rfl, gf, pf, nd, bf, ff, rf, lf⟩)
/-- a text is put in -/
theorem addS_hashed {k : Str} {tk : Tok} {Q : Bool → Shared → Prop} (R : SetS w s.heap a l) (room : l.length + 1 < scanBound)
    (hQ : ∀ (b : Bool) (h' : Heap) (l' : List Str), Heap.SameBut a s.heap h' → SetS w h' a l' → l' = (if k ∈ l then l else k :: l) → Q b { s with heap := h' }) :
    wpAny (model P w) A (setAddHashed a (.str k tk) (hashStr w k)) Q E s := by
  obtain ⟨o, es, ep, t, ho, hex, hd, g, pm, nd, hb, hf, hr, hl⟩ := R.ex
  have is1 : (PySem.strKind P w).is k (.str k tk) = true := strKind_is P w k tk
  have scn : (Value.str k tk).scannable = true := rfl
  have els : ElemsOf (PySem.strKind P w) es.toList := goodS_elems g
  show wpAny _ _ (setAddHashed a (.str k tk) ((PySem.strKind P w).hash k)) _ _ _
  unfold setAddHashed setAddHashedIn
  refine wpAny_holding (wpAny_bind (wpAny_setState_of ho hd hf ?_)); dsimp only
  rw [byScan_of scn hb els]
  simp only [↓reduceIte]
  unfold setAddByScan
  refine wpAny_bind (wpAny_bind (wpAny_rule (wpAny_bind (wpAny_setScan_of is1 ho hd hf els ?_))))
  cases hfi : List.findIdx? (fun e => (PySem.strKind P w).is k e.2) es.toList with
  | some j =>
    dsimp only
    obtain ⟨hj, pj, _⟩ := List.findIdx?_eq_some_iff_getElem.mp hfi
    have hin : k ∈ l := pm.mem_iff.mp (List.mem_map.mpr ⟨es.toList[j], List.getElem_mem hj, (goodS_is (P := P) (g _ (List.getElem_mem hj)) k).1 pj⟩)
    exact wpAny_pure (wpAny_pure (hQ _ s.heap l (Heap.SameBut.refl a s.heap) R (by rw [if_pos hin])))
  | none =>
    dsimp only
    have hout : k ∉ l := fun z => by
      obtain ⟨e, he, q⟩ := List.mem_map.mp (pm.mem_iff.mpr z)
      have c := List.findIdx?_eq_none_iff.mp hfi e he
      rw [(goodS_is (P := P) (g e he) k).2 q] at c
      cases c
    have p1 := layNew_perm t es ((PySem.strKind P w).hash k) (.str k tk)
    have f1 := layNew_fits t es ((PySem.strKind P w).hash k) (.str k tk)
    have r1 := layNew_ris t es ((PySem.strKind P w).hash k) (.str k tk) hr
    have l1 := layNew_led t es ((PySem.strKind P w).hash k) (.str k tk)
    generalize layNew t es ((PySem.strKind P w).hash k) (.str k tk) = Z at p1 f1 r1 l1 ⊢
    obtain ⟨fs, u, wasD, gave⟩ := Z
    dsimp only at p1 f1 r1 l1 ⊢
    rw [Array.toList_push] at p1
    have pc : fs.toList.Perm (((PySem.strKind P w).hash k, Value.str k tk) :: es.toList) := p1.trans (List.perm_append_singleton _ _)
    have pk : (fs.toList.map keyS).Perm (k :: l) := (pc.map keyS).trans (List.Perm.cons k pm)
    have gf : ∀ e ∈ fs.toList, GoodS w e := fun e he => by
      rcases List.mem_cons.mp (pc.mem_iff.mp he) with z | z
      · rw [z]
        exact ⟨k, tk, rfl, rfl⟩
      · exact g e z
    have nd1 : (k :: l).Nodup := List.nodup_cons.mpr ⟨hout, nd⟩
    have bf : fs.size < scanBound := by
      have q := pk.length_eq
      rw [List.length_map, Array.length_toList, List.length_cons] at q
      omega
    have led1 : w.params.followText "set-order" = true ∨ u.led = true := hl.imp id fun z => by rw [l1]; exact z
    have fin : ∀ (b : Bool) (h' : Heap), Heap.SameBut a s.heap h' → SetS w h' a (k :: l) → Q b { s with heap := h' } := fun b h' sb r => hQ b h' _ sb r (by rw [if_neg hout])
    have gw : ∀ (b : Bool) (s1 : Shared) (Q' : Unit → Shared → Prop), Q' () s1 → wpAny (model P w) A (match b with | true => rule "set.scan.the-table-gave-way" | false => pure ()) Q' E s1 := fun b s1 Q' q => by cases b <;> first | exact wpAny_pure q | exact wpAny_rule q
    refine wpAny_bind (gw _ _ _ ?_)
    split
    · refine wpAny_bind ?_
      rw [hashByValue_scannable 8 scn]
      refine wpAny_pure (addS_tail ?_ ho hex hd gf pk nd1 bf ?_ ?_ ?_ ?_)
      · intro b s1 Q' q; cases b <;> first | exact wpAny_pure q | exact wpAny_rule q
      · first | (split <;> first | exact f1 | exact SetTable.fits_plain_off f1) | exact f1
      · first | (split <;> exact r1) | exact r1
      · first | (split <;> exact led1) | exact led1
      · intro h' sb r; exact wpAny_pure (fin _ h' sb r)
    · refine wpAny_bind (wpAny_pure ?_)
      simp only [↓reduceIte]
      refine addS_tail ?_ ho hex hd gf pk nd1 bf f1 r1 led1 ?_
      · intro b s1 Q' q; cases b <;> first | exact wpAny_pure q | exact wpAny_rule q
      · intro h' sb r; exact wpAny_pure (fin _ h' sb r)
end
end Fc
set_option maxHeartbeats 8000000
namespace Fc
open PySem PySem.Spec PyProof.Rows L2
/-- the texts of the first i, the latest first, each once -/
def metS (f : Nat → Str) : Nat → List Str
  | 0 => []
  | i + 1 => if f i ∈ metS f i then metS f i else f i :: metS f i
theorem metS_len (f : Nat → Str) : ∀ i, (metS f i).length ≤ i
  | 0 => Nat.le_refl _
  | i + 1 => by
    have ih := metS_len f i
    unfold metS
    split
    · omega
    · rw [List.length_cons]
      omega
theorem metS_mem (f : Nat → Str) (k : Str) : ∀ i, k ∈ metS f i ↔ ∃ j, j < i ∧ f j = k
  | 0 => by simp [metS]
  | i + 1 => by
    have ih := metS_mem f k i
    have key : k ∈ metS f (i + 1) ↔ k = f i ∨ k ∈ metS f i := by
      show k ∈ (if f i ∈ metS f i then metS f i else f i :: metS f i) ↔ _
      split
      · rename_i c
        exact ⟨.inr, fun z => z.elim (fun e => e ▸ c) id⟩
      · exact List.mem_cons
    rw [key, ih]
    constructor
    · rintro (z | ⟨j, hj, z⟩)
      · exact ⟨i, Nat.lt_succ_self i, z.symm⟩
      · exact ⟨j, Nat.lt_succ_of_lt hj, z⟩
    · rintro ⟨j, hj, z⟩
      rcases Nat.lt_succ_iff_lt_or_eq.mp hj with q | q
      · exact .inr ⟨j, q, z⟩
      · exact .inl (by rw [← z, q])
section
variable {prog : Program} {w : World} {A : Around} {R : Result → Shared → Prop} {I : Addr} {fp wr : List Addr} {G : Array GenState → Array GenState → Prop} {n : Nat} {P : Nat → Value → Prop} {St : Nat → Shared → Prop}
theorem loop_strs (W : WalksS prog w A.in1 I fp wr G n P St) (S : Addr) (hSf : S ∉ fp) (f : Nat → Str) (hf : ∀ i v, P i v → ∃ t, v = .str (f i) t) (hb : n + 1 < scanBound) :
    ∀ (k i : Nat) (s : Shared), n - i = k → i ≤ n → St i s → SetS w s.heap S (metS f i) → (∀ s', Moved (S :: wr) G s s' → SetS w s'.heap S (metS f n) → R (.ok (.ret .none)) s') →
      codeAny (model prog w) A (.builtin "set.update.loop" ⟨[.ref S, .ref I], []⟩) R s := by
  have outW : S ∉ wr := fun h => hSf (W.sub _ h)
  have subW : ∀ b ∈ wr, b ∈ S :: wr := fun b hb => List.mem_cons_of_mem _ hb
  intro k
  induction k with
  | zero =>
    intro i s hk hi st hS hR
    have e : i = n := by omega
    subst e
    refine codeAny_builtin PyProof.Rows.F.entry_set_update_loop ?_
    rw [Around.under_plainId PyProof.Rows.F.plain_set_update_loop _]
    refine wpAny_bind (m := pyNext (.ref I)) (W.done s _ _ st fun s' mv => ?_)
    exact wpAny_pure (hR s' (mv.mono subW) (hS.at fun o ho => mv.heap S _ outW ho))
  | succ k ih =>
    intro i s hk hi st hS hR
    have lt : i < n := by omega
    refine codeAny_builtin PyProof.Rows.F.entry_set_update_loop ?_
    rw [Around.under_plainId PyProof.Rows.F.plain_set_update_loop _]
    refine wpAny_bind (m := pyNext (.ref I)) (W.item i s _ _ lt st fun v s' hP st' mv => ?_)
    obtain ⟨t, rfl⟩ := hf i v hP
    have hS' : SetS w s'.heap S (metS f i) := hS.at fun o ho => mv.heap S _ outW ho
    refine wpAny_bind (m := holding [Value.str (f i) t] (setAdd S (.str (f i) t))) (wpAny_holding ?_)
    unfold setAdd
    refine wpAny_holding (wpAny_bind ((PySem.strKind prog w).pyHash (k := f i) (strKind_is _ _ _ _) ?_))
    have room : (metS f i).length + 1 < scanBound := by have z := metS_len f i; omega
    refine addS_hashed (s := { s' with toks := s'.toks + 1 }) hS' room fun b h' l' sb hS2 el => ?_
    have el2 : l' = metS f (i + 1) := el
    rw [el2] at hS2
    refine wpAny_pure ⟨plainId_quiet PyProof.Rows.F.plain_set_update_loop _, ih (i + 1) _ (by omega) lt (W.frame _ s' _ _ st' (Nat.le_succ _) fun b hb o e => ?_) hS2 fun s2 mv2 hS3 => hR s2 (Moved.trans W.gtrans ((mv.mono subW).then_heap (Nat.le_succ _) fun b o hb e => ?_) mv2) hS3⟩
    · rw [sb.2 b (fun z : b = S => hSf (by rw [← z]; exact hb))]
      exact e
    · rw [sb.2 b (fun z : b = S => hb (by rw [z]; exact List.mem_cons_self))]
      exact e
end
section
variable {prog : Program} {w : World} {A : Around} {E : Value → Shared → Prop} {s : Shared}
theorem newS {w : World} {o : Obj} (hl : o = { cls := .type "set", dict := none, data := .set #[] 0 (.fresh 0 0 (!w.params.followText "set-order")) }) {h : Heap} {a : Addr} (h1 : h.get? a = some o) : SetS w h a [] := by
  subst hl
  refine ⟨_, #[], 0, _, h1, ⟨rfl, rfl, rfl⟩, rfl, fun e he => by simp at he, List.Perm.nil, List.nodup_nil, by decide, rfl, List.Pairwise.nil, ?_⟩
  cases w.params.followText "set-order" <;> simp [SetTable.fresh]
theorem new_set1 (a : Value) {Q1 : Value → Shared → Prop} (h : Q1 (.ref s.heap.objs.size) { s with heap := s.heap.push { cls := .type "set", dict := none, data := .set #[] 0 (.fresh 0 0 (!w.params.followText "set-order")) } }) :
    codeAny (model prog w) A (.call (.builtin "set.__new__") ⟨[.type "set", a], []⟩) (wants Q1 E) s := by
  refine codeAny_of_tree (show wpAny _ A.in1 (do checkBuiltinCall "set.__new__" ⟨[.type "set", a], []⟩; again (.builtin "set.__new__" ⟨[.type "set", a], []⟩)) _ _ s from ?_)
  refine wpAny_bind (wpAny_of_eq (PySem.F.newCall_set_1 a) (wpAny_pure ⟨plainId_quiet PySem.F.plain_set_new _, codeAny_builtin PySem.F.entry_set_new ?_⟩))
  rw [Around.under_plainId PySem.F.plain_set_new _]; unfold Builtin.«set.__new__» Builtin.Frozenset.newClass
  have hsub := sub_set_self; obtain ⟨hp, g, d, tk, os⟩ := s; dsimp only; wp_walk
  refine wpAny_askSetting (wpAny_pure ?_); dsimp only; simp only [newObj]
  exact wpAny_bind (wpAny_alloc (wpAny_pure (wpAny_pure h)))
theorem set_of_list {l : Addr} {items : Array Value} {f : Nat → Str} {Q : Value → Shared → Prop} (hh : A.handled = none) (hl : s.heap.IsList l items) (hi : ∀ (i : Nat) (v : Value), items[i]? = some v → ∃ t, v = .str (f i) t) (hb : items.size + 1 < scanBound)
    (h : ∀ (h' : Heap) (tk : Nat), SetS w h' s.heap.objs.size (metS f items.size) → (∀ b o, b < s.heap.objs.size → s.heap.get? b = some o → h'.get? b = some o) → Q (.ref s.heap.objs.size) { s with heap := h', toks := tk }) :
    wpAny (model prog w) A (call (.type "set") [.ref l]) Q E s := by
  obtain ⟨c, tl, hmro⟩ := PySem.F.called_set.mro; have hmade := PySem.F.called_set.made; have hsub := PySem.F.called_set.sub
  refine wpAny_call (codeAny_of_tree (show wpAny _ _ (callAny (.type "set") _) _ _ _ from wpAny_pure ⟨Code.quiet_builtin _ (by decide +kernel), codeAny_builtin PySem.F.entry_type_call ?_⟩))
  rw [Around.under_plain (weight_type_call_type "set" [.ref l] []) rfl]
  have h1 := PySem.F.called_set.notType; have h2 := PySem.F.called_set.canCreate; have hct := PySem.F.typeCall_set_1 (.ref l)
  repeat (any_goals (first | assumption | wp_step))
  refine codeAny_mono (new_set1 (.ref l) (E := E) (Q1 := fun ob s1 => ob = .ref s.heap.objs.size ∧ s1 = { s with heap := s.heap.push { cls := .type "set", dict := none, data := .set #[] 0 (.fresh 0 0 (!w.params.followText "set-order")) } }) ⟨rfl, rfl⟩) fun r s1 hr => ?_
  cases r with
  | error e => exact hr
  | ok fl =>
    cases fl with
    | ret ob =>
      obtain ⟨rfl, rfl⟩ := hr
      generalize hso : ({ cls := .type "set", dict := none, data := .set #[] 0 (.fresh 0 0 (!w.params.followText "set-order")) } : Obj) = so
      have hcl : so.cls = .type "set" := by rw [← hso]
      have atS : (s.heap.push so).get? s.heap.objs.size = some so := Heap.get?_push_size _ (by rw [← hso]; rfl)
      have hT : Shared.TypeIs { s with heap := s.heap.push so } (.ref s.heap.objs.size) "set" := ⟨_, atS, hcl⟩
      have hli := PySem.F.called_set.init.lookup; have hbi := PySem.F.called_set.init.bind (.ref s.heap.objs.size)
      repeat (any_goals (first | assumption | wp_step))
      refine codeAny_mono (codeAny_call_builtin (R := wants (fun r s2 => r = .none ∧ ∃ h' tk, s2 = { s with heap := h', toks := tk } ∧ SetS w h' s.heap.objs.size (metS f items.size) ∧ (∀ b o, b < s.heap.objs.size → s.heap.get? b = some o → h'.get? b = some o)) E) PySem.F.called_set.init.plain PySem.F.entry_set_init (check_set_init_1 hT ?_)) fun r2 s2 hr2 => ?_
      · subst hso
        obtain ⟨ol, hol, hcl2, nl, hdl⟩ := hl
        obtain ⟨ocls, odict, odata, oslots⟩ := ol
        simp only at hcl2 hdl; subst hcl2; subst hdl
        have hol' : (s.heap.push { cls := .type "set", dict := none, data := .set #[] 0 (.fresh 0 0 (!w.params.followText "set-order")) }).get? l = some { cls := .type "list", dict := odict, data := .seq items nl, slots := oslots } := Heap.get?_push_of_some _ hol
        have hsls := PySem.F.sub_list_set; have hslf := PySem.F.sub_list_frozenset; have hne : (Value.type "list" == Value.type "dict") = false := by decide
        have hl1 : (s.heap.push { cls := .type "set", dict := none, data := .set #[] 0 (.fresh 0 0 (!w.params.followText "set-order")) }).IsList l items := ⟨_, hol', rfl, nl, rfl⟩
        unfold Builtin.«set.__init__» noKeywords Builtin.Frozenset.updateFrom; generalize hPI : pyIter = PI; wp_walk; subst hPI
        refine wpAny_pyIter_list hl1 ?_; refine wpAny_bind (wpAny_runValue ?_)
        have ltl : l < s.heap.objs.size := Heap.lt_size hol
        have hh3 : A.in1.in1.in1.handled = none := by simp [hh]
        have neI : l ≠ (s.heap.push { cls := .type "set", dict := none, data := .set #[] 0 (.fresh 0 0 (!w.params.followText "set-order")) }).objs.size := by rw [Heap.size_push]; exact Nat.ne_of_lt (Nat.lt_succ_of_lt ltl)
        have outS : s.heap.objs.size ∉ [(s.heap.push { cls := .type "set", dict := none, data := .set #[] 0 (.fresh 0 0 (!w.params.followText "set-order")) }).objs.size, l] := by
          rw [Heap.size_push]; simp only [List.mem_cons, List.mem_singleton, List.not_mem_nil, or_false, not_or]; exact ⟨Nat.ne_of_lt (Nat.lt_succ_self _), Nat.ne_of_gt ltl⟩
        refine loop_strs ((Walks.list hh3 _ l neI items).toS) s.heap.objs.size outS f (fun i v hv => hi i v hv) hb (items.size - 0) 0 _ (by omega) (Nat.zero_le _) ⟨⟨_, Heap.get?_push_size _ rfl, rfl, rfl⟩, (hl1.push _)⟩ ?hS0 ?hR
        case hS0 => exact newS rfl (Heap.get?_push_of_some _ atS)
        case hR =>
          intro s' mv hS'
          obtain ⟨h', g', d', tk', os'⟩ := s'
          have eg : g' = s.gens := mv.gens; have ed : d' = s.drawn := mv.drawn; have eo : os' = s.os := mv.os
          subst eg; subst ed; subst eo
          refine wpAny_pure (wpAny_pure ⟨rfl, h', tk', rfl, hS', fun b o hb e => mv.heap b o ?_ (Heap.get?_push_of_some _ (Heap.get?_push_of_some _ e))⟩)
          simp only [List.mem_cons, List.mem_singleton, List.not_mem_nil, or_false, not_or]
          exact ⟨Nat.ne_of_lt hb, by rw [Heap.size_push]; exact Nat.ne_of_lt (Nat.lt_succ_of_lt hb)⟩
      · cases r2 with
        | error e => exact hr2
        | ok fl2 =>
          cases fl2 with
          | ret r =>
            obtain ⟨rfl, h', tk, rfl, hS', hk'⟩ := hr2
            repeat (any_goals (first | assumption | wp_step))
            exact h _ _ hS' hk'
          | _ => exact hr2.elim
    | _ => exact hr.elim
end
end Fc
set_option maxHeartbeats 4000000
namespace Fc
open PySem PySem.Spec PyProof.Rows L2
/-! ### texts in order -/
def ltS (a b : Str) : Bool := decide (a.cps.toList < b.cps.toList)
theorem str_ext {a b : Str} (h : a.cps.toList = b.cps.toList) : a = b := by
  cases a
  cases b
  congr
  exact Array.toList_inj.mp h
theorem ltS_irr (a : Str) : ltS a a = false := decide_eq_false (List.lt_irrefl _)
theorem ltS_trans {a b c : Str} (h : ltS a b = true) (k : ltS b c = true) : ltS a c = true := decide_eq_true (List.lt_trans (of_decide_eq_true h) (of_decide_eq_true k))
theorem ltS_tri (a b : Str) : ltS a b = true ∨ a = b ∨ ltS b a = true := by
  by_cases h : a.cps.toList < b.cps.toList
  · exact .inl (decide_eq_true h)
  · by_cases k : b.cps.toList < a.cps.toList
    · exact .inr (.inr (decide_eq_true k))
    · exact .inr (.inl (str_ext (List.le_antisymm (List.not_lt.mp k) (List.not_lt.mp h))))
theorem ltS_asym {a b : Str} (h : ltS a b = true) : ltS b a = false := by
  cases q : ltS b a with
  | false => rfl
  | true =>
    have z := ltS_trans h q
    rw [ltS_irr] at z
    cases z
/-- rising, each once -/
abbrev Rs (l : List Str) : Prop := l.Pairwise fun a b => ltS a b = true
theorem Rs.nodup : ∀ {l : List Str}, Rs l → l.Nodup
  | [], _ => List.nodup_nil
  | x :: r, h => by
    obtain ⟨h1, h2⟩ := List.pairwise_cons.mp h
    refine List.nodup_cons.mpr ⟨fun z => ?_, Rs.nodup h2⟩
    have q := h1 x z
    rw [ltS_irr] at q
    cases q
/-- one rising list has these members -/
theorem Rs.uniq : ∀ {l m : List Str}, Rs l → Rs m → (∀ x, x ∈ l ↔ x ∈ m) → l = m
  | [], [], _, _, _ => rfl
  | [], y :: m, _, _, h => by
    have q := (h y).mpr List.mem_cons_self
    cases q
  | x :: l, [], _, _, h => by
    have q := (h x).mp List.mem_cons_self
    cases q
  | x :: l, y :: m, hl, hm, h => by
    obtain ⟨l1, l2⟩ := List.pairwise_cons.mp hl
    obtain ⟨m1, m2⟩ := List.pairwise_cons.mp hm
    have e : x = y := by
      rcases List.mem_cons.mp ((h x).mp List.mem_cons_self) with q | q
      · exact q
      · rcases List.mem_cons.mp ((h y).mpr List.mem_cons_self) with p | p
        · exact p.symm
        · have a := m1 x q
          have b := l1 y p
          rw [ltS_asym a] at b
          cases b
    subst e
    refine congrArg _ (Rs.uniq l2 m2 fun z => ⟨fun q => ?_, fun q => ?_⟩)
    · rcases List.mem_cons.mp ((h z).mp (List.mem_cons_of_mem _ q)) with p | p
      · have a := l1 z q
        rw [p, ltS_irr] at a
        cases a
      · exact p
    · rcases List.mem_cons.mp ((h z).mpr (List.mem_cons_of_mem _ q)) with p | p
      · have a := m1 z q
        rw [p, ltS_irr] at a
        cases a
      · exact p
def insS (x : Str) : List Str → List Str
  | [] => [x]
  | y :: r => if x = y then y :: r else if ltS x y = true then x :: y :: r else y :: insS x r
/-- the members rising, each once -/
def riseS (xs : List Str) : List Str := xs.foldr insS []
theorem insS_mem (x z : Str) : ∀ l : List Str, z ∈ insS x l ↔ z = x ∨ z ∈ l
  | [] => by simp [insS]
  | y :: r => by
    unfold insS
    split
    · rename_i e
      rw [e, List.mem_cons]
      exact ⟨.inr, fun q => q.elim .inl id⟩
    · split
      · rw [List.mem_cons]
      · rw [List.mem_cons, insS_mem x z r, List.mem_cons]
        exact ⟨fun q => q.elim (fun a => .inr (.inl a)) fun a => a.elim .inl fun b => .inr (.inr b), fun q => q.elim (fun a => .inr (.inl a)) fun a => a.elim .inl fun b => .inr (.inr b)⟩
theorem insS_rs (x : Str) : ∀ {l : List Str}, Rs l → Rs (insS x l)
  | [], _ => List.pairwise_singleton _ _
  | y :: r, h => by
    obtain ⟨h1, h2⟩ := List.pairwise_cons.mp h
    unfold insS
    split
    · exact h
    · rename_i ne
      split
      · rename_i lt
        refine List.pairwise_cons.mpr ⟨fun z hz => ?_, h⟩
        rcases List.mem_cons.mp hz with e | hz
        · rw [e]
          exact lt
        · exact ltS_trans lt (h1 z hz)
      · rename_i nlt
        refine List.pairwise_cons.mpr ⟨fun z hz => ?_, insS_rs x h2⟩
        rcases (insS_mem x z r).mp hz with e | hz
        · rw [e]
          rcases ltS_tri y x with q | q | q
          · exact q
          · exact (ne q.symm).elim
          · exact (nlt q).elim
        · exact h1 z hz
theorem riseS_mem (z : Str) : ∀ xs : List Str, z ∈ riseS xs ↔ z ∈ xs
  | [] => Iff.rfl
  | x :: r => by
    show z ∈ insS x (riseS r) ↔ _
    rw [insS_mem, riseS_mem z r, List.mem_cons]
theorem riseS_rs : ∀ xs : List Str, Rs (riseS xs)
  | [] => List.Pairwise.nil
  | x :: r => insS_rs x (riseS_rs r)
theorem riseS_of {xs l : List Str} (h : Rs l) (k : ∀ x, x ∈ l ↔ x ∈ xs) : l = riseS xs := Rs.uniq h (riseS_rs xs) fun x => (k x).trans (riseS_mem x xs).symm
theorem riseS_congr {xs ys : List Str} (h : ∀ x, x ∈ xs ↔ x ∈ ys) : riseS xs = riseS ys := riseS_of (riseS_rs xs) fun x => (riseS_mem x xs).trans (h x)
theorem risingS_rs : ∀ (l : List Str) (p : Str), risingS p l = true → (p :: l).Nodup → Rs (p :: l)
  | [], p, _, _ => List.pairwise_singleton _ _
  | x :: r, p, h, nd => by
    have h' : (!ltCps x.cps.toList p.cps.toList && risingS x r) = true := h
    obtain ⟨h1, h2⟩ := Bool.and_eq_true_iff.mp h'
    obtain ⟨n1, n2⟩ := List.nodup_cons.mp nd
    have ih := risingS_rs r x h2 n2
    have lt : ltS p x = true := by
      rw [ltCps_eq] at h1
      rcases ltS_tri p x with q | q | q
      · exact q
      · exact (n1 (by rw [q]; exact List.mem_cons_self)).elim
      · rw [show decide (x.cps.toList < p.cps.toList) = true from q] at h1
        cases h1
    refine List.pairwise_cons.mpr ⟨fun z hz => ?_, ih⟩
    rcases List.mem_cons.mp hz with e | hz
    · rw [e]
      exact lt
    · exact ltS_trans lt ((List.pairwise_cons.mp ih).1 z hz)
theorem sortedS_rs {l : List Str} (h : sortedS l = true) (nd : l.Nodup) : Rs l := by
  cases l with
  | nil => exact List.Pairwise.nil
  | cons x r => exact risingS_rs r x h nd
/-! ### rules: set(list of texts), len, sorted -/
def SetSO (w : World) (a : Addr) (l : List Str) : HO := .ext fun h => SetS w h a l
section
variable {X : Cx}
theorem setSO_new {w : World} {P : Program} {H : Hp} {h : Heap} {a : Addr} {l : List Str} (R : SetS w h a l) : ObjOk P w H h a (SetSO w a l) := by
  obtain ⟨o, _, _, _, ho, _⟩ := R.ex
  exact ⟨R, ⟨o, ho⟩, fun h1 h2 p k => SetS.at p k⟩
theorem setSO_get {pins : List (Addr × Obj)} {σ : L2.St} {H : Hp} {s : Shared} {a : Addr} {l : List Str} (I : Inv X pins σ H s) (ha : H a = some (SetSO X.w a l)) : SetS X.w s.heap a l := (I.hok a _ ha).1
/-- set(xs), xs a list of texts -/
def rSetS (K : PySem.W.Frag) (w : World) : List V → Hp → VK → Prop := fun vs H Q => ∃ (a : Addr) (xs : List Str), vs = [.ref a] ∧ SqL K H a (xs.map V.str) ∧ xs.length < 1000 ∧ ∀ (p : Addr) (l : List Str), H p = none → l.Nodup → (∀ x, x ∈ l ↔ x ∈ xs) → l.length ≤ xs.length → Q (.ref p) (upd H p (SetSO w p l))
theorem cr_setS (hc : X.calm = true) : CallR X (.type "set") (rSetS X.K X.w) := by
  intro pins s σ H vs us Q I r h
  obtain ⟨a, xs, rfl, hs, hl, q⟩ := h
  obtain ⟨its, rv, pl, _⟩ := I.list hs
  rw [Vals.ref1 r]
  have len : its.length = xs.length := by rw [← rv.length, List.length_map]
  have at_ : ∀ (i : Nat) (v : Value), its.toArray[i]? = some v → ∃ t, v = .str ((fun i => xs.getD i Str.empty) i) t := fun i v hv => by
    have hv2 : its[i]? = some v := by simpa using hv
    have hi2 : i < xs.length := by rw [← len]; exact (List.getElem?_eq_some_iff.mp hv2).1
    have hx : (xs.map V.str)[i]? = some (V.str xs[i]) := by simp [hi2]
    obtain ⟨u, hu, ru⟩ := rv.get hx
    rw [hv2] at hu
    cases hu
    obtain ⟨t, e⟩ := (show ∃ t, v = Value.str xs[i] t from ru)
    exact ⟨t, by rw [e]; simp [List.getD, hi2]⟩
  refine set_of_list (I.ok.hd hc) pl.isList at_ (by rw [List.size_toArray, len]; unfold scanBound; omega) fun h' tk R k => ?_
  rw [show its.toArray.size = xs.length from by rw [List.size_toArray, len]] at R
  refine ⟨.ref s.heap.objs.size, upd H s.heap.objs.size (SetSO X.w s.heap.objs.size _), I.laid (t' := tk) (fun b u e => k b u (Heap.lt_size e) e) (Nat.le_refl _) (setSO_new R), rfl, q _ _ (I.hok.fresh (Nat.le_refl _)) ?_ (fun x => ?_) (metS_len _ _)⟩
  · obtain ⟨_, _, _, _, _, _, _, _, _, nd, _⟩ := R.ex
    exact nd
  · rw [metS_mem]
    constructor
    · rintro ⟨j, hj, e⟩
      rw [← e]
      simp [List.getD, hj]
    · intro hx
      obtain ⟨j, hj, e⟩ := List.getElem_of_mem hx
      exact ⟨j, hj, by simp [List.getD, hj, e]⟩
/-- sorted(a set of texts) -/
def rSortSS (w : World) : List V → Hp → VK → Prop := fun vs H Q => ∃ (a : Addr) (l : List Str), vs = [.ref a] ∧ H a = some (SetSO w a l) ∧ l.length < 64 ∧ ∀ p, H p = none → Q (.ref p) (upd H p (.lst ((riseS l).map V.str)))
theorem cr_sortSS (hc : X.calm = true) : CallR X (.builtin "sorted") (rSortSS X.w) := by
  intro pins s σ H vs us Q I r h
  obtain ⟨a, l, rfl, ha, h64, q⟩ := h
  have R := setSO_get I ha
  obtain ⟨o, es, ep, t, ho, hex, hd, g, pm, nd, hb, hf, hr, hl⟩ := R.ex
  rw [Vals.ref1 r]
  refine Calls.call_function_entry kind_sorted plain_sorted entry_sorted (args_sorted1 _) ?_
  unfold Builtin.«sorted»
  refine wpAny_bind (m := checkCount "sorted" 1 1 _) (wpAny_pure (wpAny_bind (collect_set (A := X.A.in1) (I.ok.hd hc) ⟨o, ho, hex.1, hd⟩ hf hb hr hl fun s1 vs k1 hz g1 o1 pv => ?_)))
  have esl : es.toList.length = l.length := by rw [← pm.length_eq, List.length_map]
  have vl : vs.length = l.length := by rw [pv.length_eq, List.length_map]; exact esl
  have isS : ∀ v ∈ vs, ∃ x t, v = Value.str x t := fun v hv => by
    obtain ⟨e, he, z⟩ := List.mem_map.mp (pv.mem_iff.mp hv)
    obtain ⟨k, tk, h1, _⟩ := g e he
    exact ⟨k, tk, by rw [← z]; exact h1⟩
  have hS := strsAre_map vs isS
  have pk : (vs.map strOf).Perm l := by
    refine ((pv.map strOf).trans ?_).trans pm
    rw [List.map_map]
    exact List.Perm.of_eq (List.map_congr_left fun e he => by
      obtain ⟨k, tk, h1, _⟩ := g e he
      show strOf e.2 = keyS e
      unfold keyS
      rw [h1]
      rfl)
  refine wpAny_bind (wpAny_newList ?_ (by rw [vl, sizeLine_eq]; omega))
  have atL : (s1.heap.push (seqObj "list" vs.toArray 0)).get? s1.heap.objs.size = some (seqObj "list" vs.toArray 0) := Heap.get?_push_size _ rfl
  have kk : ∀ v₁ v₂ rest, vs = v₁ :: v₂ :: rest → keyKind' (v₁ :: v₂ :: rest).toArray = pure oneType' := fun v₁ v₂ rest e => keyKind_strs (by rw [← e]; exact hS)
  refine wpAny_bind (wpAny_holding (wpAny_call_entry slot_list_sort ⟨_, atL, rfl⟩ entry_list_sort (list_sort_treeK strKind_oneLt atL hS.keysOf kk (by rw [vl]; exact h64) fun st' a1 a2 => ⟨_, rfl, ?_⟩) (args_list_sort _)))
  obtain ⟨ss, b1, b2, b3⟩ := sorted_out_str hS a1 a2
  obtain ⟨c, hcap⟩ := sortedHeap_at (vs := vs) (out := (arrOf st').map (·.2)) atL
  have ps : ss.Perm l := b2.trans pk
  have rs : Rs ss := sortedS_rs b3 (ps.nodup_iff.mpr nd)
  have er : ss = riseS l := riseS_of rs fun x => ps.mem_iff
  have hn : H s1.heap.objs.size = none := I.hok.fresh hz
  have hlen : ((riseS l).map V.str).length ≤ sizeLine := by rw [List.length_map, ← er, ps.length_eq]; exact small64 h64
  have vals : Vals ((riseS l).map V.str) ((arrOf st').map (·.2)).toList := by rw [← er]; exact vals_of_strs b1
  have keep : ∀ b u, s.heap.get? b = some u → (sortedHeap (s1.heap.push (seqObj "list" vs.toArray 0)) s1.heap.objs.size vs ((arrOf st').map (·.2))).get? b = some u := fun b u e => by
    have z := k1 b u e
    have lt := Heap.lt_size z
    rw [sortedHeap_old (Nat.ne_of_lt lt) (by rw [size_push']; exact Nat.lt_succ_of_lt lt)]
    exact Heap.get?_push_of_some _ z
  refine wpAny_pure ⟨_, rfl, ?_⟩
  have J : Inv X pins σ (upd H s1.heap.objs.size (.lst ((riseS l).map V.str))) { s with heap := sortedHeap (s1.heap.push (seqObj "list" vs.toArray 0)) s1.heap.objs.size vs ((arrOf st').map (·.2)), gens := s1.gens, drawn := s1.drawn, toks := s1.toks } :=
    I.call (ch := []) (Un.laid keep hz hn) (I.hok.laid keep hz ⟨hlen, _, c, vals, hcap⟩) (by rw [g1]; exact I.bare) (fun _ z => nomatch z)
  have e : ({ s1 with heap := sortedHeap (s1.heap.push (seqObj "list" vs.toArray 0)) s1.heap.objs.size vs ((arrOf st').map (·.2)) } : Shared) = { s with heap := sortedHeap (s1.heap.push (seqObj "list" vs.toArray 0)) s1.heap.objs.size vs ((arrOf st').map (·.2)), gens := s1.gens, drawn := s1.drawn, toks := s1.toks } := by
    cases s1
    cases s
    cases o1
    rfl
  exact ⟨.ref s1.heap.objs.size, _, by rw [e]; exact J, rfl, q _ hn⟩
end
end Fc
set_option maxHeartbeats 4000000
namespace Fc
open PySem PySem.Spec PyProof.Rows L2
section
variable {X : Cx}
def rSet0S (w : World) : List V → Hp → VK → Prop := fun vs H Q => vs = [] ∧ ∀ p, H p = none → Q (.ref p) (upd H p (SetSO w p []))
theorem cr_set0S : CallR X (.type "set") (rSet0S X.w) := by
  intro pins s σ H vs us Q I r h
  obtain ⟨rfl, q⟩ := h
  cases r
  refine setR_new fun _ => ⟨.ref _, upd H s.heap.objs.size (SetSO X.w s.heap.objs.size []), I.laid (t' := s.toks) (fun b u e => Heap.get?_push_of_some _ e) (Nat.le_refl _) (setSO_new (newS rfl (Heap.get?_push_size _ rfl))), rfl, q _ (I.hok.fresh (Nat.le_refl _))⟩
def rSAddS (w : World) : V → List V → Hp → VK → Prop := fun x vs H Q => ∃ (a : Addr) (k : Str) (l : List Str), x = .ref a ∧ vs = [.str k] ∧ H a = some (SetSO w a l) ∧ l.length < 1000 ∧ Q .non (upd H a (SetSO w a (if k ∈ l then l else k :: l)))
theorem addS {s : Shared} {w : World} {P : Program} {A : Around} {E : Value → Shared → Prop} {a : Addr} {l : List Str} {k : Str} {tk : Tok} {Q : Value → Shared → Prop} (R : SetS w s.heap a l) (room : l.length + 1 < scanBound)
    (hQ : ∀ h', Heap.SameBut a s.heap h' → SetS w h' a (if k ∈ l then l else k :: l) → Q .none { s with heap := h', toks := s.toks + 1 }) :
    wpAny (model P w) A (call (.builtin "set.add") [.ref a, .str k tk]) Q E s := by
  have hS : s.heap.SetOf (PySem.strKind P w) a _ _ := R.setOf
  refine wpAny_call_entry PySem.F.slot_set_add hS.typeIs PySem.F.entry_set_add ?_ (PySem.F.args_set_add_2 _ _)
  unfold Builtin.«set.add» Builtin.Frozenset.oneOther; simp only [List.isEmpty_nil, bind_assoc]
  unfold Builtin.Frozenset.addrOf setAdd; refine wpAny_bind (wpAny_pure ?_)
  try dsimp only
  refine wpAny_bind (wpAny_pure ?_)
  try dsimp only
  refine wpAny_bind (wpAny_holding (wpAny_bind ((PySem.strKind P w).pyHash (strKind_is P w k tk) ?_)))
  refine addS_hashed (s := { s with toks := s.toks + 1 }) R room fun b h' l' sb r el => ?_
  rw [el] at r
  exact wpAny_pure ⟨_, rfl, hQ h' sb r⟩
theorem mt_saddS : MtR X "set.add" (rSAddS X.w) := by
  intro pins s σ H x xs v us Q I rx rxs h
  obtain ⟨a, k, l, rfl, rfl, ha, room, q⟩ := h
  cases rx
  cases rxs with
  | cons ry rt =>
    cases rt
    obtain ⟨tk, rfl⟩ := ry
    refine addS (setSO_get I ha) (by unfold scanBound; omega) fun h' sb new => ?_
    have he : ∃ u, h'.get? a = some u := by
      obtain ⟨o, _, _, _, ho, _⟩ := new.ex
      exact ⟨o, ho⟩
    exact ⟨.non, upd H a (SetSO X.w a _), I.write (e := a) (t' := s.toks + 1) (by rw [ha]; trivial) (.inl rfl) (fun b u hb hu => (sb.2 b hb).trans hu) he (setSO_new new), rfl, q⟩
def tSAddS (w : World) (to : TE) (t : TA) : TE := fun σ H Q => to σ H fun x H1 => (∃ a l, x = V.ref a ∧ H1 a = some (SetSO w a l)) ∧ t σ H1 fun xs H2 => rSAddS w x xs H2 Q
theorem pe_saddS {o e : Expr} {es : List Expr} {to : TE} {t : TA} {apos cpos : Pos} (ho : PE X o to) (ha : PA X (e :: es) t) (hbase : attributeBase o "add" X.env (eval o X.env) = eval o X.env := by rfl)
    (hfew : ((backTo cpos (starEach (e :: es) X.env)).all (fun x => !x.1) && (backToKw cpos (keywordEach [] X.env)).all (fun x => x.1.isSome) && decide ((e :: es).length + ([] : List Keyword).length + (if ([] : List Keyword).isEmpty then 0 else 1) < 30)) = true := by rfl)
    (hline : (apos.endLine == cpos.line) = true := by rfl) (hs : starEach (e :: es) X.env = (false, eval e X.env) :: starEach es X.env := by rfl) (hplain : (backTo cpos (starEach es X.env)).any (·.1) = false := by rfl) :
    PE X (.Call (.Attribute o "add" apos) (e :: es) [] cpos) (tSAddS X.w to t) := by
  refine ⟨fun pins s σ H Q I h => wpAny_Call_method_late hbase hfew hline rfl (thn (ho.run pins s σ H _ I h) fun v s1 ⟨x, H1, I1, r1, ty, q1⟩ => ?_)⟩
  obtain ⟨a, l, rfl, hka⟩ := ty
  have hS := (setSO_get I1 hka).setOf (P := X.prog)
  cases r1
  refine ⟨"set", "set.add", PySem.F.plainAttrs_set, PySem.F.slot_set_add, PySem.F.type_set_add, hS.typeIs, hS.noDict, ?_⟩
  have hA := ha.run cpos pins s1 σ H1 _ I1 q1; rw [hs] at hA ⊢
  refine Calls.callWith_builtin (by show (false || (backTo cpos (starEach es X.env)).any (·.1)) = false; rw [hplain] <;> rfl) (Calls.evalArgs_plain ?_)
  exact thn hA fun us s2 ⟨vs, H2, I2, r2, q2⟩ => mt_saddS pins s2 σ H2 (.ref a) vs (.ref a) us Q I2 rfl r2 q2
def rLenSS (w : World) : List V → Hp → VK → Prop := fun vs H Q => ∃ (a : Addr) (l : List Str), vs = [.ref a] ∧ H a = some (SetSO w a l) ∧ Q (.int (l.length : Nat)) H
theorem call_lenSS : CallR X (.builtin "len") (rLenSS X.w) := by
  intro pins s σ H vs us Q I r h
  obtain ⟨a, l, rfl, ha, q⟩ := h
  rw [Vals.ref1 r]
  obtain ⟨o, es, ep, t, ho, hex, hd, _, pm, _, hb, hf, _⟩ := (setSO_get I ha).ex
  have sz : es.size = l.length := by rw [← pm.length_eq, List.length_map, Array.length_toList]
  refine PySem.call_len_set ho hex hd hf (by unfold scanBound at hb; omega) ?_
  rw [sz]
  exact ⟨.int (l.length : Nat), H, I.tok _, ⟨_, rfl⟩, q⟩
end
end Fc
set_option maxHeartbeats 4000000
/-! A comprehension whose parts leave what was there. -/
namespace Fc
open PySem PySem.Spec PyProof.Rows L2
theorem Dn.sub {S S' : Addr → Prop} {H : Hp} {v : V} {d : PyData} (h : Dn S' H v d) (k : ∀ a, S a → S' a) : Dn S H v d := Dn.weak k h
theorem DnA.map_at {α : Type} {F : α → PyData} {S : Addr → Prop} {H : Hp} {xs : List V} {l : List α} {i : Nat} {x : V} {b : α} (h : DnA S H xs (l.map F)) (hx : xs[i]? = some x) (hb : l[i]? = some b) : Dn S H x (F b) := by
  obtain ⟨d, h1, h2⟩ := h.at hx
  rw [List.getElem?_map, hb] at h1
  cases h1
  exact h2
/-- S, and D -/
def sD (S : Addr → Prop) (D : Addr) : Addr → Prop := fun a => S a ∨ a = D
section
variable {J : It} {n : Nat} {G : Hp → Prop} {Y : Nat → Hp → V → Hp → Prop} {g : TG} {tt : TT} {te : TE} {vs : List Nat} {σ : L2.St} {H1 : Hp} {D : Addr} {Qd : Hp → Prop}
theorem lc_gen {α : Type} (w : Walk J n G Y) (l : List α) (hn : l.length = n) (f : α → Bool) (v : α → PyData) (S : Addr → Prop) (hS : ∀ a, S a → H1 a ≠ none) (hD : H1 D = none) (hl : n ≤ 1000) (hG : ∀ H, Kp N0 H1 H → G H)
    (turn : ∀ (i : Nat) (a : α) (x : V) (H H' : Hp), l[i]? = some a → Kp N0 H1 H → Y i H x H' → ∀ Kt : L2.St → Hp → Prop, (∀ (σ2 : L2.St) (H2 : Hp), Kp N0 H H2 → wipe σ2 vs = wipe σ vs → (∀ Q : Bool → Hp → Prop, (∀ H3, Kp N0 H2 H3 → Q (f a) H3) → tt σ2 H2 Q) →
      (f a = true → ∀ H3, Kp N0 H2 H3 → ∀ S', (∀ a, S a → S' a) → (∀ a, S' a → H3 a ≠ none) → ∀ Q : VK, (∀ y H4, Kp N0 H3 H4 → Dn S' H4 y (v a) → Q y H4) → te σ2 H3 Q) → Kt σ2 H2) → g x (wipe σ vs) H' Kt)
    (hd : ∀ H' out, Kp N0 H1 H' → H' D = some (.lst out) → DnA (sD S D) H' out ((l.filter f).map v) → Qd H') :
    ∃ W : Nat → Nat → Hp → Prop, (∃ m, W 0 m (upd H1 D (.lst []))) ∧ ∀ i m H, W i m H → (J.stop i H ∧ Qd H) ∨ (J.go i H ∧ ∃ Nx : Hp → Prop, (∀ H', Nx H' → ∃ m', m' < m ∧ W (i + 1) m' H') ∧ ∀ x H', J.yld i H x H' → g x (wipe σ vs) H' fun σ2 H2 => wipe σ2 vs = wipe σ vs ∧ tt σ2 H2 fun b H3 =>
      if b = true then te σ2 H3 fun y H4 => ∃ acc, H4 D = some (.lst acc) ∧ acc.length < sizeLine ∧ Nx (upd H4 D (.lst (acc ++ [y]))) else Nx H3) := by
  refine lc_it w (Pv := fun i H => Kp N0 H1 H ∧ ∃ out, H D = some (.lst out) ∧ out.length ≤ i ∧ DnA (sD S D) H out (((l.take i).filter f).map v)) ⟨Kp.new hD, [], upd_same, Nat.le_refl _, .nil⟩ (fun i H _ p => hG H p.1) (fun i x H H' hi p y => ?_) fun H p => ?_
  · obtain ⟨k1, out, hout, hlen, hdn⟩ := p
    have hil : i < l.length := by rw [hn]; exact hi
    refine turn i l[i] x H H' (List.getElem?_eq_getElem hil) k1 y _ fun σ2 H2 k2 hw test elt => ⟨hw, test _ fun H3 k3 => ?_⟩
    have tk : l.take (i + 1) = l.take i ++ [l[i]] := by rw [List.take_append_getElem]
    have k13 := k1.trans (k2.trans k3)
    have hout3 : H3 D = some (.lst out) := (k2.trans k3).obj hout ntl (fun z => z.elim)
    have hdn3 : DnA (sD S D) H3 out (((l.take i).filter f).map v) := hdn.kp (k2.trans k3).up
    cases c : f l[i] with
    | true =>
      rw [if_pos rfl]
      refine elt c H3 k3 (sD S D) (fun a z => .inl z) (fun a z => ?_) _ fun y2 H4 k4 hy => ?_
      · rcases z with z | z
        · intro q
          exact hS a z (k13.fresh q)
        · rw [z, hout3]
          intro q
          cases q
      · have hout4 : H4 D = some (.lst out) := k4.obj hout3 ntl (fun z => z.elim)
        have kd : Kp (sD S D) H4 (upd H4 D (.lst (out ++ [y2]))) := Kp.mutS (.inr rfl) hout4 ntl ntl
        refine ⟨out, hout4, Nat.lt_of_le_of_lt hlen (by rw [sizeLine_eq]; omega), (k13.trans k4).mut hD, out ++ [y2], upd_same, by rw [List.length_append]; exact Nat.succ_le_succ hlen, ?_⟩
        rw [tk, List.filter_append, List.map_append, List.filter_cons, if_pos c]
        exact ((hdn3.kp k4.up).kp kd).app (.one (hy.kp kd))
    | false =>
      rw [if_neg Bool.false_ne_true]
      refine ⟨k13, out, hout3, Nat.le_succ_of_le hlen, ?_⟩
      rw [tk, List.filter_append, List.map_append, List.filter_cons, if_neg (by rw [c]; exact Bool.false_ne_true)]
      show DnA (sD S D) H3 out (_ ++ [])
      rw [List.append_nil]
      exact hdn3
  · obtain ⟨k1, out, hout, _, hdn⟩ := p
    rw [← hn, List.take_length] at hdn
    exact hd H out k1 hout hdn
end
section
variable {K : PySem.W.Frag} {X : Cx}
/-- over a list: the target one name -/
theorem lc_lst {α : Type} {a D : Addr} {xs : List V} {tt : TT} {te : TE} {vs : List Nat} {σ : L2.St} {H1 : Hp} {Qd : Hp → Prop} {j : Nat} (l : List α) (f : α → Bool) (v : α → PyData) (S : Addr → Prop) (hx : H1 a = some (.lst xs)) (hn : l.length = xs.length) (hS : ∀ a, S a → H1 a ≠ none) (hD : H1 D = none) (hl : xs.length ≤ 1000)
    (hw : ∀ x, wipe ((wipe σ vs).set j (some x)) vs = wipe σ vs)
    (ht : ∀ (i : Nat) (b : α) (x : V) (H : Hp), l[i]? = some b → xs[i]? = some x → Kp N0 H1 H → ∀ Q : Bool → Hp → Prop, (∀ H3, Kp N0 H H3 → Q (f b) H3) → tt ((wipe σ vs).set j (some x)) H Q)
    (he : ∀ (i : Nat) (b : α) (x : V) (H : Hp), l[i]? = some b → xs[i]? = some x → f b = true → Kp N0 H1 H → ∀ S', (∀ a, S a → S' a) → (∀ a, S' a → H a ≠ none) → ∀ Q : VK, (∀ y H4, Kp N0 H H4 → Dn S' H4 y (v b) → Q y H4) → te ((wipe σ vs).set j (some x)) H Q)
    (hd : ∀ H' out, Kp N0 H1 H' → H' D = some (.lst out) → DnA (sD S D) H' out ((l.filter f).map v) → Qd H') :
    ∃ W : Nat → Nat → Hp → Prop, (∃ m, W 0 m (upd H1 D (.lst []))) ∧ ∀ i m H, W i m H → ((Itl K a).stop i H ∧ Qd H) ∨ ((Itl K a).go i H ∧ ∃ Nx : Hp → Prop, (∀ H', Nx H' → ∃ m', m' < m ∧ W (i + 1) m' H') ∧ ∀ x H', (Itl K a).yld i H x H' → gName j x (wipe σ vs) H' fun σ2 H2 => wipe σ2 vs = wipe σ vs ∧ tt σ2 H2 fun b H3 =>
      if b = true then te σ2 H3 fun y H4 => ∃ acc, H4 D = some (.lst acc) ∧ acc.length < sizeLine ∧ Nx (upd H4 D (.lst (acc ++ [y]))) else Nx H3) := by
  refine lc_gen walk_list l hn f v S hS hD hl (fun H k => SqL.of (k.obj hx ntl fun z => z.elim)) (fun i b x H H' hb k y Kt kt => ?_) hd
  obtain ⟨rfl, hxi⟩ := y
  exact kt _ _ Kp.refl (hw x) (ht i b x H' hb hxi k) fun c H3 k3 => he i b x H3 hb hxi c (k.trans k3)
/-- over a text -/
theorem lc_txt {z : Str} {D : Addr} {tt : TT} {te : TE} {vs : List Nat} {σ : L2.St} {H1 : Hp} {Qd : Hp → Prop} {j : Nat} (f : Nat → Bool) (v : Nat → PyData) (S : Addr → Prop) (hS : ∀ a, S a → H1 a ≠ none) (hD : H1 D = none) (hl : z.cps.toList.length ≤ 1000)
    (hw : ∀ x, wipe ((wipe σ vs).set j (some x)) vs = wipe σ vs)
    (ht : ∀ (c : Nat) (H : Hp), c ∈ z.cps.toList → Kp N0 H1 H → ∀ Q : Bool → Hp → Prop, (∀ H3, Kp N0 H H3 → Q (f c) H3) → tt ((wipe σ vs).set j (some (.str ⟨#[c]⟩))) H Q)
    (he : ∀ (c : Nat) (H : Hp), c ∈ z.cps.toList → f c = true → Kp N0 H1 H → ∀ S', (∀ a, S a → S' a) → (∀ a, S' a → H a ≠ none) → ∀ Q : VK, (∀ y H4, Kp N0 H H4 → Dn S' H4 y (v c) → Q y H4) → te ((wipe σ vs).set j (some (.str ⟨#[c]⟩))) H Q)
    (hd : ∀ H' out, Kp N0 H1 H' → H' D = some (.lst out) → DnA (sD S D) H' out ((z.cps.toList.filter f).map v) → Qd H') :
    ∃ W : Nat → Nat → Hp → Prop, (∃ m, W 0 m (upd H1 D (.lst []))) ∧ ∀ i m H, W i m H → ((Its z).stop i H ∧ Qd H) ∨ ((Its z).go i H ∧ ∃ Nx : Hp → Prop, (∀ H', Nx H' → ∃ m', m' < m ∧ W (i + 1) m' H') ∧ ∀ x H', (Its z).yld i H x H' → gName j x (wipe σ vs) H' fun σ2 H2 => wipe σ2 vs = wipe σ vs ∧ tt σ2 H2 fun b H3 =>
      if b = true then te σ2 H3 fun y H4 => ∃ acc, H4 D = some (.lst acc) ∧ acc.length < sizeLine ∧ Nx (upd H4 D (.lst (acc ++ [y]))) else Nx H3) := by
  refine lc_gen walk_str z.cps.toList (by simp) f v S hS hD (by simpa using hl) (fun _ _ => trivial) (fun i b x H H' hb k y Kt kt => ?_) hd
  obtain ⟨rfl, c, hc, rfl⟩ := y
  have e : z.cps.toList[i]? = some c := by simpa using hc
  rw [e] at hb
  cases hb
  have hm := List.mem_of_getElem? e
  exact kt _ _ Kp.refl (hw _) (ht _ H' hm k) fun cc H3 k3 => he _ H3 hm cc (k.trans k3)
theorem hu64 {A : Around} {k : Nat} (hr : Room k A) : A.units + 64 < cLine := by
  have z := hr.un
  omega
/-! the same rules, the written part told -/
theorem pe_gs {x z : Str} {pos : Pos} (h : ∃ t, X.mg x = some (.str z t)) (hg : Gl X x := by rfl) (hd : (x == ("__debug__" : Str)) = false := by decide) : PE X (.Name x pos) (tC (.str z)) := by
  obtain ⟨t, e⟩ := h
  exact pe_glob hg e ⟨t, rfl⟩ hd
theorem pe_gi {x : Str} {z : Int} {pos : Pos} (h : ∃ t, X.mg x = some (.int z t)) (hg : Gl X x := by rfl) (hd : (x == ("__debug__" : Str)) = false := by decide) : PE X (.Name x pos) (tC (.int z)) := by
  obtain ⟨t, e⟩ := h
  exact pe_glob hg e ⟨t, rfl⟩ hd
theorem pe_joinK {o e : Expr} {to te : TE} {apos pos : Pos} (hK : X.K = K) (ho : PE X o to) (he : PE X e te) (hs : starEach [e] X.env = [(false, eval e X.env)] := by rfl) (hbase : attributeBase o "join" X.env (eval o X.env) = eval o X.env := by rfl) (hline : (apos.endLine == pos.line) = true := by rfl) :
    PE X (.Call (.Attribute o "join" apos) [e] [] pos) (tM1 (fun x xs H Q => ∃ a p, ∃ ys : List Str, x = .str a ∧ xs = [.ref p] ∧ (SqL K H p (ys.map V.str) ∨ SqT K H p (ys.map V.str)) ∧ (ys.map (·.length)).sum + ys.length * a.length ≤ 16777216 ∧ Q (.str (Txt.join a ys)) H) to te) := by
  subst hK
  exact pe_join ho he hs hbase hline
theorem ix_tupK (h : X.K = K := by rfl) : IxR X (rIxT K) := by
  subst h
  exact ix_tup
theorem ix_listK (h : X.K = K := by rfl) : IxR X (rIxL K) := by
  subst h
  exact ix_list
end
/-! ### signs joined -/
def oS (l : List Nat) : Str := ⟨l.toArray⟩
theorem oS_cps (l : List Nat) : (oS l).cps.toList = l := by simp [oS]
theorem oS_eq {z : Str} {l : List Nat} (h : z.cps.toList = l) : z = oS l := str_ext (by rw [oS_cps, h])
theorem join_signs (l : List Nat) : Txt.join "" (l.map fun c => (⟨#[c]⟩ : Str)) = oS l := by
  have e : (l.map fun c => (⟨#[c]⟩ : Str)) = (l.map fun c => [c]).map SX.S := by
    rw [List.map_map]
    rfl
  have e0 : ("" : Str) = SX.S [] := rfl
  rw [e, e0, SX.join_S]
  have key : ∀ l : List Nat, TL.joinL [] (l.map fun c => [c]) = l := by
    intro l
    induction l with
    | nil => rfl
    | cons c r ih =>
      cases r with
      | nil => rfl
      | cons d t =>
        show [c] ++ [] ++ TL.joinL [] ((d :: t).map fun c => [c]) = c :: d :: t
        rw [ih]
        rfl
  rw [key]
  rfl
theorem signs_sum (l : List Nat) : ((l.map fun c => (⟨#[c]⟩ : Str)).map (·.length)).sum = l.length := by
  induction l with
  | nil => rfl
  | cons c r ih =>
    rw [List.map_cons, List.map_cons, List.sum_cons, ih, List.length_cons]
    show 1 + r.length = _
    omega
theorem signs_map (l : List Nat) : l.map (fun c => PyData.str ⟨#[c]⟩) = (l.map fun c => (⟨#[c]⟩ : Str)).map PyData.str := by
  rw [List.map_map]
  rfl
/-- a list without doubles in another -/
theorem nodup_le {α : Type} [DecidableEq α] : ∀ {l m : List α}, l.Nodup → (∀ x ∈ l, x ∈ m) → l.length ≤ m.length
  | [], _, _, _ => Nat.zero_le _
  | x :: r, m, nd, h => by
    obtain ⟨h1, h2⟩ := List.nodup_cons.mp nd
    have hx := h x List.mem_cons_self
    have ih := nodup_le (l := r) (m := m.erase x) h2 fun y hy => (List.mem_erase_of_ne (fun e => h1 (by rw [← show y = x from e]; exact hy))).mpr (h y (List.mem_cons_of_mem _ hy))
    rw [List.length_erase_of_mem hx] at ih
    have pos : 0 < m.length := List.length_pos_of_mem hx
    rw [List.length_cons]
    omega
end Fc
set_option maxHeartbeats 4000000
/-! What the drawing defs keep: a box of two: a list of numbers, a number. -/
namespace Fc
open PySem PySem.Spec PyProof.Rows L2
/-- the box at b, its numbers at l -/
def Box (H : Hp) (b l : Addr) : Prop := ∃ (ns : List Int) (s : Int), H b = some (.lst [.ref l, .int s]) ∧ H l = some (.lst (ns.map V.int)) ∧ ns.length ≤ 63
/-- what draws change -/
def sB (b l : Addr) : Addr → Prop := fun a => a = b ∨ a = l
section
variable {S : Addr → Prop} {H H' : Hp} {b l : Addr}
theorem Box.ne (h : Box H b l) : b ≠ l := by
  obtain ⟨ns, s, h1, h2, _⟩ := h
  intro e
  rw [e, h2] at h1
  have z := Option.some.inj h1
  injection z with z
  cases ns with
  | nil => cases z
  | cons n r =>
    injection z with z1
    cases z1
theorem Box.on (h : Box H b l) : ∀ a, sB b l a → H a ≠ none := fun a z => by
  obtain ⟨ns, s, h1, h2, _⟩ := h
  rcases z with e | e
  · rw [e, h1]
    intro q
    cases q
  · rw [e, h2]
    intro q
    cases q
theorem Box.kp (h : Box H b l) (k : Kp N0 H H') : Box H' b l := by
  obtain ⟨ns, s, h1, h2, h3⟩ := h
  exact ⟨ns, s, k.obj h1 ntl nn, k.obj h2 ntl nn, h3⟩
theorem Box.upd (h : Box H b l) {p : Addr} {o : HO} (hp : ¬ sB b l p) : Box (upd H p o) b l := by
  obtain ⟨ns, s, h1, h2, h3⟩ := h
  exact ⟨ns, s, by rw [upd_ne (fun e => hp (.inl e.symm))]; exact h1, by rw [upd_ne (fun e => hp (.inr e.symm))]; exact h2, h3⟩
theorem eqvI_nil : ∀ ns : List Int, PyData.eqv (.list (ns.map PyData.int)) (.list []) = ns.isEmpty
  | [] => by simp [PyData.eqv, PyData.eqvAll]
  | n :: r => by simp [PyData.eqv, PyData.eqvAll]
theorem depthI : ∀ ns : List Int, PyData.depthAll (ns.map PyData.int) ≤ 1
  | [] => by simp [PyData.depthAll]
  | n :: r => by
    have ih := depthI r
    simp only [List.map_cons, PyData.depthAll, PyData.depth]
    omega
theorem layI : ∀ ns : List Int, PyData.canLayAll0 (ns.map PyData.int) = true
  | [] => by simp [PyData.canLayAll0]
  | n :: r => by simp [PyData.canLayAll0, PyData.canLay0, layI r]
theorem shapedI (ns : List Int) : SeqAt.shaped (.list (ns.map PyData.int)) = true := by
  unfold SeqAt.shaped
  rw [Bool.and_eq_true]
  have h := depthI ns
  exact ⟨by simp [PyData.canLay0, layI ns], decide_eq_true (by simp only [PyData.depth]; omega)⟩
theorem dpI {K : PySem.W.Frag} {H : Hp} : ∀ ns : List Int, DpAll K H (ns.map V.int) (ns.map PyData.int)
  | [] => .nil
  | n :: r => .cons (.int n) (dpI r)
end
theorem cutV_take (xs : List V) {j : Int} (h : 0 ≤ j) : cutV xs none (some j) = xs.take j.toNat := by
  have e : j = ((j.toNat : Nat) : Int) := by omega
  unfold cutV
  rw [HT.sIx_none, e, HT.sIx_nat]
  simp only [List.drop_zero, Nat.sub_zero, Int.toNat_natCast]
  exact List.take_eq_take_iff.mpr (by omega)
theorem cutS_take (z : Str) {j : Int} (h : 0 ≤ j) : (cutS z none (some j)).cps.toList = z.cps.toList.take j.toNat := by
  have e : j = ((j.toNat : Nat) : Int) := by omega
  have el : z.length = z.cps.toList.length := by simp [PySem.Str.length]
  unfold cutS
  rw [HT.sIx_none, e, HT.sIx_nat]
  simp only [List.drop_zero, Nat.sub_zero, Int.toNat_natCast]
  exact List.take_eq_take_iff.mpr (by omega)
/-- a part of a list without doubles is what the list has of it -/
theorem sub_filter : ∀ {l m : List Nat}, l.Nodup → m.Sublist l → l.filter (fun c => decide (c ∈ m)) = m := by
  intro l m nd h
  induction h with
  | slnil => rfl
  | cons a h ih =>
    rename_i m l
    obtain ⟨n1, n2⟩ := List.nodup_cons.mp nd
    have na : a ∉ m := fun z => n1 (h.subset z)
    rw [List.filter_cons, if_neg (by simpa using na)]
    exact ih n2
  | cons_cons a h ih =>
    rename_i m l
    obtain ⟨n1, n2⟩ := List.nodup_cons.mp nd
    rw [List.filter_cons, if_pos (by simp)]
    congr 1
    refine Eq.trans (List.filter_congr fun c hc => ?_) (ih n2)
    have ne : c ≠ a := fun z => n1 (z ▸ hc)
    simp [ne]
theorem marks_of {m : List Nat} (h : m.Sublist ("abcdefgh" : Str).cps.toList) : oS m = oS ((("abcdefgh" : Str).cps.toList).filter (sg (oS m))) := by
  have e := sub_filter (by decide) h
  have e2 : (("abcdefgh" : Str).cps.toList).filter (sg (oS m)) = m := by
    refine Eq.trans (List.filter_congr fun c _ => ?_) e
    unfold sg
    rw [oS_cps]
  rw [e2]
theorem eqvS_nil : ∀ l : List Str, PyData.eqv (.list (l.map PyData.str)) (.list []) = l.isEmpty
  | [] => by simp [PyData.eqv, PyData.eqvAll]
  | n :: r => by simp [PyData.eqv, PyData.eqvAll]
theorem depthS : ∀ l : List Str, PyData.depthAll (l.map PyData.str) = 0
  | [] => by simp [PyData.depthAll]
  | n :: r => by simp [PyData.depthAll, PyData.depth, depthS r]
theorem layS : ∀ l : List Str, (∀ z ∈ l, PyData.strOk z = true) → PyData.canLayAll0 (l.map PyData.str) = true
  | [], _ => by simp [PyData.canLayAll0]
  | n :: r, h => by
    simp only [List.map_cons, PyData.canLayAll0, PyData.canLay0, Bool.and_eq_true]
    exact ⟨h n List.mem_cons_self, layS r fun z hz => h z (List.mem_cons_of_mem _ hz)⟩
theorem shapedS (l : List Str) (h : ∀ z ∈ l, PyData.strOk z = true) : SeqAt.shaped (.list (l.map PyData.str)) = true := by
  unfold SeqAt.shaped
  rw [Bool.and_eq_true]
  exact ⟨by simp only [PyData.canLay0]; exact layS l h, decide_eq_true (by simp only [PyData.depth]; rw [depthS]; decide)⟩
theorem dpS {K : PySem.W.Frag} {H : Hp} : ∀ l : List Str, DpAll K H (l.map V.str) (l.map PyData.str)
  | [] => .nil
  | n :: r => .cons (.str n) (dpS r)
theorem isE_app {α : Type} (l m : List α) : (l ++ m).isEmpty = (l.isEmpty && m.isEmpty) := by
  cases l <;> rfl
theorem filt_all {α : Type} (p : α → Bool) : ∀ l : List α, (l.filter fun c => !p c).isEmpty = l.all p
  | [] => rfl
  | c :: r => by
    rw [List.filter_cons, List.all_cons]
    cases h : p c with
    | true => rw [if_neg (by simp), filt_all p r, Bool.true_and]
    | false => rw [if_pos (by simp)]; rfl
theorem filt_any {α : Type} (p : α → Bool) : ∀ l : List α, (l.filter p).isEmpty = !l.any p
  | [] => rfl
  | c :: r => by
    rw [List.filter_cons, List.any_cons]
    cases h : p c with
    | true => rw [if_pos rfl]; rfl
    | false => rw [if_neg (by simp), filt_any p r, Bool.false_or]
theorem strOk_of {z : Str} (h : ∀ c ∈ z.cps.toList, c < 1114112) : PyData.strOk z = true := by
  unfold PyData.strOk
  rw [← Array.all_toList, List.all_eq_true]
  exact fun c hc => decide_eq_true (h c hc)
/-! ### data alike -/
def tyB : PyData → String
  | .none => "NoneType"
  | .bool _ => "bool"
  | .int _ => "int"
  | .str _ => "str"
  | .list _ => "list"
  | .tuple _ => "tuple"
  | .dict _ => "dict"
theorem Dn.ty {K : PySem.W.Frag} {S : Addr → Prop} {H : Hp} {v : V} {d : PyData} (h : Dn S H v d) : TyX K H v (.type (tyB d)) := by
  cases h with
  | non => exact .base .non
  | bl b => exact .base (.bl b)
  | int i => exact .base (.int i)
  | str x => exact .base (.str x)
  | lst _ e _ => exact .base (.lst e)
  | tup _ e _ => exact .base (.tup e)
theorem isi_r {K : PySem.W.Frag} {S : Addr → Prop} {H : Hp} {v : V} {d : PyData} {n : String} {b : Bool} {Q : VK} (h : Dn S H v d) (hk : kitB (tyB d) n = some b) (q : Q (.bl b) H) : rIsi K [v, .ty n] H Q :=
  ⟨v, .ty n, _, _, b, rfl, .ty n, h.ty, kit_ty hk, q⟩
theorem weight_len : ∀ ds : List PyData, ds.length ≤ PyData.weightAll ds
  | [] => Nat.zero_le _
  | d :: r => by
    have ih := weight_len r
    simp only [PyData.weightAll, List.length_cons]
    omega
theorem weight_at : ∀ {ds : List PyData} {i : Nat} {d : PyData}, ds[i]? = some d → PyData.weight d ≤ PyData.weightAll ds ∧ PyData.depth d ≤ PyData.depthAll ds
  | [], _, _, h => by simp at h
  | x :: r, 0, d, h => by
    simp at h
    subst h
    simp only [PyData.weightAll, PyData.depthAll]
    exact ⟨by omega, by omega⟩
  | x :: r, i + 1, d, h => by
    obtain ⟨h1, h2⟩ := weight_at (ds := r) (i := i) (d := d) (by simpa using h)
    simp only [PyData.weightAll, PyData.depthAll]
    exact ⟨by omega, by omega⟩
/-- _law_alike(found, due), of the same -/
def spAlike (n : Nat) : Sp := fun vs H Q _ => ∃ (v u : V) (d : PyData), vs = [v, u] ∧ Dn N0 H v d ∧ Dn N0 H u d ∧ PyData.depth d < n ∧ PyData.weight d ≤ 1000000 ∧ ∀ H', Kp N0 H H' → Q (.bl true) H'
mutual
theorem eqv_refl : ∀ d : PyData, PyData.canLay0 d = true → PyData.eqv d d = true
  | .none, _ => by simp [PyData.eqv]
  | .bool _, _ => by simp [PyData.eqv]
  | .int _, _ => by simp [PyData.eqv]
  | .str _, _ => by simp [PyData.eqv]
  | .list xs, h => by
    simp only [PyData.canLay0] at h
    simp only [PyData.eqv]
    exact eqvAll_refl xs h
  | .tuple xs, h => by
    simp only [PyData.canLay0] at h
    simp only [PyData.eqv]
    exact eqvAll_refl xs h
  | .dict _, h => by simp [PyData.canLay0] at h
theorem eqvAll_refl : ∀ ds : List PyData, PyData.canLayAll0 ds = true → PyData.eqvAll ds ds = true
  | [], _ => by simp [PyData.eqvAll]
  | d :: r, h => by
    simp only [PyData.canLayAll0, Bool.and_eq_true] at h
    simp only [PyData.eqvAll, Bool.and_eq_true]
    exact ⟨eqv_refl d h.1, eqvAll_refl r h.2⟩
end
theorem weightS : ∀ l : List Str, (∀ z ∈ l, z.cps.size ≤ 1000) → PyData.weightAll (l.map PyData.str) ≤ 1001 * l.length
  | [], _ => by simp [PyData.weightAll]
  | z :: r, h => by
    have ih := weightS r fun y hy => h y (List.mem_cons_of_mem _ hy)
    have hz := h z List.mem_cons_self
    simp only [List.map_cons, PyData.weightAll, PyData.weight, List.length_cons]
    omega
/-- _law_take(box, many) -/
def spTake : Sp := fun vs H Q _ => ∃ (b l : Addr) (many : Int), vs = [.ref b, .int many] ∧ Box H b l ∧ 0 < many ∧ many < 1000000 ∧ ∀ r H', 0 ≤ r → r < many → Box H' b l → Kp (sB b l) H H' → Q (.int r) H'
/-- _law_begun(script): a new box -/
def spBegun (K : PySem.W.Frag) : Sp := fun vs H Q _ => ∃ (a : Addr) (ns : List Int), vs = [.ref a] ∧ SqL K H a (ns.map V.int) ∧ ns.length ≤ 63 ∧ ∀ b l H', H b = none → H l = none → Box H' b l → Kp N0 H H' → Q (.ref b) H'
/-- _law_marks(box, letters, often): some of the letters -/
def spMarks : Sp := fun vs H Q _ => ∃ (b l : Addr) (z : Str) (often : Int), vs = [.ref b, .str z, .int often] ∧ z.cps.toList.length ≤ 100 ∧ Box H b l ∧ 0 < often ∧ often < 1000000 ∧ ∀ (m : List Nat) H', m.Sublist z.cps.toList → Box H' b l → Kp (sB b l) H H' → Q (.str (oS m)) H'
end Fc
set_option maxHeartbeats 4000000
/-! What the program reckons, what its defs promise. -/
namespace Fc
open PySem PySem.Spec PyProof.Rows L2
abbrev Row := Str × Str × Str
def rowD (r : Row) : PyData := .tuple [.str r.1, .str r.2.1, .str r.2.2]
def ruleD (rs : List Row) : PyData := .list (rs.map rowD)
def holdsM (r : Row) (m : Str) : Bool := r.2.1.cps.toList.all (sg m) && !r.2.2.cps.toList.any (sg m)
def heldM (rs : List Row) (m : Str) : List Str := (rs.filter fun r => holdsM r m).map (·.1)
def turnM (rs : List Row) (m : Str) : List Str := if (heldM rs m).isEmpty = true then ["rest"] else heldM rs m
theorem heldM_len (rs : List Row) (m : Str) : (heldM rs m).length ≤ rs.length := by
  unfold heldM
  rw [List.length_map]
  exact List.length_filter_le _ _
theorem turnM_len (rs : List Row) (m : Str) : (turnM rs m).length ≤ rs.length + 1 := by
  have h := heldM_len rs m
  unfold turnM
  split
  · show 1 ≤ _
    omega
  · omega
theorem turnM_ne (rs : List Row) (m : Str) : turnM rs m ≠ [] := by
  unfold turnM
  split
  · exact List.cons_ne_nil _ _
  · rename_i c
    intro z
    rw [z] at c
    exact c rfl
def mainM (rs : List Row) (m : Str) : Str := (turnM rs m).headD "rest"
def headsM (rs : List Row) (m : Str) : List Str := riseS (turnM rs m)
theorem turnM_0 (rs : List Row) (m : Str) : (turnM rs m)[0]? = some (mainM rs m) := by
  unfold mainM
  cases h : turnM rs m with
  | nil => exact (turnM_ne rs m h).elim
  | cons a r => rfl
def abc : Str := "abcdefghijklmnopqrstuvwxyz"
def a2h : Str := "abcdefgh"
def isWordM (t : Str) : Bool := decide ((1 : Int) ≤ (t.length : Nat)) && (decide ((t.length : Int) ≤ 6) && t.cps.toList.all (sg abc))
def isMarksM (t : Str) : Bool := decide (t = oS (a2h.cps.toList.filter (sg t)))
def isRowM (r : Row) : Bool := (isWordM r.1 && !decide (r.1 = "rest")) && ((isMarksM r.2.1 && isMarksM r.2.2) && !r.2.1.cps.toList.any (sg r.2.2))
/-- a rule that can be -/
structure GoodR (rs : List Row) : Prop where
  few : rs.length ≤ 12
  row : ∀ r ∈ rs, isRowM r = true
  heads : ∃ hs : List Str, hs.length ≤ 6 ∧ ∀ r ∈ rs, r.1 ∈ hs
theorem isMarksM_len {t : Str} (h : isMarksM t = true) : t.length ≤ 8 := by
  have e : t = oS (a2h.cps.toList.filter (sg t)) := of_decide_eq_true h
  have l : (a2h.cps.toList.filter (sg t)).length ≤ 8 := List.length_filter_le _ _
  have e2 : t.length = t.cps.toList.length := by simp [PySem.Str.length]
  have e3 : t.cps.toList = a2h.cps.toList.filter (sg t) := (congrArg (fun z : Str => z.cps.toList) e).trans (oS_cps _)
  rw [e2, e3]
  exact l
theorem isWordM_len {t : Str} (h : isWordM t = true) : t.length ≤ 6 := by
  unfold isWordM at h
  obtain ⟨_, h⟩ := Bool.and_eq_true_iff.mp h
  obtain ⟨h, _⟩ := Bool.and_eq_true_iff.mp h
  have q : (t.length : Int) ≤ 6 := of_decide_eq_true h
  omega
theorem isRowM_len {r : Row} (h : isRowM r = true) : r.1.length ≤ 6 ∧ r.2.1.length ≤ 8 ∧ r.2.2.length ≤ 8 := by
  unfold isRowM at h
  obtain ⟨h1, h2⟩ := Bool.and_eq_true_iff.mp h
  obtain ⟨h1, _⟩ := Bool.and_eq_true_iff.mp h1
  obtain ⟨h2, _⟩ := Bool.and_eq_true_iff.mp h2
  obtain ⟨h2, h3⟩ := Bool.and_eq_true_iff.mp h2
  exact ⟨isWordM_len h1, isMarksM_len h2, isMarksM_len h3⟩
theorem isMarksM_sub {t : Str} (h : isMarksM t = true) : ∀ c ∈ t.cps.toList, c ∈ a2h.cps.toList := fun c hc => by
  have e : t = oS (a2h.cps.toList.filter (sg t)) := of_decide_eq_true h
  have e3 : t.cps.toList = a2h.cps.toList.filter (sg t) := (congrArg (fun z : Str => z.cps.toList) e).trans (oS_cps _)
  rw [e3] at hc
  exact (List.mem_filter.mp hc).1
theorem isRowM_sg {r : Row} (h : isRowM r = true) : (∀ c ∈ r.2.1.cps.toList, c ∈ a2h.cps.toList) ∧ ∀ c ∈ r.2.2.cps.toList, c ∈ a2h.cps.toList := by
  unfold isRowM at h
  obtain ⟨h1, h2⟩ := Bool.and_eq_true_iff.mp h
  obtain ⟨h2, _⟩ := Bool.and_eq_true_iff.mp h2
  obtain ⟨h2, h3⟩ := Bool.and_eq_true_iff.mp h2
  exact ⟨isMarksM_sub h2, isMarksM_sub h3⟩
theorem abc_small : ∀ c ∈ abc.cps.toList, c < 128 := by decide
theorem isRowM_ok {r : Row} (h : isRowM r = true) : PyData.strOk r.1 = true := by
  unfold isRowM at h
  obtain ⟨h, _⟩ := Bool.and_eq_true_iff.mp h
  obtain ⟨h, _⟩ := Bool.and_eq_true_iff.mp h
  unfold isWordM at h
  obtain ⟨_, h⟩ := Bool.and_eq_true_iff.mp h
  obtain ⟨_, h⟩ := Bool.and_eq_true_iff.mp h
  unfold PyData.strOk
  rw [← Array.all_toList, List.all_eq_true]
  intro c hc
  have q := List.all_eq_true.mp h c hc
  exact decide_eq_true (Nat.lt_trans (abc_small c (of_decide_eq_true q)) (by decide))
theorem a2h_small : ∀ c ∈ a2h.cps.toList, c < 128 := by decide
theorem isMarksM_ok {t : Str} (h : isMarksM t = true) : PyData.strOk t = true := by
  unfold PyData.strOk
  rw [← Array.all_toList, List.all_eq_true]
  exact fun c hc => decide_eq_true (Nat.lt_trans (a2h_small c (isMarksM_sub h c hc)) (by decide))
theorem isRowM_ok3 {r : Row} (h : isRowM r = true) : PyData.strOk r.1 = true ∧ PyData.strOk r.2.1 = true ∧ PyData.strOk r.2.2 = true := by
  refine ⟨isRowM_ok h, ?_⟩
  unfold isRowM at h
  obtain ⟨h1, h2⟩ := Bool.and_eq_true_iff.mp h
  obtain ⟨h2, _⟩ := Bool.and_eq_true_iff.mp h2
  obtain ⟨h2, h3⟩ := Bool.and_eq_true_iff.mp h2
  exact ⟨isMarksM_ok h2, isMarksM_ok h3⟩
theorem layR : ∀ rs : List Row, (∀ r ∈ rs, isRowM r = true) → PyData.canLayAll0 (rs.map rowD) = true ∧ PyData.depthAll (rs.map rowD) ≤ 1
  | [], _ => by simp [PyData.canLayAll0, PyData.depthAll]
  | r :: t, h => by
    obtain ⟨i1, i2⟩ := layR t fun x hx => h x (List.mem_cons_of_mem _ hx)
    obtain ⟨a, b, c⟩ := isRowM_ok3 (h r List.mem_cons_self)
    simp only [List.map_cons, PyData.canLayAll0, PyData.depthAll, rowD, PyData.canLay0, PyData.depth, a, b, c, i1, Bool.and_self, true_and]
    omega
theorem shapedR {rs : List Row} (h : GoodR rs) : SeqAt.shaped (ruleD rs) = true := by
  obtain ⟨a, b⟩ := layR rs h.row
  unfold SeqAt.shaped ruleD
  rw [Bool.and_eq_true]
  exact ⟨by simp only [PyData.canLay0]; exact a, decide_eq_true (by simp only [PyData.depth]; omega)⟩
theorem mainM_mem (rs : List Row) (m : Str) : mainM rs m ∈ turnM rs m := List.mem_of_getElem? (turnM_0 rs m)
theorem turnM_small {rs : List Row} (h : GoodR rs) (m : Str) : ∀ z ∈ turnM rs m, z.length ≤ 6 := fun z hz => by
  unfold turnM at hz
  split at hz
  · rw [List.mem_singleton.mp hz]
    decide
  · obtain ⟨r, hr, e⟩ := List.mem_map.mp hz
    rw [← e]
    exact (isRowM_len (h.row r (List.mem_filter.mp hr).1)).1
theorem insS_len (x : Str) : ∀ l : List Str, (insS x l).length ≤ l.length + 1
  | [] => Nat.le_refl _
  | y :: r => by
    have ih := insS_len x r
    unfold insS
    split
    · omega
    · split
      · simp
      · simp only [List.length_cons]
        omega
theorem riseS_len : ∀ l : List Str, (riseS l).length ≤ l.length
  | [] => Nat.le_refl _
  | x :: r => by
    have ih := riseS_len r
    have h := insS_len x (riseS r)
    show (insS x (riseS r)).length ≤ r.length + 1
    omega
theorem rowD_ex {S : Addr → Prop} {H : Hp} {v : V} {r : Row} (h : Dn S H v (rowD r)) : ∃ a, v = .ref a ∧ ¬ S a ∧ H a = some (.tup [.str r.1, .str r.2.1, .str r.2.2]) := by
  obtain ⟨a, xs, rfl, hs, e, h⟩ := h.tup_ex
  have q : xs = [.str r.1, .str r.2.1, .str r.2.2] := DnA.strs_eq (xs := [r.1, r.2.1, r.2.2]) h
  rw [q] at e
  exact ⟨a, rfl, hs, e⟩
/-- holds(row, marks) -/
def spHolds (T : List Addr) : Sp := fun vs H Q _ => ∃ (v : V) (r : Row) (m : Str), vs = [v, .str m] ∧ Dn N0 H v (rowD r) ∧ Tbs T H ∧ ∀ H', Kp N0 H H' → Q (.bl (holdsM r m)) H'
/-- heads_in_turn(rule, marks): a new list -/
def spTurn (T : List Addr) : Sp := fun vs H Q _ => ∃ (v : V) (rs : List Row) (m : Str), vs = [v, .str m] ∧ Dn N0 H v (ruleD rs) ∧ rs.length ≤ 100 ∧ Tbs T H ∧ ∀ p H', H p = none → Kp N0 H H' → H' p = some (.lst ((turnM rs m).map V.str)) → Q (.ref p) H'
/-- rising_heads(rule, marks) -/
def spRising (T : List Addr) : Sp := fun vs H Q _ => ∃ (v : V) (rs : List Row) (m : Str), vs = [v, .str m] ∧ Dn N0 H v (ruleD rs) ∧ rs.length ≤ 50 ∧ Tbs T H ∧ ∀ p H', H p = none → Kp N0 H H' → H' p = some (.lst ((headsM rs m).map V.str)) → Q (.ref p) H'
/-- main_head(rule, marks) -/
def spMain (T : List Addr) : Sp := fun vs H Q _ => ∃ (v : V) (rs : List Row) (m : Str), vs = [v, .str m] ∧ Dn N0 H v (ruleD rs) ∧ rs.length ≤ 50 ∧ Tbs T H ∧ ∀ H', Kp N0 H H' → Q (.str (mainM rs m)) H'
/-- is_word(text) -/
def spIsWord (T : List Addr) : Sp := fun vs H Q _ => ∃ t : Str, vs = [.str t] ∧ t.length ≤ 1000 ∧ Tbs T H ∧ ∀ H', Kp N0 H H' → Q (.bl (isWordM t)) H'
/-- is_marks(text) -/
def spIsMarks : Sp := fun vs H Q _ => ∃ t : Str, vs = [.str t] ∧ t.length ≤ 1000 ∧ ∀ H', Kp N0 H H' → Q (.bl (isMarksM t)) H'
/-- is_row(row) -/
def spIsRow (T : List Addr) : Sp := fun vs H Q _ => ∃ (v : V) (r : Row), vs = [v] ∧ Dn N0 H v (rowD r) ∧ r.1.length ≤ 1000 ∧ r.2.1.length ≤ 1000 ∧ r.2.2.length ≤ 1000 ∧ Tbs T H ∧ ∀ H', Kp N0 H H' → Q (.bl (isRowM r)) H'
/-- check_rule(rule), of a rule that can be -/
def spCheckRule (T : List Addr) : Sp := fun vs H Q _ => ∃ (v : V) (rs : List Row), vs = [v] ∧ Dn N0 H v (ruleD rs) ∧ GoodR rs ∧ Tbs T H ∧ ∀ H', Kp N0 H H' → Q .non H'
/-- check_marks(marks), of marks that are -/
def spCheckMarks : Sp := fun vs H Q _ => ∃ t : Str, vs = [.str t] ∧ isMarksM t = true ∧ ∀ H', Kp N0 H H' → Q .non H'
/-- heads_of(rule, marks) -/
def spHeadsOf (T : List Addr) : Sp := fun vs H Q _ => ∃ (v : V) (rs : List Row) (m : Str), vs = [v, .str m] ∧ Dn N0 H v (ruleD rs) ∧ GoodR rs ∧ isMarksM m = true ∧ Tbs T H ∧ ∀ p H', H p = none → Kp N0 H H' → H' p = some (.lst ((headsM rs m).map V.str)) → Q (.ref p) H'
/-- main_of(rule, marks) -/
def spMainOf (T : List Addr) : Sp := fun vs H Q _ => ∃ (v : V) (rs : List Row) (m : Str), vs = [v, .str m] ∧ Dn N0 H v (ruleD rs) ∧ GoodR rs ∧ isMarksM m = true ∧ Tbs T H ∧ ∀ H', Kp N0 H H' → Q (.str (mainM rs m)) H'
theorem sub_take {α : Type} {l out : List α} {i : Nat} {c : α} (h : out.Sublist (l.take i)) (hc : l[i]? = some c) : (out ++ [c]).Sublist (l.take (i + 1)) ∧ out.Sublist (l.take (i + 1)) := by
  have lt := (List.getElem?_eq_some_iff.mp hc).1
  have e : l.take (i + 1) = l.take i ++ [c] := by
    rw [← (List.getElem?_eq_some_iff.mp hc).2, List.take_append_getElem]
  rw [e]
  exact ⟨h.append (List.Sublist.refl _), h.trans (List.sublist_append_left _ _)⟩
/-- _law_rule(box, most): a new rule that can be -/
def spRuleL : Sp := fun vs H Q _ => ∃ (b l : Addr) (most : Int), vs = [.ref b, .int most] ∧ 0 ≤ most ∧ most ≤ 12 ∧ Box H b l ∧ ∀ (rs : List Row) p H', GoodR rs → (rs.length : Int) ≤ most → H p = none → Box H' b l → Kp (sB b l) H H' → Dn (sB b l) H' (.ref p) (ruleD rs) → Q (.ref p) H'
def hs1 : List Str := ["law", "la", "l", "bill", "b", "seal"]
def hs2 : List Str := ["s", "se", "rests", "r", "tax", "taxes"]
theorem hs_ok : ∀ h ∈ hs1 ++ hs2, isWordM h = true ∧ h ≠ "rest" := by decide +kernel
theorem row_ok {h : Str} {m1 m2 : List Nat} (hh : h ∈ hs1 ++ hs2) (s1 : m1.Sublist a2h.cps.toList) (s2 : m2.Sublist (a2h.cps.toList.filter fun c => !decide (c ∈ m1))) : isRowM (h, oS m1, oS m2) = true := by
  obtain ⟨w1, w2⟩ := hs_ok h hh
  have i1 : isMarksM (oS m1) = true := decide_eq_true (marks_of s1)
  have i2 : isMarksM (oS m2) = true := decide_eq_true (marks_of (s2.trans List.filter_sublist))
  have i3 : ((oS m1).cps.toList.any (sg (oS m2))) = false := by
    rw [oS_cps, List.any_eq_false]
    intro c hc z
    unfold sg at z
    rw [oS_cps] at z
    have q := List.mem_filter.mp (s2.subset (of_decide_eq_true z))
    simp [hc] at q
  unfold isRowM
  rw [w1, i1, i2, i3]
  simp [w2]
/-- _law_held(rule, marks) -/
def spHeldL : Sp := fun vs H Q _ => ∃ (v : V) (rs : List Row) (m : Str), vs = [v, .str m] ∧ Dn N0 H v (ruleD rs) ∧ GoodR rs ∧ ∀ p H', H p = none → Kp N0 H H' → H' p = some (.lst ((turnM rs m).map V.str)) → Q (.ref p) H'
/-- the law -/
def spLaw (K : PySem.W.Frag) (T : List Addr) : Sp := fun vs H Q _ => ∃ (a : Addr) (ns : List Int), vs = [.ref a] ∧ SqL K H a (ns.map V.int) ∧ ns.length ≤ 63 ∧ Tbs T H ∧ ∀ H', Q (.bl true) H'
end Fc
set_option maxHeartbeats 4000000
/-! Pairs of texts in order; a text in a set of texts; a dict of new lists. -/
namespace Fc
open PySem PySem.Spec PyProof.Rows L2
/-! ### a text in a set -/
section
variable {X : Cx}
def rInSS (w : World) : R2 := fun x y H Q => ∃ (k : Str) (a : Addr) (l : List Str), x = .str k ∧ y = .ref a ∧ H a = some (SetSO w a l) ∧ Q (.bl (decide (k ∈ l))) H
theorem op_inSS : OpR X (compareOp .In) (rInSS X.w) := by
  intro pins s σ H x y v u Q I rx ry h
  obtain ⟨k, a, l, rfl, rfl, ha, q⟩ := h
  obtain ⟨tk, rfl⟩ := rx
  cases ry
  exact wpAny_inSet_of (strKind_is X.prog X.w k tk) rfl (setSO_get I ha).setOf ⟨.bl (decide (k ∈ l)), H, I.tok _, rfl, q⟩
end
/-! ### pairs of texts, by the first, then by the second -/
abbrev P2 := Str × Str
def lexS (p q : P2) : Bool := if p.1 = q.1 then ltS p.2 q.2 else ltS p.1 q.1
theorem lexS_tri (p q : P2) : lexS p q = true ∨ p = q ∨ lexS q p = true := by
  obtain ⟨a, b⟩ := p
  obtain ⟨c, d⟩ := q
  unfold lexS
  by_cases e : a = c
  · subst e
    simp only [if_true]
    rcases ltS_tri b d with z | z | z
    · exact .inl z
    · exact .inr (.inl (by rw [z]))
    · exact .inr (.inr z)
  · rw [if_neg e, if_neg (show ¬ c = a from fun z => e z.symm)]
    rcases ltS_tri a c with z | z | z
    · exact .inl z
    · exact (e z).elim
    · exact .inr (.inr z)
theorem lexS_trans {p q r : P2} (h : lexS p q = true) (k : lexS q r = true) : lexS p r = true := by
  obtain ⟨a, b⟩ := p
  obtain ⟨c, d⟩ := q
  obtain ⟨e, f⟩ := r
  unfold lexS at h k ⊢
  dsimp only at h k ⊢
  by_cases e1 : a = c
  · subst e1
    rw [if_pos rfl] at h
    by_cases e2 : a = e
    · rw [if_pos e2] at k ⊢
      exact ltS_trans h k
    · rw [if_neg e2] at k ⊢
      exact k
  · rw [if_neg e1] at h
    by_cases e2 : c = e
    · subst e2
      rw [if_neg e1]
      exact h
    · rw [if_neg e2] at k
      have t := ltS_trans h k
      rw [if_neg fun z => by rw [z, ltS_irr] at t; cases t]
      exact t
theorem lexS_irr (p : P2) : lexS p p = false := by
  unfold lexS
  rw [if_pos rfl, ltS_irr]
theorem lexS_asym {p q : P2} (h : lexS p q = true) : lexS q p = false := by
  cases z : lexS q p with
  | false => rfl
  | true =>
    have t := lexS_trans h z
    rw [lexS_irr] at t
    cases t
theorem swo_lexS {α : Type} (k : α → P2) : SrtO.Swo fun v u => lexS (k v) (k u) := by
  refine ⟨fun x y h => lexS_asym h, fun x y z h1 h2 => ?_⟩
  show lexS (k z) (k x) = false
  cases c : lexS (k z) (k x) with
  | false => rfl
  | true =>
    have h1' : lexS (k y) (k x) = false := h1
    have h2' : lexS (k z) (k y) = false := h2
    rcases lexS_tri (k x) (k y) with q | q | q
    · have t := lexS_trans c q
      rw [t] at h2'
      cases h2'
    · rw [q] at c
      rw [c] at h2'
      cases h2'
    · rw [q] at h1'
      cases h1'
/-- v: a tuple of the two texts -/
def TwoS (h : Heap) (v : Value) (p : P2) : Prop := ∃ a o t u n, v = .ref a ∧ h.get? a = some o ∧ o.cls = .type "tuple" ∧ o.data = .seq #[.str p.1 t, .str p.2 u] n
theorem TwoS.over {h h' : Heap} {v : Value} {p : P2} (z : TwoS h v p) (k : ∀ b o, h.get? b = some o → o.cls = .type "tuple" → h'.get? b = some o) : TwoS h' v p := by
  obtain ⟨a, o, t, u, n, e, ho, hc, hd⟩ := z
  exact ⟨a, o, t, u, n, e, k _ _ ho hc, hc, hd⟩
section
variable {prog : Program} {w : World} {A : Around} {s : Shared}
theorem two_heads {h : Heap} (k : Value → P2) (vs : List Value) (hp : ∀ v ∈ vs, TwoS h v (k v)) : ∃ fs : List Value, PySem.W.KatTups h vs fs ∧ fs.length = vs.length ∧ ∀ f ∈ fs, ∃ x t, f = Value.str x t := by
  induction vs with
  | nil => exact ⟨[], PySem.W.KatTups.nil, rfl, fun _ hm => nomatch hm⟩
  | cons v vs ih =>
    obtain ⟨fs, h1, h2, h3⟩ := ih fun v' hm => hp v' (List.mem_cons_of_mem _ hm)
    obtain ⟨a, o, t, u, n, e, ho, hc, hd⟩ := hp v List.mem_cons_self
    rw [e]
    refine ⟨.str (k v).1 t :: fs, PySem.W.KatTups.cons ho hc hd rfl h1, congrArg (· + 1) h2, fun f hm => ?_⟩
    rcases List.mem_cons.mp hm with z | z
    · exact ⟨_, t, z⟩
    · exact h3 f z
theorem two_cmp {vs : List Value} {k : Value → P2} (hp : ∀ v ∈ vs, TwoS s.heap v (k v)) : SrtO.Cmp prog w A s (tuples' true) (fun p => p.1 ∈ vs) (SrtO.lt2 fun v u => lexS (k v) (k u)) := by
  intro p q hm hm'
  have h1 := hp _ hm
  have h2 := hp _ hm'
  show wpAny (model prog w) A (keyLt' (tuples' true) p.1 q.1) (fun r s' => s' = s ∧ r = lexS (k p.1) (k q.1)) (fun _ _ => False) s
  generalize k p.1 = x at h1 ⊢
  generalize k q.1 = y at h2 ⊢
  obtain ⟨x1, x2⟩ := x
  obtain ⟨y1, y2⟩ := y
  obtain ⟨a, o, t, u, n, e, ho, hc, hd⟩ := h1
  obtain ⟨b, r, i, j, m, e', ho', hc', hd'⟩ := h2
  rw [e, e']
  refine PySem.W.kat_lt ho hd ho' hd' (PySem.W.kat_cons (SeqAt.EqAt.str_str x1 t y1 i prog w _ _ (PySem.W.kat_go (fun e1 => ?_) (fun e1 => ?_))))
  · have ex : x1 = y1 := by simpa using e1
    refine PySem.W.kat_yes (PySem.W.kat_cons (SeqAt.EqAt.str_str x2 u y2 j prog w _ _ (PySem.W.kat_go (fun e2 => ?_) (fun e2 => ?_))))
    · have ey : x2 = y2 := by simpa using e2
      refine PySem.W.kat_yes (PySem.W.kat_nil ⟨rfl, ?_⟩)
      rw [ex, ey]
      exact (lexS_irr _).symm
    · refine PySem.W.kat_no (PySem.W.kat_one _ _ (PyProof.Rows.lt_str ?_))
      refine ⟨rfl, ?_⟩
      unfold lexS ltS
      rw [if_pos ex]
  · have ex : ¬ x1 = y1 := by simpa using e1
    refine PySem.W.kat_no (oneLt_str ⟨rfl, ?_⟩)
    unfold lexS ltS
    rw [if_neg ex]
theorem two_sortable {a : Addr} {vs : List Value} {k : Value → P2} (h0 : 0 < vs.length) (hp : ∀ v ∈ vs, TwoS s.heap v (k v)) (ha : ∀ o, s.heap.get? a = some o → o.cls ≠ .type "tuple") : SrtO.SortableO prog w A s a vs fun v u => lexS (k v) (k u) := by
  intro h' keep
  have hp' : ∀ v ∈ vs, TwoS h' v (k v) := fun v hm => (hp v hm).over fun b o e c => keep b o (fun z => ha o (by rw [← z]; exact e) c) e
  obtain ⟨fs, h1, h2, h3⟩ := two_heads k vs hp'
  refine ⟨tuples' true, fun Q E hq => PySem.W.kat_kind (T := .type "str") h1 (by omega) (fun f hm => ?_) (by rfl) ?_, two_cmp hp'⟩
  · obtain ⟨x, t, rfl⟩ := h3 f hm
    exact PySem.W.Looks.now
  · have e : (Value.type "str" != Value.type "tuple") = true := by first | decide +kernel | rfl | decide
    rw [e]
    exact hq
end
section
variable {X : Cx}
/-- sorted(list of pairs of texts), k tells which -/
def rSortPP (K : PySem.W.Frag) : List V → Hp → VK → Prop := fun vs H Q => ∃ (a : Addr) (xs : List V) (k : V → P2), vs = [.ref a] ∧ SqL K H a xs ∧ (∀ x ∈ xs, ∃ t, x = V.ref t ∧ H t = some (.tup [.str (k x).1, .str (k x).2])) ∧
  ∀ ys p, SrtO.Srtd (fun v u => lexS (k v) (k u)) ys → ys.Perm xs → H p = none → Q (.ref p) (upd H p (.lst ys))
theorem cr_sortPP : CallR X (.builtin "sorted") (rSortPP X.K) := by
  intro pins s σ H vs us Q I r h
  obtain ⟨a, xs, k, rfl, hs, hx, q⟩ := h
  obtain ⟨its, rv, hl, hz⟩ := I.list hs
  rw [Vals.ref1 r]
  obtain ⟨e1, e2⟩ := refs_back rv fun x m => Exists.imp (fun _ z => z.1) (hx x m)
  have old : ∀ v ∈ its, TwoS s.heap v (k (backV v)) := fun v hv => by
    obtain ⟨t, rfl⟩ := e2 v hv
    have hm : V.ref t ∈ xs := by
      rw [e1]
      exact List.mem_map.mpr ⟨_, hv, rfl⟩
    obtain ⟨t', e, ht⟩ := hx _ hm
    cases e
    obtain ⟨_, its2, r2, o, ho, hc, n, hd⟩ := I.hok _ _ ht
    obtain ⟨u1, u2, rfl, ri, rj⟩ := vals2 r2
    obtain ⟨t1, rfl⟩ := ri
    obtain ⟨t2, rfl⟩ := rj
    exact ⟨t, o, t1, t2, n, rfl, ho, hc, hd⟩
  refine SrtO.sorted_ord (swo_lexS fun u => k (backV u)) hl.isList (by rw [← rv.length]; exact hz) (fun h2 h₁ b hb kk => ?_) fun out hs hb => ?_
  · refine two_sortable (s := { s with heap := h₁ }) (k := fun u => k (backV u)) (by omega) (fun v hm => (old v hm).over fun c o e _ => (kk c o e).2) fun o e c => ?_
    have e' := e.symm.trans hb
    cases e'
    exact absurd (Value.type.inj c) (by decide)
  · have h3 : ∀ u ∈ out, ∃ a, u = Value.ref a := fun u hu => e2 u (hb.perm.mem_iff.mp hu)
    obtain ⟨n, hn⟩ := sortedAll_at s.heap its out.toArray
    have pm : (out.map backV).Perm xs := by
      rw [e1]
      exact hb.perm.map backV
    refine ⟨.ref _, upd H (s.heap.objs.size + 1) (.lst (out.map backV)), I.laid (t' := s.toks) (fun _ _ => sortedAll_old) (Nat.le_succ _) ⟨?_, out, n, vals_back h3, hn⟩, rfl, q _ _ (SrtO.srtd_map hs) pm (I.hok.fresh (Nat.le_succ _))⟩
    rw [pm.length_eq]
    exact hz
end
/-- the first items of what is sorted, each once: they rise -/
theorem rs_of_lex {α : Type} (k : α → P2) : ∀ {ys : List α}, SrtO.Srtd (fun v u => lexS (k v) (k u)) ys → (ys.map fun y => (k y).1).Nodup → Rs (ys.map fun y => (k y).1)
  | [], _, _ => List.Pairwise.nil
  | y :: r, h, nd => by
    obtain ⟨h1, h2⟩ := List.pairwise_cons.mp h
    obtain ⟨n1, n2⟩ := List.nodup_cons.mp nd
    refine List.pairwise_cons.mpr ⟨fun z hz => ?_, rs_of_lex k h2 n2⟩
    obtain ⟨u, hu, e⟩ := List.mem_map.mp hz
    have q : lexS (k u) (k y) = false := h1 u hu
    have ne : ¬ (k u).1 = (k y).1 := fun c => n1 (List.mem_map.mpr ⟨u, hu, c⟩)
    unfold lexS at q
    rw [if_neg ne] at q
    rw [← e]
    rcases ltS_tri (k y).1 (k u).1 with c | c | c
    · exact c
    · exact (ne c.symm).elim
    · rw [c] at q
      cases q
theorem Rs.filter {l : List Str} (p : Str → Bool) (h : Rs l) : Rs (l.filter p) := List.Pairwise.filter p h
/-! ### a name set to a dict comprehension -/
theorem sw_dc {kx vx : Expr} {gs : List Comprehension} {sc : Scope} {pos py : Pos} {y : Str} {l : Nat} {env : Env} (k : env.scope.kind = .function) (n : env.scope.names.lookup y = some .local) (j : (py.line == pos.line) = true) (a : (sc.names.any fun (x, z) => x == y && (z == .local || z == .cell)) = false) :
    swapsWith (.DictComp kx vx gs sc pos) (some (.Name y py)) l env = pure true := by
  have h1 : env.kindOf y = some .local := n
  have h2 : env.blockKind = .function := by
    unfold Env.blockKind
    rw [k]
    rfl
  unfold swapsWith
  simp only [h1, h2, a, j, Expr.pos]
  rfl
section
variable {X : Cx}
theorem ps_setDc {i : Nat} {y : Str} {py : Pos} {kx vx tg iter : Expr} {ifs : List Expr} {scope : Scope} {own : List (Str × Nat)} {pos spos : Pos} {wi : TI} {g : TG} {tt : TT} {tk tv : TE}
    (hc : X.calm = true) (hN : X.N.Nodup) (hy : X.N[i]? = some y) (hyl : X.env.scope.names.lookup y = some .local) (hw : swapsWith (.DictComp kx vx [⟨tg, iter, ifs, 0⟩] scope pos) (some (.Name y py)) spos.line X.env = pure true)
    (hi : PI X tg iter wi) (ok : BlkOk X.N X.env.scope scope own) (hg : ∀ (s : Shared) (H : Hp) (C : Addr) (cl : List (Str × Addr)) (fp : List Addr), PG (X.blk s H scope (compEnvC scope cl C X.env) fp) tg g)
    (ht : ∀ (s : Shared) (H : Hp) (C : Addr) (cl : List (Str × Addr)) (fp : List Addr), PTs (X.blk s H scope (compEnvC scope cl C X.env) fp) ifs tt) (hk : ∀ (s : Shared) (H : Hp) (C : Addr) (cl : List (Str × Addr)) (fp : List Addr), PE (X.blk s H scope (compEnvC scope cl C X.env) fp) kx tk)
    (hv : ∀ (s : Shared) (H : Hp) (C : Addr) (cl : List (Str × Addr)) (fp : List Addr), PE (X.blk s H scope (compEnvC scope cl C X.env) fp) vx tv) (hs : ∀ x, foldedSetIterable iter X.env x = pure x := by intro _; rfl) :
    PS X (.Assign [.Name y py] (.DictComp kx vx [⟨tg, iter, ifs, 0⟩] scope pos) spos) (tAsg (tDc wi g tt tk tv (own.map (·.2))) (gName i)) := by
  refine ⟨fun pins s σ H D I h => ?_⟩
  have h2 : tDc wi g tt tk tv (own.map (·.2)) σ H fun x H1 => gName i x σ H1 D.nx := h
  rw [exec_Assign_Name_used _ _ _ _ hw]
  refine wpAny_bind (wpAny_standAt (wpAny_bind ?_))
  show wpAny _ X.A (do let _ ← comprehension (.DictComp kx vx [⟨tg, iter, ifs, 0⟩] scope pos) scope X.env (firstIterPos [⟨tg, iter, ifs, 0⟩] pos) newDict false (eval iter X.env) (some (assign (.Name y py) X.env))) _ _ s
  refine wpAny_bind (thn (dc_core (Qf := fun _ s1 => SP X pins D .next s1) hc hN I hi ok hg ht hk hv hs h2 fun L C s1 m H1 J q hn f => ?_) fun _ s1 z => wpAny_pure (wpAny_pure z))
  show wpAny _ _ (assign (.Name y py) X.env (.ref L)) _ _ _
  obtain ⟨f0, f1, f2, f3, f4, f5⟩ := f
  refine wpAny_assign_Name (store_ok2 (v := V.ref L) J hN hy (.inl hyl) rfl (fun s2 J2 ⟨a, sb, ha⟩ => ?_) (.inr hyl))
  have ne : C ≠ a := ha.elim (fun z => by rw [z]; exact f1) fun z e => f4 y a z e.symm
  refine ⟨m, hn.sameBut sb ne, fun h3 sb3 => ⟨_, H1, ?_, q⟩⟩
  exact J2.turned (t' := s2.toks) (fun b o hb e => (sb3.2 b hb).trans e) f0 f1 f3 f4 f5
end
end Fc
set_option maxHeartbeats 4000000
/-! Papers; drawers. -/
namespace Fc
open PySem PySem.Spec PyProof.Rows L2
def paperD (p : P2) : PyData := .tuple [.str p.1, .str p.2]
def papersD (ps : List P2) : PyData := .list (ps.map paperD)
/-- papers that can be -/
structure GoodP (ps : List P2) : Prop where
  few : ps.length ≤ 12
  ok : ∀ p ∈ ps, isWordM p.1 = true ∧ isMarksM p.2 = true
  nd : (ps.map (·.1)).Nodup
theorem paperD_ex {S : Addr → Prop} {H : Hp} {v : V} {p : P2} (h : Dn S H v (paperD p)) : ∃ a, v = .ref a ∧ ¬ S a ∧ H a = some (.tup [.str p.1, .str p.2]) := by
  obtain ⟨a, xs, rfl, hs, e, h⟩ := h.tup_ex
  have q : xs = [.str p.1, .str p.2] := DnA.strs_eq (xs := [p.1, p.2]) h
  rw [q] at e
  exact ⟨a, rfl, hs, e⟩
def ruleHeadsM (rs : List Row) : List Str := riseS (rs.map (·.1) ++ (["rest"] : List Str))
def inDrawer (rs : List Row) (ps : List P2) (h : Str) : List Str := riseS ((ps.filter fun p => decide (mainM rs p.2 = h)).map (·.1))
def drawD (hs : List Str) (f : Str → List Str) : PyData := .list (hs.map fun h => .tuple [.str h, .list ((f h).map PyData.str)])
def rightD (rs : List Row) (ps : List P2) : PyData := drawD (ruleHeadsM rs) (inDrawer rs ps)
theorem main_in (rs : List Row) (m : Str) : mainM rs m ∈ ruleHeadsM rs := by
  refine (riseS_mem _ _).mpr ?_
  have h := mainM_mem rs m
  unfold turnM at h
  split at h
  · exact List.mem_append_right _ h
  · obtain ⟨r, hr, e⟩ := List.mem_map.mp h
    exact List.mem_append_left _ (List.mem_map.mpr ⟨r, (List.mem_filter.mp hr).1, e⟩)
theorem ruleHeads_len (rs : List Row) : (ruleHeadsM rs).length ≤ rs.length + 1 := by
  have h := riseS_len (rs.map (·.1) ++ (["rest"] : List Str))
  rw [List.length_append, List.length_map] at h
  exact h
theorem inDrawer_len (rs : List Row) (ps : List P2) (h : Str) : (inDrawer rs ps h).length ≤ ps.length := by
  refine Nat.le_trans (riseS_len _) ?_
  rw [List.length_map]
  exact List.length_filter_le _ _
theorem ruleHeads_small {rs : List Row} (g : GoodR rs) : ∀ h ∈ ruleHeadsM rs, h.length ≤ 6 := fun h hh => by
  rcases List.mem_append.mp ((riseS_mem _ _).mp hh) with z | z
  · obtain ⟨r, hr, e⟩ := List.mem_map.mp z
    rw [← e]
    exact (isRowM_len (g.row r hr)).1
  · rw [List.mem_singleton.mp z]
    decide
theorem inDrawer_small {rs : List Row} {ps : List P2} (g : GoodP ps) (h : Str) : ∀ z ∈ inDrawer rs ps h, z.length ≤ 6 := fun z hz => by
  obtain ⟨p, hp, e⟩ := List.mem_map.mp ((riseS_mem _ _).mp hz)
  rw [← e]
  exact isWordM_len (g.ok p (List.mem_filter.mp hp).1).1
/-! what the promises say -/
def spCheckPapers (T : List Addr) : Sp := fun vs H Q _ => ∃ (v : V) (ps : List P2), vs = [v] ∧ Dn N0 H v (papersD ps) ∧ GoodP ps ∧ Tbs T H ∧ ∀ H', Kp N0 H H' → Q .non H'
def spRuleHeads : Sp := fun vs H Q _ => ∃ (v : V) (rs : List Row), vs = [v] ∧ Dn N0 H v (ruleD rs) ∧ rs.length ≤ 50 ∧ ∀ p H', H p = none → Kp N0 H H' → H' p = some (.lst ((ruleHeadsM rs).map V.str)) → Q (.ref p) H'
/-- at p a new list of new pairs: a head, a new list -/
def Told (H0 H' : Hp) (p : Addr) (hs : List Str) (f : Str → List Str) : Prop := ∃ ts as : List Addr, ts.length = hs.length ∧ as.length = hs.length ∧ H0 p = none ∧ (∀ a ∈ as, H0 a = none) ∧ p ∉ as ∧ H' p = some (.lst (ts.map V.ref)) ∧
  ∀ (j : Nat) (t a : Addr) (h : Str), ts[j]? = some t → as[j]? = some a → hs[j]? = some h → H' t = some (.tup [.str h, .ref a]) ∧ H' a = some (.lst ((f h).map V.str))
theorem Told.dn {H0 H' : Hp} {p : Addr} {hs : List Str} {f : Str → List Str} (k : Told H0 H' p hs f) : Dn N0 H' (.ref p) (drawD hs f) := by
  obtain ⟨ts, as, l1, l2, x1, x2, x3, hp, k⟩ := k
  refine .lst nn hp ?_
  clear hp x1 x2 x3
  induction hs generalizing ts as with
  | nil =>
    cases ts with
    | nil => exact .nil
    | cons t r => cases l1
  | cons h hs ih =>
    cases ts with
    | nil => cases l1
    | cons t ts =>
      cases as with
      | nil => cases l2
      | cons a as =>
        obtain ⟨h1, h2⟩ := k 0 t a h rfl rfl rfl
        refine .cons (.tup nn h1 (.cons (.str h) (.cons (.lst nn h2 (DnA.strs _)) .nil))) ?_
        exact ih ts as (Nat.succ.inj l1) (Nat.succ.inj l2) fun j t a h e1 e2 e3 => k (j + 1) t a h (by simpa using e1) (by simpa using e2) (by simpa using e3)
def spRight (T : List Addr) : Sp := fun vs H Q _ => ∃ (v u : V) (rs : List Row) (ps : List P2), vs = [v, u] ∧ Dn N0 H v (ruleD rs) ∧ Dn N0 H u (papersD ps) ∧ GoodR rs ∧ GoodP ps ∧ Tbs T H ∧ ∀ p H', Kp N0 H H' → Told H H' p (ruleHeadsM rs) (inDrawer rs ps) → Q (.ref p) H'
/-! ### a dict comprehension's loop -/
theorem dc_it {J : It} {n : Nat} {G : Hp → Prop} {Y : Nat → Hp → V → Hp → Prop} (w : Walk J n G Y) {g : TG} {tt : TT} {tk tv : TE} {vs : List Nat} {σ : L2.St} {H1 : Hp} {D : Addr} {Qd : Hp → Prop} (Pv : Nat → Hp → Prop) (h0 : Pv 0 (upd H1 D (.dK []))) (hG : ∀ i H, i ≤ n → Pv i H → G H)
    (hs : ∀ i x H H', i < n → Pv i H → Y i H x H' → g x (wipe σ vs) H' fun σ2 H2 => wipe σ2 vs = wipe σ vs ∧ tt σ2 H2 fun b H3 =>
      if b = true then tk σ2 H3 fun y H4 => tv σ2 H4 fun z H5 => ∃ kvs k, y = kV k ∧ H5 D = some (.dK kvs) ∧ kvs.length < sizeLine ∧ Pv (i + 1) (upd H5 D (.dK (putK kvs k z))) else Pv (i + 1) H3) (hd : ∀ H, Pv n H → Qd H) :
    ∃ W : Nat → Nat → Hp → Prop, (∃ m, W 0 m (upd H1 D (.dK []))) ∧ ∀ i m H, W i m H →
      (J.stop i H ∧ Qd H) ∨ (J.go i H ∧ ∃ Nx : Hp → Prop, (∀ H', Nx H' → ∃ m', m' < m ∧ W (i + 1) m' H') ∧ ∀ x H', J.yld i H x H' → g x (wipe σ vs) H' fun σ2 H2 => wipe σ2 vs = wipe σ vs ∧ tt σ2 H2 fun b H3 =>
        if b = true then tk σ2 H3 fun y H4 => tv σ2 H4 fun z H5 => ∃ kvs k, y = kV k ∧ H5 D = some (.dK kvs) ∧ kvs.length < sizeLine ∧ Nx (upd H5 D (.dK (putK kvs k z))) else Nx H3) := by
  refine ⟨fun i m H => m = n - i ∧ i ≤ n ∧ Pv i H, ⟨n, rfl, Nat.zero_le _, h0⟩, ?_⟩
  intro i m H z
  obtain ⟨e, hi, p⟩ := z
  subst e
  have q := hG i H hi p
  rcases Nat.lt_or_ge i n with lt | ge
  · exact .inr ⟨w.goes i H lt q, Pv (i + 1), fun H' p' => ⟨n - (i + 1), by omega, rfl, lt, p'⟩, fun x H' y => hs i x H H' lt p (w.yields i H x H' lt q y)⟩
  · have e : i = n := by omega
    subst e
    exact .inl ⟨w.stops H q, hd H p⟩
/-! ### a dict of heads -/
def dkv (hs : List Str) (as : List Addr) : List (Key × V) := (hs.zip as).map fun p => (.inr p.1, .ref p.2)
theorem dkv_none : ∀ (hs : List Str) (as : List Addr) (h : Str), h ∉ hs → valV (dkv hs as) (.inr h) = none
  | [], _, _, _ => by cases ‹List Addr› <;> rfl
  | _ :: _, [], _, _ => rfl
  | x :: hs, a :: as, h, n => by
    have ne : ¬ ((.inr x : Key), V.ref a).1 = .inr h := fun e => n (by cases e; exact List.mem_cons_self)
    exact (valV_neg (r := dkv hs as) ne).trans (dkv_none hs as h fun z => n (List.mem_cons_of_mem _ z))
theorem dkv_at : ∀ (hs : List Str) (as : List Addr) (j : Nat) (h : Str) (a : Addr), hs.Nodup → hs[j]? = some h → as[j]? = some a → valV (dkv hs as) (.inr h) = some (.ref a)
  | [], _, _, _, _, _, e, _ => by simp at e
  | _ :: _, [], _, _, _, _, _, e => by simp at e
  | x :: hs, b :: as, 0, h, a, _, e1, e2 => by
    simp at e1 e2
    subst e1
    subst e2
    exact valV_pos (p := ((.inr x : Key), V.ref b)) (r := dkv hs as) rfl
  | x :: hs, b :: as, j + 1, h, a, nd, e1, e2 => by
    obtain ⟨n1, n2⟩ := List.nodup_cons.mp nd
    have e1' : hs[j]? = some h := by simpa using e1
    have ne : ¬ ((.inr x : Key), V.ref b).1 = .inr h := fun e => n1 (by cases e; exact List.mem_of_getElem? e1')
    exact (valV_neg (r := dkv hs as) ne).trans (dkv_at hs as j h a n2 e1' (by simpa using e2))
theorem dkv_snoc {hs : List Str} {as : List Addr} (l : hs.length = as.length) (h : Str) (a : Addr) : dkv (hs ++ [h]) (as ++ [a]) = dkv hs as ++ [(.inr h, .ref a)] := by
  unfold dkv
  rw [List.zip_append l, List.map_append]
  rfl
theorem dkv_len (hs : List Str) (as : List Addr) : (dkv hs as).length ≤ hs.length := by
  unfold dkv
  rw [List.length_map, List.length_zip]
  exact Nat.min_le_left _ _
theorem Rs.nd {l : List Str} (h : Rs l) : l.Nodup := h.nodup
/-- the i-th, put down among those of its drawer -/
theorem filt_take {α : Type} {l : List α} {i : Nat} {x : α} (f : α → Bool) (g : α → Str) (h : l[i]? = some x) : ((l.take (i + 1)).filter f).map g = ((l.take i).filter f).map g ++ (if f x = true then [g x] else []) := by
  have e : l.take (i + 1) = l.take i ++ [x] := by rw [← (List.getElem?_eq_some_iff.mp h).2, List.take_append_getElem]
  rw [e, List.filter_append, List.map_append]
  congr 1
  rw [List.filter_cons]
  split <;> rfl
theorem dkv_get : ∀ (hs : List Str) (as : List Addr) (j : Nat) (h : Str) (a : Addr), hs[j]? = some h → as[j]? = some a → (dkv hs as)[j]? = some (.inr h, .ref a)
  | [], _, _, _, _, e, _ => by simp at e
  | _ :: _, [], _, _, _, _, e => by simp at e
  | x :: hs, b :: as, 0, h, a, e1, e2 => by
    simp at e1 e2
    subst e1
    subst e2
    rfl
  | x :: hs, b :: as, j + 1, h, a, e1, e2 => dkv_get hs as j h a (by simpa using e1) (by simpa using e2)
theorem dkv_leng {hs : List Str} {as : List Addr} (l : as.length = hs.length) : (dkv hs as).length = hs.length := by
  unfold dkv
  rw [List.length_map, List.length_zip, l, Nat.min_self]
/-- which pair a value is -/
def keyP (H : Hp) : V → P2
  | .ref t => match H t with
    | some (.tup [.str x, .str y]) => (x, y)
    | _ => ("", "")
  | _ => ("", "")
theorem keyP_at {H : Hp} {t : Addr} {x y : Str} (h : H t = some (.tup [.str x, .str y])) : keyP H (.ref t) = (x, y) := by
  unfold keyP
  simp only [h]
theorem keyP_all {S : Addr → Prop} {H : Hp} : ∀ {xs : List V} {ps : List P2}, DnA S H xs (ps.map paperD) → xs.map (keyP H) = ps ∧ ∀ x ∈ xs, ∃ t, x = V.ref t ∧ H t = some (.tup [.str (keyP H x).1, .str (keyP H x).2])
  | _, [], h => by
    cases h
    exact ⟨rfl, fun x z => nomatch z⟩
  | _, p :: ps, h => by
    cases h with
    | cons h t =>
      obtain ⟨i1, i2⟩ := keyP_all t
      obtain ⟨a, rfl, _, ha⟩ := paperD_ex h
      have e := keyP_at ha
      refine ⟨by rw [List.map_cons, i1, e], fun x hx => ?_⟩
      rcases List.mem_cons.mp hx with z | z
      · exact ⟨a, z, by rw [z, e]; exact ha⟩
      · exact i2 x z
/-- what stands in a drawer behind all pairs, in order -/
theorem drawer_eq {rs : List Row} {ps qs : List P2} (h : Str) (hr : Rs (qs.map (·.1))) (pm : qs.Perm ps) : (qs.filter fun p => decide (mainM rs p.2 = h)).map (·.1) = inDrawer rs ps h := by
  refine riseS_of (List.Pairwise.sublist (List.Sublist.map _ List.filter_sublist) hr) fun x => ?_
  exact ((pm.filter _).map _).mem_iff
end Fc
set_option maxHeartbeats 4000000
/-! What the law's own defs promise of papers. -/
namespace Fc
open PySem PySem.Spec PyProof.Rows L2
def nm0 : List Str := ["deed", "de", "d", "will", "wills", "map", "a", "b", "c", "plan", "note", "zz"]
theorem nm0_ok : (∀ n ∈ nm0, isWordM n = true) ∧ nm0.Nodup := by decide +kernel
theorem map_less {α β : Type} (f : α → β) : ∀ (l : List α) (k : Nat), (l.map f).eraseIdx k = (l.eraseIdx k).map f
  | [], _ => rfl
  | _ :: _, 0 => rfl
  | x :: l, k + 1 => congrArg (f x :: ·) (map_less f l k)
theorem perm_less {α : Type} : ∀ {l : List α} {k : Nat} {x : α}, l[k]? = some x → (x :: l.eraseIdx k).Perm l
  | [], _, _, h => by simp at h
  | y :: l, 0, x, h => by
    simp at h
    subst h
    exact List.Perm.refl _
  | y :: l, k + 1, x, h => (List.Perm.swap y x _).trans (List.Perm.cons y (perm_less (by simpa using h)))
theorem ix_in {i : Int} {n : Nat} (h : 0 ≤ i) (k : i < n) : seqIndex? i n = some i.toNat := by
  unfold seqIndex?
  have a : ¬ i < 0 := by omega
  simp [a, h, k]
/-- _law_papers(box, most): new papers that can be -/
def spPapersL : Sp := fun vs H Q _ => ∃ (b l : Addr) (most : Int), vs = [.ref b, .int most] ∧ 0 ≤ most ∧ most ≤ 12 ∧ Box H b l ∧ ∀ (ps : List P2) p H', GoodP ps → (∀ p ∈ ps, p.1 ∈ nm0) → (ps.length : Int) ≤ most → H p = none → Box H' b l → Kp (sB b l) H H' → Dn (sB b l) H' (.ref p) (papersD ps) → Q (.ref p) H'
/-- _law_cabinet(rule, papers) -/
def spCabinet : Sp := fun vs H Q _ => ∃ (v u : V) (rs : List Row) (ps : List P2), vs = [v, u] ∧ Dn N0 H v (ruleD rs) ∧ Dn N0 H u (papersD ps) ∧ GoodR rs ∧ GoodP ps ∧ ∀ p H', H p = none → Kp N0 H H' → Dn N0 H' (.ref p) (rightD rs ps) → Q (.ref p) H'
theorem weightD {f : Str → List Str} (hf : ∀ h, (f h).length ≤ 12 ∧ ∀ z ∈ f h, z.cps.size ≤ 1000) : ∀ hs : List Str, (∀ h ∈ hs, h.cps.size ≤ 1000) → PyData.weightAll (hs.map fun h => .tuple [.str h, .list ((f h).map PyData.str)]) ≤ 20000 * hs.length
  | [], _ => by simp [PyData.weightAll]
  | h :: hs, k => by
    have ih := weightD hf hs fun z hz => k z (List.mem_cons_of_mem _ hz)
    have w := weightS (f h) (hf h).2
    have l := (hf h).1
    have z := k h List.mem_cons_self
    simp only [List.map_cons, PyData.weightAll, PyData.weight, List.length_cons]
    omega
theorem depthD (f : Str → List Str) : ∀ hs : List Str, PyData.depthAll (hs.map fun h => .tuple [.str h, .list ((f h).map PyData.str)]) ≤ 2
  | [] => by simp [PyData.depthAll]
  | h :: hs => by
    have ih := depthD f hs
    have d := depthS (f h)
    simp only [List.map_cons, PyData.depthAll, PyData.depth, d]
    omega
theorem right_small {rs : List Row} {ps : List P2} (g : GoodR rs) (q : GoodP ps) : PyData.depth (rightD rs ps) < 4 ∧ PyData.weight (rightD rs ps) ≤ 1000000 := by
  have d := depthD (inDrawer rs ps) (ruleHeadsM rs)
  have w := weightD (f := inDrawer rs ps) (fun h => ⟨Nat.le_trans (inDrawer_len rs ps h) q.few, fun z hz => by
    have c := inDrawer_small q h z hz
    have e : z.length = z.cps.size := rfl
    omega⟩) (ruleHeadsM rs) fun h hh => by
    have c := ruleHeads_small g h hh
    have e : h.length = h.cps.size := rfl
    omega
  have l := ruleHeads_len rs
  have few := g.few
  refine ⟨?_, ?_⟩
  · unfold rightD drawD
    simp only [PyData.depth]
    omega
  · show PyData.weightAll _ ≤ _
    omega
theorem isWordM_ok {t : Str} (h : isWordM t = true) : PyData.strOk t = true := by
  unfold isWordM at h
  obtain ⟨_, h⟩ := Bool.and_eq_true_iff.mp (Bool.and_eq_true_iff.mp h).2
  unfold PyData.strOk
  rw [← Array.all_toList, List.all_eq_true]
  exact fun c hc => decide_eq_true (Nat.lt_trans (abc_small c (of_decide_eq_true (List.all_eq_true.mp h c hc))) (by decide))
theorem layP : ∀ ps : List P2, (∀ p ∈ ps, isWordM p.1 = true ∧ isMarksM p.2 = true) → PyData.canLayAll0 (ps.map paperD) = true ∧ PyData.depthAll (ps.map paperD) ≤ 1
  | [], _ => by simp [PyData.canLayAll0, PyData.depthAll]
  | p :: t, h => by
    obtain ⟨i1, i2⟩ := layP t fun x hx => h x (List.mem_cons_of_mem _ hx)
    obtain ⟨w1, w2⟩ := h p List.mem_cons_self
    have a := isWordM_ok w1
    have b := isMarksM_ok w2
    simp only [List.map_cons, PyData.canLayAll0, PyData.depthAll, paperD, PyData.canLay0, PyData.depth, a, b, i1, Bool.and_self, true_and]
    omega
theorem shapedRP {rs : List Row} {ps : List P2} (g : GoodR rs) (q : GoodP ps) : SeqAt.shaped (.list [ruleD rs, papersD ps]) = true := by
  obtain ⟨a, b⟩ := layR rs g.row
  obtain ⟨c, d⟩ := layP ps q.ok
  unfold SeqAt.shaped ruleD papersD
  rw [Bool.and_eq_true]
  refine ⟨by simp only [PyData.canLay0, PyData.canLayAll0, a, c, Bool.and_self], decide_eq_true ?_⟩
  simp only [PyData.depth, PyData.depthAll]
  omega
/-- what else the drawing of papers changes -/
def sPL (b l F L : Addr) : Addr → Prop := fun a => sB b l a ∨ a = F ∨ a = L
end Fc
set_option maxHeartbeats 4000000
/-! All choices of r of a list's items, as they are told one behind the other. -/
namespace Fc
/-- the rising lists of r of the m numbers from lo on -/
def CI : Nat → Nat → Nat → List (List Nat)
  | _, 0, _ => [[]]
  | 0, _ + 1, _ => []
  | m + 1, r + 1, lo => (CI m r (lo + 1)).map (lo :: ·) ++ CI m (r + 1) (lo + 1)
def CI1 (r lo : Nat) : List Nat := (List.range r).map (lo + ·)
/-- what stands behind l -/
def nxt (n : Nat) (l : List Nat) : Option (List Nat) :=
  ((List.range l.length).reverse.find? fun i => l.getD i 0 != i + n - l.length).map fun i => l.take i ++ (List.range (l.length - i)).map (l.getD i 0 + 1 + ·)
theorem nxt_nil (n : Nat) : nxt n [] = none := rfl
theorem nxt_cons (n x : Nat) (t : List Nat) : nxt n (x :: t) = (match nxt n t with | some u => some (x :: u) | none => if x = n - (t.length + 1) then none else some (CI1 (t.length + 1) (x + 1))) := by
  unfold nxt
  have e : (List.range (x :: t).length).reverse = ((List.range t.length).reverse.map (· + 1)) ++ [0] := by
    rw [List.length_cons, List.range_succ_eq_map, List.reverse_cons, ← List.map_reverse]
  rw [e, List.find?_append, List.find?_map]
  have p : ((fun i => (x :: t).getD i 0 != i + n - (x :: t).length) ∘ (· + 1)) = fun i => t.getD i 0 != i + n - t.length := by
    funext i
    show ((x :: t).getD (i + 1) 0 != i + 1 + n - (t.length + 1)) = _
    rw [List.getD_cons_succ, show i + 1 + n - (t.length + 1) = i + n - t.length by omega]
  rw [p]
  cases c : (List.range t.length).reverse.find? fun i => t.getD i 0 != i + n - t.length with
  | some i =>
    show some ((x :: t).take (i + 1) ++ (List.range ((x :: t).length - (i + 1))).map ((x :: t).getD (i + 1) 0 + 1 + ·)) = some (x :: (t.take i ++ (List.range (t.length - i)).map (t.getD i 0 + 1 + ·)))
    rw [List.take_succ_cons, List.getD_cons_succ, List.length_cons, show t.length + 1 - (i + 1) = t.length - i by omega]
    rfl
  | none =>
    rw [Option.map_none, Option.none_or, List.find?_cons]
    by_cases h : x = n - (t.length + 1)
    · have q : ((x :: t).getD 0 0 != 0 + n - (x :: t).length) = false := by simp [h]
      rw [q]
      dsimp only
      rw [List.find?_nil, Option.map_none, Option.map_none]
      dsimp only
      rw [if_pos h]
    · have q : ((x :: t).getD 0 0 != 0 + n - (x :: t).length) = true := by simp [h]
      rw [q]
      dsimp only
      rw [Option.map_some, Option.map_none]
      dsimp only
      rw [if_neg h]
      rfl
theorem CI_first : ∀ (m r lo : Nat), r ≤ m → ∃ L, CI m r lo = CI1 r lo :: L
  | m, 0, lo, _ => ⟨[], by cases m <;> rfl⟩
  | 0, r + 1, _, h => absurd h (by omega)
  | m + 1, r + 1, lo, h => by
    obtain ⟨L, e⟩ := CI_first m r (lo + 1) (by omega)
    refine ⟨L.map (lo :: ·) ++ CI m (r + 1) (lo + 1), ?_⟩
    show (CI m r (lo + 1)).map (lo :: ·) ++ CI m (r + 1) (lo + 1) = _
    rw [e, List.map_cons, List.cons_append]
    congr 1
    unfold CI1
    rw [List.range_succ_eq_map, List.map_cons, List.map_map]
    congr 1
    exact List.map_congr_left fun i _ => by show lo + 1 + i = lo + (i + 1); omega
theorem CI_none : ∀ (m r lo : Nat), m < r → CI m r lo = []
  | _, 0, _, h => absurd h (by omega)
  | 0, _ + 1, _, _ => rfl
  | m + 1, r + 1, lo, h => by
    show (CI m r (lo + 1)).map (lo :: ·) ++ CI m (r + 1) (lo + 1) = _
    rw [CI_none m r (lo + 1) (by omega), CI_none m (r + 1) (lo + 1) (by omega)]
    rfl
theorem CI_len : ∀ (m r lo : Nat), ∀ l ∈ CI m r lo, l.length = r
  | m, 0, lo, l, h => by
    have e : CI m 0 lo = [[]] := by cases m <;> rfl
    rw [e, List.mem_singleton] at h
    rw [h]
    rfl
  | 0, r + 1, _, l, h => by cases h
  | m + 1, r + 1, lo, l, h => by
    have h : l ∈ (CI m r (lo + 1)).map (lo :: ·) ++ CI m (r + 1) (lo + 1) := h
    rcases List.mem_append.mp h with h | h
    · obtain ⟨u, hu, rfl⟩ := List.mem_map.mp h
      rw [List.length_cons, CI_len m r (lo + 1) u hu]
    · exact CI_len m (r + 1) (lo + 1) l h
theorem CI_lt : ∀ (m r lo : Nat), ∀ l ∈ CI m r lo, ∀ i ∈ l, i < lo + m
  | m, 0, lo, l, h => by
    have e : CI m 0 lo = [[]] := by cases m <;> rfl
    rw [e, List.mem_singleton] at h
    rw [h]
    exact fun i z => nomatch z
  | 0, r + 1, _, l, h => by cases h
  | m + 1, r + 1, lo, l, h => by
    have h : l ∈ (CI m r (lo + 1)).map (lo :: ·) ++ CI m (r + 1) (lo + 1) := h
    intro i hi
    rcases List.mem_append.mp h with h | h
    · obtain ⟨u, hu, rfl⟩ := List.mem_map.mp h
      rcases List.mem_cons.mp hi with z | z
      · omega
      · have := CI_lt m r (lo + 1) u hu i z
        omega
    · have := CI_lt m (r + 1) (lo + 1) l h i hi
      omega
/-- one behind the other, e behind the last -/
def ChTo (n : Nat) : List (List Nat) → Option (List Nat) → Prop
  | [], _ => True
  | [l], e => nxt n l = e
  | l :: u :: r, e => nxt n l = some u ∧ ChTo n (u :: r) e
theorem ChTo.app {n : Nat} {B : List (List Nat)} {e : Option (List Nat)} : ∀ {A : List (List Nat)}, ChTo n A (match B with | [] => e | b :: _ => some b) → ChTo n B e → ChTo n (A ++ B) e
  | [], _, h => h
  | [l], k, h => by
    cases B with
    | nil => exact k
    | cons b B => exact ⟨k, h⟩
  | l :: u :: r, k, h => ⟨k.1, ChTo.app (A := u :: r) k.2 h⟩
theorem ChTo.map {n x r : Nat} : ∀ {L : List (List Nat)}, ChTo n L none → (∀ l ∈ L, l.length = r) → ChTo n (L.map (x :: ·)) (if x = n - (r + 1) then none else some (CI1 (r + 1) (x + 1)))
  | [], _, _ => trivial
  | [l], h, k => by
    have h : nxt n l = none := h
    show nxt n (x :: l) = _
    rw [nxt_cons, h, k l List.mem_cons_self]
  | l :: u :: L, h, k => by
    refine ⟨?_, ChTo.map (L := u :: L) h.2 fun z hz => k z (List.mem_cons_of_mem _ hz)⟩
    rw [nxt_cons, h.1]
theorem CI_ch : ∀ (m r lo : Nat), ChTo (lo + m) (CI m r lo) none
  | m, 0, lo => by
    have e : CI m 0 lo = [[]] := by cases m <;> rfl
    rw [e]
    rfl
  | 0, r + 1, lo => trivial
  | m + 1, r + 1, lo => by
    show ChTo (lo + (m + 1)) ((CI m r (lo + 1)).map (lo :: ·) ++ CI m (r + 1) (lo + 1)) none
    have en : lo + (m + 1) = lo + 1 + m := by omega
    rw [en]
    refine ChTo.app ?_ (CI_ch m (r + 1) (lo + 1))
    have k := ChTo.map (x := lo) (CI_ch m r (lo + 1)) (CI_len m r (lo + 1))
    rcases Nat.lt_trichotomy m r with c | c | c
    · rw [CI_none m r (lo + 1) c]
      trivial
    · rw [CI_none m (r + 1) (lo + 1) (by omega)]
      rw [if_pos (by omega)] at k
      exact k
    · obtain ⟨L, e⟩ := CI_first m (r + 1) (lo + 1) (by omega)
      rw [e]
      rw [if_neg (by omega)] at k
      exact k
theorem ChTo.at {n : Nat} : ∀ {L : List (List Nat)} {k : Nat} {l : List Nat}, ChTo n L none → L[k]? = some l → nxt n l = L[k + 1]?
  | [], k, l, _, e => by simp at e
  | [x], 0, l, h, e => by
    simp at e
    subst e
    exact h
  | [x], k + 1, l, h, e => by simp at e
  | x :: u :: r, 0, l, h, e => by
    simp at e
    subst e
    exact h.1
  | x :: u :: r, k + 1, l, h, e => by
    have z := ChTo.at (L := u :: r) (k := k) h.2 (by simpa using e)
    rw [z]
    simp
/-! ### the items -/
def pickL {α : Type} (d : α) (xs : List α) (l : List Nat) : List α := l.map fun i => xs.getD i d
/-- all choices of r of the items, as they stand -/
def combs {α : Type} : Nat → List α → List (List α)
  | 0, _ => [[]]
  | _ + 1, [] => []
  | r + 1, x :: xs => (combs r xs).map (x :: ·) ++ combs (r + 1) xs
theorem combs_pick {α : Type} (d : α) : ∀ (xs pre : List α) (r : Nat), (CI xs.length r pre.length).map (pickL d (pre ++ xs)) = combs r xs
  | xs, pre, 0 => by
    have e : CI xs.length 0 pre.length = [[]] := by cases xs.length <;> rfl
    rw [e]
    cases xs <;> rfl
  | [], pre, r + 1 => rfl
  | x :: xs, pre, r + 1 => by
    show ((CI xs.length r (pre.length + 1)).map (pre.length :: ·) ++ CI xs.length (r + 1) (pre.length + 1)).map _ = (combs r xs).map (x :: ·) ++ combs (r + 1) xs
    have e : pre ++ x :: xs = (pre ++ [x]) ++ xs := by simp
    have l : (pre ++ [x]).length = pre.length + 1 := by simp
    rw [List.map_append, List.map_map, e, ← l]
    have i1 := combs_pick d xs (pre ++ [x]) r
    have i2 := combs_pick d xs (pre ++ [x]) (r + 1)
    rw [i2, ← i1, List.map_map]
    congr 1
    refine List.map_congr_left fun u _ => ?_
    show pickL d (pre ++ [x] ++ xs) (pre.length :: u) = x :: pickL d (pre ++ [x] ++ xs) u
    unfold pickL
    rw [List.map_cons]
    congr 1
    rw [List.append_assoc, List.getD_eq_getElem?_getD, List.getElem?_append_right (Nat.le_refl _), Nat.sub_self]
    rfl
theorem combs_eq {α : Type} (d : α) (xs : List α) (r : Nat) : (CI xs.length r 0).map (pickL d xs) = combs r xs := combs_pick d xs [] r
end Fc
set_option maxHeartbeats 8000000
/-! set(text). -/
namespace Fc
open PySem PySem.Spec PyProof.Rows L2
section
variable {prog : Program} {P : Program} {w : World} {A : Around} {E : Value → Shared → Prop} {s : Shared}
theorem set_of_text {z : Str} {tz : Tok} {f : Nat → Str} {Q : Value → Shared → Prop} (hh : A.handled = none) (hi : ∀ (i : Nat) (v : Value), SignAt z i v → ∃ t, v = .str (f i) t) (hb : z.cps.size + 1 < scanBound)
    (h : ∀ (h' : Heap) (tk : Nat), SetS w h' s.heap.objs.size (metS f z.cps.size) → (∀ b o, b < s.heap.objs.size → s.heap.get? b = some o → h'.get? b = some o) → Q (.ref s.heap.objs.size) { s with heap := h', toks := tk }) :
    wpAny (model prog w) A (call (.type "set") [.str z tz]) Q E s := by
  obtain ⟨c, tl, hmro⟩ := PySem.F.called_set.mro; have hmade := PySem.F.called_set.made; have hsub := PySem.F.called_set.sub
  refine wpAny_call (codeAny_of_tree (show wpAny _ _ (callAny (.type "set") _) _ _ _ from wpAny_pure ⟨Code.quiet_builtin _ (by decide +kernel), codeAny_builtin PySem.F.entry_type_call ?_⟩))
  rw [Around.under_plain (weight_type_call_type "set" [.str z tz] []) rfl]
  have h1 := PySem.F.called_set.notType; have h2 := PySem.F.called_set.canCreate; have hct := PySem.F.typeCall_set_1 (.str z tz)
  repeat (any_goals (first | assumption | wp_step))
  refine codeAny_mono (new_set1 (.str z tz) (E := E) (Q1 := fun ob s1 => ob = .ref s.heap.objs.size ∧ s1 = { s with heap := s.heap.push { cls := .type "set", dict := none, data := .set #[] 0 (.fresh 0 0 (!w.params.followText "set-order")) } }) ⟨rfl, rfl⟩) fun r s1 hr => ?_
  cases r with
  | error e => exact hr
  | ok fl =>
    cases fl with
    | ret ob =>
      obtain ⟨rfl, rfl⟩ := hr
      generalize hso : ({ cls := .type "set", dict := none, data := .set #[] 0 (.fresh 0 0 (!w.params.followText "set-order")) } : Obj) = so
      have hcl : so.cls = .type "set" := by rw [← hso]
      have atS : (s.heap.push so).get? s.heap.objs.size = some so := Heap.get?_push_size _ (by rw [← hso]; rfl)
      have hT : Shared.TypeIs { s with heap := s.heap.push so } (.ref s.heap.objs.size) "set" := ⟨_, atS, hcl⟩
      have hli := PySem.F.called_set.init.lookup; have hbi := PySem.F.called_set.init.bind (.ref s.heap.objs.size)
      repeat (any_goals (first | assumption | wp_step))
      refine codeAny_mono (codeAny_call_builtin (R := wants (fun r s2 => r = .none ∧ ∃ h' tk, s2 = { s with heap := h', toks := tk } ∧ SetS w h' s.heap.objs.size (metS f z.cps.size) ∧ (∀ b o, b < s.heap.objs.size → s.heap.get? b = some o → h'.get? b = some o)) E) PySem.F.called_set.init.plain PySem.F.entry_set_init (check_set_init_1 hT ?_)) fun r2 s2 hr2 => ?_
      · subst hso
        have hsls := PySem.F.sub_str_set; have hslf := PySem.F.sub_str_frozenset; have hne : (Value.type "str" == Value.type "dict") = false := by decide
        unfold Builtin.«set.__init__» noKeywords Builtin.Frozenset.updateFrom; generalize hPI : pyIter = PI; wp_walk; subst hPI
        refine wpAny_pyIter_str fun io St W st0 => ?_; refine wpAny_bind (wpAny_runValue ?_)
        have hh3 : A.in1.in1.in1.handled = none := by simp [hh]
        have outS : s.heap.objs.size ∉ [(s.heap.push { cls := .type "set", dict := none, data := .set #[] 0 (.fresh 0 0 (!w.params.followText "set-order")) }).objs.size] := by
          exact fun z => absurd ((List.mem_singleton.mp z).trans (Heap.size_push ..)) (Nat.ne_of_lt (Nat.lt_succ_self _))
        refine loop_strs ((W _ hh3).toS) s.heap.objs.size outS f (fun i v hv => hi i v hv) hb (z.cps.size - 0) 0 _ (by omega) (Nat.zero_le _) st0 ?hS0 ?hR
        case hS0 => exact newS rfl (Heap.get?_push_of_some _ atS)
        case hR =>
          intro s' mv hS'
          obtain ⟨h', g', d', tk', os'⟩ := s'
          have eg : g' = s.gens := mv.gens; have ed : d' = s.drawn := mv.drawn; have eo : os' = s.os := mv.os
          subst eg; subst ed; subst eo
          refine wpAny_pure (wpAny_pure ⟨rfl, h', tk', rfl, hS', fun b o hb e => mv.heap b o ?_ (Heap.get?_push_of_some _ (Heap.get?_push_of_some _ e))⟩)
          refine fun z => ?_
          rcases List.mem_cons.mp z with q | q
          · exact absurd q (Nat.ne_of_lt hb)
          · exact absurd ((List.mem_singleton.mp q).trans (Heap.size_push ..)) (Nat.ne_of_lt (Nat.lt_succ_of_lt hb))
      · cases r2 with
        | error e => exact hr2
        | ok fl2 =>
          cases fl2 with
          | ret r =>
            obtain ⟨rfl, h', tk, rfl, hS', hk'⟩ := hr2
            repeat (any_goals (first | assumption | wp_step))
            exact h _ _ hS' hk'
          | _ => exact hr2.elim
    | _ => exact hr.elim
end
section
variable {X : Cx}
def signS (c : Nat) : Str := ⟨#[c]⟩
/-- set(text) -/
def rSetT (w : World) : List V → Hp → VK → Prop := fun vs H Q => ∃ z : Str, vs = [.str z] ∧ z.cps.toList.length < 1000 ∧ ∀ (p : Addr) (l : List Str), H p = none → l.Nodup → (∀ x, x ∈ l ↔ x ∈ z.cps.toList.map signS) → l.length ≤ z.cps.toList.length → Q (.ref p) (upd H p (SetSO w p l))
theorem cr_setT (hc : X.calm = true) : CallR X (.type "set") (rSetT X.w) := by
  intro pins s σ H vs us Q I r h
  obtain ⟨z, rfl, hl, q⟩ := h
  obtain ⟨u, rfl, ru⟩ := vals1 r
  obtain ⟨tz, rfl⟩ := ru
  have sz : z.cps.size = z.cps.toList.length := by simp
  refine set_of_text (f := fun i => signS (z.cps.toList.getD i 0)) (I.ok.hd hc) (fun i v hv => ?_) (by rw [sz]; unfold scanBound; omega) fun h' tk R k => ?_
  · obtain ⟨c, u, hc2, rfl⟩ := hv
    have e : z.cps.toList[i]? = some c := by simpa using hc2
    exact ⟨u, by unfold signS; rw [List.getD_eq_getElem?_getD, e]; rfl⟩
  refine ⟨.ref s.heap.objs.size, upd H s.heap.objs.size (SetSO X.w s.heap.objs.size _), I.laid (t' := tk) (fun b u e => k b u (Heap.lt_size e) e) (Nat.le_refl _) (setSO_new R), rfl, q _ _ (I.hok.fresh (Nat.le_refl _)) ?_ (fun x => ?_) (by rw [← sz]; exact metS_len _ _)⟩
  · obtain ⟨_, _, _, _, _, _, _, _, _, nd, _⟩ := R.ex
    exact nd
  · rw [metS_mem]
    constructor
    · rintro ⟨j, hj, e⟩
      rw [sz] at hj
      rw [← e]
      exact List.mem_map.mpr ⟨z.cps.toList[j], List.getElem_mem hj, by rw [List.getD_eq_getElem?_getD, List.getElem?_eq_getElem hj]; rfl⟩
    · intro hx
      obtain ⟨c, hc2, rfl⟩ := List.mem_map.mp hx
      obtain ⟨j, hj, e⟩ := List.getElem_of_mem hc2
      exact ⟨j, by rw [sz]; exact hj, by rw [List.getD_eq_getElem?_getD, List.getElem?_eq_getElem hj, e]; rfl⟩
end
end Fc
set_option maxHeartbeats 4000000
/-! The fewest slips, as the program reckons them and as the law does. -/
namespace Fc
open PySem PySem.Spec PyProof.Rows L2
def allS (rs : List Row) : List Nat := rs.flatMap fun r => r.2.1.cps.toList ++ r.2.2.cps.toList
/-- the marks that rows name, rising -/
def namedM (rs : List Row) : List Nat := a2h.cps.toList.filter fun c => decide (c ∈ allS rs)
theorem namedM_nd (rs : List Row) : (namedM rs).Nodup := List.Nodup.sublist List.filter_sublist (by decide)
theorem namedM_len (rs : List Row) : (namedM rs).length ≤ 8 := List.length_filter_le _ _
theorem namedM_mem {rs : List Row} (g : ∀ r ∈ rs, isRowM r = true) (c : Nat) : c ∈ namedM rs ↔ c ∈ allS rs := by
  unfold namedM
  rw [List.mem_filter, decide_eq_true_eq]
  refine ⟨fun h => h.2, fun h => ⟨?_, h⟩⟩
  obtain ⟨r, hr, hc⟩ := List.mem_flatMap.mp h
  obtain ⟨h1, h2⟩ := isRowM_sg (g r hr)
  rcases List.mem_append.mp hc with z | z
  · exact h1 c z
  · exact h2 c z
/-- the marks behind slips -/
def afterM (m : Str) (sl : List Nat) : Str := oS (a2h.cps.toList.filter fun c => sg m c != decide (c ∈ sl))
/-- all choices, fewer ones first -/
def choices (xs : List Nat) : List (List Nat) := (List.range (xs.length + 1)).flatMap fun k => combs k xs
def firstC (rs : List Row) (m : Str) (L : List (List Nat)) (h : Str) : Option Nat := (L.find? fun sl => decide (mainM rs (afterM m sl) = h)).map List.length
def slipsM (rs : List Row) (m : Str) (h : Str) : Option Nat := firstC rs m (choices (namedM rs)) h
theorem firstC_snoc (rs : List Row) (m : Str) (L : List (List Nat)) (sl : List Nat) (h : Str) : firstC rs m (L ++ [sl]) h = (match firstC rs m L h with | some c => some c | none => if mainM rs (afterM m sl) = h then some sl.length else none) := by
  unfold firstC
  rw [List.find?_append]
  cases c : L.find? fun sl => decide (mainM rs (afterM m sl) = h) with
  | some x => rfl
  | none =>
    rw [Option.map_none, Option.none_or, List.find?_cons]
    by_cases q : mainM rs (afterM m sl) = h
    · have e : decide (mainM rs (afterM m sl) = h) = true := by simpa using q
      rw [e, if_pos q]
      rfl
    · have e : decide (mainM rs (afterM m sl) = h) = false := by simpa using q
      rw [e, if_neg q]
      rfl
theorem combs_le {α : Type} : ∀ (r : Nat) (xs : List α), (combs r xs).length ≤ 2 ^ xs.length
  | 0, xs => by
    have e : combs 0 xs = [[]] := by cases xs <;> rfl
    rw [e]
    exact Nat.one_le_two_pow
  | r + 1, [] => Nat.zero_le _
  | r + 1, x :: xs => by
    have h1 := combs_le r xs
    have h2 := combs_le (r + 1) xs
    show ((combs r xs).map (x :: ·) ++ combs (r + 1) xs).length ≤ 2 ^ (xs.length + 1)
    rw [List.length_append, List.length_map, Nat.pow_succ]
    omega
theorem combs_mem {α : Type} : ∀ (r : Nat) (xs l : List α), l ∈ combs r xs ↔ l.Sublist xs ∧ l.length = r
  | 0, xs, l => by
    have e : combs 0 xs = [[]] := by cases xs <;> rfl
    rw [e, List.mem_singleton]
    constructor
    · rintro rfl
      exact ⟨List.nil_sublist _, rfl⟩
    · intro h
      exact List.length_eq_zero_iff.mp h.2
  | r + 1, [], l => by
    show l ∈ [] ↔ _
    constructor
    · intro h
      cases h
    · intro h
      have e := List.sublist_nil.mp h.1
      rw [e] at h
      cases h.2
  | r + 1, x :: xs, l => by
    show l ∈ (combs r xs).map (x :: ·) ++ combs (r + 1) xs ↔ _
    rw [List.mem_append, List.mem_map, combs_mem (r + 1) xs l]
    constructor
    · rintro (⟨u, hu, rfl⟩ | h)
      · obtain ⟨h1, h2⟩ := (combs_mem r xs u).mp hu
        exact ⟨h1.cons_cons x, by rw [List.length_cons, h2]⟩
      · exact ⟨h.1.cons x, h.2⟩
    · rintro ⟨h1, h2⟩
      cases h1 with
      | cons _ h => exact .inr ⟨h, h2⟩
      | cons_cons _ h => exact .inl ⟨_, (combs_mem r xs _).mpr ⟨h, Nat.succ.inj h2⟩, rfl⟩
theorem choices_mem (xs l : List Nat) : l ∈ choices xs ↔ l.Sublist xs := by
  unfold choices
  rw [List.mem_flatMap]
  constructor
  · rintro ⟨k, _, h⟩
    exact ((combs_mem k xs l).mp h).1
  · intro h
    exact ⟨l.length, List.mem_range.mpr (Nat.lt_succ_of_le h.length_le), (combs_mem _ xs l).mpr ⟨h, rfl⟩⟩
theorem choices_up (xs : List Nat) : (choices xs).Pairwise fun a b => a.length ≤ b.length := by
  unfold choices
  have key : ∀ L : List Nat, L.Pairwise (· < ·) → (L.flatMap fun k => combs k xs).Pairwise fun a b => a.length ≤ b.length := by
    intro L
    induction L with
    | nil => exact fun _ => List.Pairwise.nil
    | cons k L ih =>
      intro h
      obtain ⟨h1, h2⟩ := List.pairwise_cons.mp h
      rw [List.flatMap_cons]
      refine List.pairwise_append.mpr ⟨?_, ih h2, fun a ha b hb => ?_⟩
      · refine List.Pairwise.imp_of_mem ?_ (List.pairwise_of_forall (R := fun _ _ => True) fun _ _ => trivial)
        intro a b ha hb _
        rw [((combs_mem k xs a).mp ha).2, ((combs_mem k xs b).mp hb).2]
        exact Nat.le_refl _
      · obtain ⟨j, hj, hb⟩ := List.mem_flatMap.mp hb
        rw [((combs_mem k xs a).mp ha).2, ((combs_mem j xs b).mp hb).2]
        exact Nat.le_of_lt (h1 j hj)
  exact key _ List.pairwise_lt_range
theorem find_min {α : Type} (f : α → Nat) (p : α → Bool) : ∀ {L : List α} {x : α}, L.Pairwise (fun a b => f a ≤ f b) → L.find? p = some x → ∀ y ∈ L, p y = true → f x ≤ f y
  | [], x, _, h, y, hy, _ => by cases hy
  | a :: L, x, pw, h, y, hy, py => by
    obtain ⟨p1, p2⟩ := List.pairwise_cons.mp pw
    rw [List.find?_cons] at h
    cases c : p a with
    | true =>
      rw [c] at h
      cases h
      rcases List.mem_cons.mp hy with z | z
      · rw [z]
        exact Nat.le_refl _
      · exact p1 y z
    | false =>
      rw [c] at h
      rcases List.mem_cons.mp hy with z | z
      · rw [z, c] at py
        cases py
      · exact find_min f p p2 h y z py
/-! ### the law's reckoning -/
def subsTo : List (List Nat) → List Nat → List (List Nat)
  | S, [] => S
  | S, c :: xs => subsTo (S ++ S.map (· ++ [c])) xs
theorem subsTo_snoc : ∀ (xs : List Nat) (S : List (List Nat)) (c : Nat), subsTo S (xs ++ [c]) = subsTo S xs ++ (subsTo S xs).map (· ++ [c])
  | [], _, _ => rfl
  | _ :: xs, S, c => subsTo_snoc xs _ c
theorem subsTo_len : ∀ (xs : List Nat) (S : List (List Nat)), (subsTo S xs).length = S.length * 2 ^ xs.length
  | [], S => by simp [subsTo]
  | c :: xs, S => by
    show (subsTo (S ++ S.map (· ++ [c])) xs).length = _
    rw [subsTo_len xs, List.length_append, List.length_map, List.length_cons, Nat.pow_succ, ← Nat.two_mul, Nat.mul_comm 2 S.length, Nat.mul_assoc, Nat.mul_comm 2]
theorem subs_mem (xs : List Nat) : ∀ l, l ∈ subsTo [[]] xs ↔ l.Sublist xs := by
  have key : ∀ (n : Nat) (xs : List Nat), xs.length = n → ∀ l, l ∈ subsTo [[]] xs ↔ l.Sublist xs := by
    intro n
    induction n with
    | zero =>
      intro xs h l
      rw [List.length_eq_zero_iff.mp h]
      show l ∈ [[]] ↔ _
      rw [List.mem_singleton, List.sublist_nil]
    | succ n ih =>
      intro xs h l
      obtain ⟨ys, c, rfl⟩ : ∃ ys c, xs = ys ++ [c] := by
        refine ⟨xs.dropLast, xs.getLast (fun e => by rw [e] at h; cases h), ?_⟩
        exact (List.dropLast_concat_getLast _).symm
      rw [List.length_append] at h
      have hy : ys.length = n := Nat.succ.inj h
      rw [subsTo_snoc, List.mem_append, List.mem_map, ih ys hy l]
      constructor
      · rintro (z | ⟨u, hu, rfl⟩)
        · exact z.trans (List.sublist_append_left _ _)
        · exact ((ih ys hy u).mp hu).append (List.Sublist.refl _)
      · intro z
        obtain ⟨a, b, rfl, ha, hb⟩ := List.sublist_append_iff.mp z
        cases hb with
        | cons _ hb =>
          rw [List.sublist_nil.mp hb, List.append_nil]
          exact .inl ha
        | cons_cons _ hb =>
          rw [List.sublist_nil.mp hb]
          exact .inr ⟨a, (ih ys hy a).mpr ha, rfl⟩
  exact key _ xs rfl
/-- how far one is -/
def farM (m : Str) (named one : List Nat) : Nat := (named.filter fun c => decide (c ∈ one) != sg m c).length
def leftM (m : Str) (named : List Nat) : List Nat := m.cps.toList.filter fun c => !decide (c ∈ named)
def lawMin (rs : List Row) (m : Str) (named : List Nat) (h : Str) : Nat → List (List Nat) → Nat
  | a, [] => a
  | a, one :: L => lawMin rs m named h (if mainM rs (oS (leftM m named ++ one)) = h then (if farM m named one < a then farM m named one else a) else a) L
theorem lawMin_snoc (rs : List Row) (m : Str) (named : List Nat) (h : Str) : ∀ (L : List (List Nat)) (a : Nat) (one : List Nat), lawMin rs m named h a (L ++ [one]) =
    (if mainM rs (oS (leftM m named ++ one)) = h then (if farM m named one < lawMin rs m named h a L then farM m named one else lawMin rs m named h a L) else lawMin rs m named h a L)
  | [], _, _ => rfl
  | _ :: L, _, one => lawMin_snoc rs m named h L _ one
theorem lawMin_spec (rs : List Row) (m : Str) (named : List Nat) (h : Str) : ∀ (L : List (List Nat)) (a : Nat), lawMin rs m named h a L ≤ a ∧ (∀ one ∈ L, mainM rs (oS (leftM m named ++ one)) = h → lawMin rs m named h a L ≤ farM m named one) ∧
    (lawMin rs m named h a L = a ∨ ∃ one ∈ L, mainM rs (oS (leftM m named ++ one)) = h ∧ lawMin rs m named h a L = farM m named one)
  | [], a => ⟨Nat.le_refl _, (fun _ z => nomatch z), .inl rfl⟩
  | one :: L, a => by
    obtain ⟨h1, h2, h3⟩ := lawMin_spec rs m named h L (if mainM rs (oS (leftM m named ++ one)) = h then (if farM m named one < a then farM m named one else a) else a)
    have e : lawMin rs m named h a (one :: L) = lawMin rs m named h (if mainM rs (oS (leftM m named ++ one)) = h then (if farM m named one < a then farM m named one else a) else a) L := rfl
    rw [e]
    generalize lawMin rs m named h (if mainM rs (oS (leftM m named ++ one)) = h then (if farM m named one < a then farM m named one else a) else a) L = z at h1 h2 h3
    refine ⟨?_, fun y hy q => ?_, ?_⟩
    · split at h1
      · split at h1 <;> omega
      · exact h1
    · rcases List.mem_cons.mp hy with w | w
      · subst w
        rw [if_pos q] at h1
        split at h1 <;> omega
      · exact h2 y w q
    · rcases h3 with c | ⟨y, hy, c⟩
      · split at c
        · rename_i q
          split at c
          · exact .inr ⟨one, List.mem_cons_self, q, c⟩
          · exact .inl c
        · exact .inl c
      · exact .inr ⟨y, List.mem_cons_of_mem _ hy, c⟩
theorem mainM_congr {rs : List Row} {m n : Str} (h : ∀ c ∈ allS rs, sg m c = sg n c) : mainM rs m = mainM rs n := by
  have hh : heldM rs m = heldM rs n := by
    unfold heldM
    congr 1
    refine List.filter_congr fun r hr => ?_
    have h1 : ∀ c ∈ r.2.1.cps.toList, sg m c = sg n c := fun c hc => h c (List.mem_flatMap.mpr ⟨r, hr, List.mem_append_left _ hc⟩)
    have h2 : ∀ c ∈ r.2.2.cps.toList, sg m c = sg n c := fun c hc => h c (List.mem_flatMap.mpr ⟨r, hr, List.mem_append_right _ hc⟩)
    have all_c : ∀ l : List Nat, (∀ c ∈ l, sg m c = sg n c) → l.all (sg m) = l.all (sg n) ∧ l.any (sg m) = l.any (sg n) := by
      intro l
      induction l with
      | nil => exact fun _ => ⟨rfl, rfl⟩
      | cons x l ih =>
        intro k
        obtain ⟨i1, i2⟩ := ih fun c hc => k c (List.mem_cons_of_mem _ hc)
        rw [List.all_cons, List.all_cons, List.any_cons, List.any_cons, i1, i2, k x List.mem_cons_self]
        exact ⟨rfl, rfl⟩
    unfold holdsM
    rw [(all_c _ h1).1, (all_c _ h2).2]
  unfold mainM turnM
  rw [hh]
theorem sg_oS (l : List Nat) (c : Nat) : sg (oS l) c = decide (c ∈ l) := by
  unfold sg
  rw [oS_cps]
/-- the same reckoned otherwise -/
theorem main_alike {rs : List Row} (g : GoodR rs) (m : Str) (sl one : List Nat) (h : ∀ c ∈ namedM rs, decide (c ∈ one) = (sg m c != decide (c ∈ sl))) : mainM rs (afterM m sl) = mainM rs (oS (leftM m (namedM rs) ++ one)) := by
  refine mainM_congr fun c hc => ?_
  have hn := (namedM_mem g.row c).mpr hc
  have ha : c ∈ a2h.cps.toList := (List.mem_filter.mp hn).1
  unfold afterM
  rw [sg_oS, sg_oS]
  have e1 : decide (c ∈ a2h.cps.toList.filter fun c => sg m c != decide (c ∈ sl)) = (sg m c != decide (c ∈ sl)) := by
    cases q : (sg m c != decide (c ∈ sl)) with
    | true => exact decide_eq_true (List.mem_filter.mpr ⟨ha, q⟩)
    | false => exact decide_eq_false fun z => by rw [(List.mem_filter.mp z).2] at q; cases q
  have e2 : decide (c ∈ leftM m (namedM rs) ++ one) = decide (c ∈ one) := by
    refine decide_eq_decide.mpr ⟨fun z => ?_, fun z => List.mem_append_right _ z⟩
    rcases List.mem_append.mp z with z | z
    · have q := (List.mem_filter.mp z).2
      simp [hn] at q
    · exact z
  rw [e1, e2, h c hn]
theorem lawMin_eq {rs : List Row} (g : GoodR rs) (m h : Str) : lawMin rs m (namedM rs) h 99 (subsTo [[]] (namedM rs)) = (match slipsM rs m h with | some c => c | none => 99) := by
  obtain ⟨h1, h2, h3⟩ := lawMin_spec rs m (namedM rs) h (subsTo [[]] (namedM rs)) 99
  have nd := namedM_nd rs
  have ln := namedM_len rs
  -- from a choice to one
  have to1 : ∀ sl, sl.Sublist (namedM rs) → mainM rs (afterM m sl) = h → lawMin rs m (namedM rs) h 99 (subsTo [[]] (namedM rs)) ≤ sl.length := fun sl hs hm => by
    have ho : ∀ c ∈ namedM rs, decide (c ∈ (namedM rs).filter fun c => sg m c != decide (c ∈ sl)) = (sg m c != decide (c ∈ sl)) := fun c hc => by
      cases q : (sg m c != decide (c ∈ sl)) with
      | true => exact decide_eq_true (List.mem_filter.mpr ⟨hc, q⟩)
      | false => exact decide_eq_false fun z => by rw [(List.mem_filter.mp z).2] at q; cases q
    have k := h2 _ ((subs_mem _ _).mpr List.filter_sublist) ((main_alike g m sl _ ho).symm.trans hm)
    have e : farM m (namedM rs) ((namedM rs).filter fun c => sg m c != decide (c ∈ sl)) = sl.length := by
      unfold farM
      have f := sub_filter nd hs
      have e2 : ((namedM rs).filter fun c => decide (c ∈ (namedM rs).filter fun c => sg m c != decide (c ∈ sl)) != sg m c) = sl := by
        refine Eq.trans (List.filter_congr (q := fun c => decide (c ∈ sl)) fun c hc => ?_) f
        rw [ho c hc]
        cases sg m c <;> cases decide (c ∈ sl) <;> rfl
      rw [e2]
    rw [e] at k
    exact k
  -- from one to a choice
  have to2 : ∀ one, mainM rs (oS (leftM m (namedM rs) ++ one)) = h → ∃ sl, sl ∈ choices (namedM rs) ∧ mainM rs (afterM m sl) = h ∧ sl.length = farM m (namedM rs) one := fun one hm => by
    refine ⟨(namedM rs).filter fun c => decide (c ∈ one) != sg m c, (choices_mem _ _).mpr List.filter_sublist, ?_, rfl⟩
    rw [main_alike g m _ one fun c hc => ?_]
    · exact hm
    · have e : decide (c ∈ (namedM rs).filter fun c => decide (c ∈ one) != sg m c) = (decide (c ∈ one) != sg m c) := by
        cases q : (decide (c ∈ one) != sg m c) with
        | true => exact decide_eq_true (List.mem_filter.mpr ⟨hc, q⟩)
        | false => exact decide_eq_false fun z => by rw [(List.mem_filter.mp z).2] at q; cases q
      rw [e]
      cases sg m c <;> cases decide (c ∈ one) <;> rfl
  unfold slipsM firstC
  cases c : (choices (namedM rs)).find? fun sl => decide (mainM rs (afterM m sl) = h) with
  | some sl =>
    have pm : mainM rs (afterM m sl) = h := by simpa using List.find?_some c
    have mm := List.mem_of_find?_eq_some c
    have b := to1 sl ((choices_mem _ _).mp mm) pm
    have bl : sl.length ≤ 8 := Nat.le_trans ((choices_mem _ _).mp mm).length_le ln
    show _ = sl.length
    rcases h3 with q | ⟨one, _, q1, q2⟩
    · omega
    · obtain ⟨s2, m2, p2, l2⟩ := to2 one q1
      have z := find_min List.length _ (choices_up (namedM rs)) c s2 m2 (by simpa using p2)
      omega
  | none =>
    show _ = 99
    rcases h3 with q | ⟨one, _, q1, q2⟩
    · exact q
    · obtain ⟨s2, m2, p2, l2⟩ := to2 one q1
      have z := List.find?_eq_none.mp c s2 m2
      simp [p2] at z
theorem slipsM_le {rs : List Row} {m h : Str} {c : Nat} (e : slipsM rs m h = some c) : c ≤ 8 := by
  unfold slipsM firstC at e
  cases q : (choices (namedM rs)).find? fun sl => decide (mainM rs (afterM m sl) = h) with
  | none =>
    rw [q] at e
    cases e
  | some sl =>
    rw [q] at e
    cases e
    exact Nat.le_trans ((choices_mem _ _).mp (List.mem_of_find?_eq_some q)).length_le (namedM_len rs)
end Fc
set_option maxHeartbeats 4000000
/-! itertools.combinations of a list. -/
namespace Fc
open PySem PySem.Spec PyProof.Rows L2
abbrev tCom : String := "itertools.combinations"
theorem com_mro : mroOf (.type "itertools.combinations") = pure [.type "itertools.combinations", .type "object"] := by
  rw [mroOf_type]
  kernel_rfl
theorem com_new : typeLookup (.type "itertools.combinations") "__new__" = pure (some (.builtin "itertools.combinations.__new__")) := by
  rw [typeLookup_type, builtinLookup_eq_fast]
  kernel_rfl
theorem com_sub : isSubtype (.type "itertools.combinations") (.type "itertools.combinations") = pure true := by
  rw [isSubtype_type]
  kernel_rfl
theorem com_init : Slot "itertools.combinations" "__init__" "object.__init__" :=
  .of (owner := "object") (n := "__init__")
    (by rw [typeLookup_type, builtinLookup_eq_fast]; kernel_rfl)
    (by decide +kernel) (by decide +kernel) (by decide +kernel) (by first | exact .inl (by decide +kernel) | exact .inr (by decide +kernel))
    (by rw [isSubtype_type]; kernel_rfl)
theorem com_iter : Slot "itertools.combinations" "__iter__" "itertools.combinations.__iter__" :=
  .of (owner := "itertools.combinations") (n := "__iter__")
    (by rw [typeLookup_type, builtinLookup_eq_fast]; kernel_rfl)
    (by decide +kernel) (by decide +kernel) (by decide +kernel) (by first | exact .inl (by decide +kernel) | exact .inr (by decide +kernel))
    (by rw [isSubtype_type]; kernel_rfl)
theorem com_next : Slot "itertools.combinations" "__next__" "itertools.combinations.__next__" :=
  .of (owner := "itertools.combinations") (n := "__next__")
    (by rw [typeLookup_type, builtinLookup_eq_fast]; kernel_rfl)
    (by decide +kernel) (by decide +kernel) (by decide +kernel) (by first | exact .inl (by decide +kernel) | exact .inr (by decide +kernel))
    (by rw [isSubtype_type]; kernel_rfl)
theorem com_called : TypeCalled "itertools.combinations" "itertools.combinations.__new__" "object.__init__" :=
  ⟨by decide +kernel, by decide +kernel, ⟨_, _, com_mro⟩, madeBy_type com_mro com_new (by decide +kernel), by decide +kernel, com_sub, com_init⟩
theorem com_tc (a b : Value) : checkTypeCall "itertools.combinations" ⟨[a, b], []⟩ = pure () := by first | kernel_rfl | rfl
theorem com_nc (a b : Value) : checkBuiltinCall "itertools.combinations.__new__" ⟨[.type "itertools.combinations", a, b], []⟩ = pure () := by first | kernel_rfl | rfl
theorem com_en : entryFor table "itertools.combinations.__new__" = some Builtin.«itertools.combinations.__new__» := entryFor_of_tree (by kernel_rfl)
theorem com_ex : entryFor table "itertools.combinations.__next__" = some Builtin.«itertools.combinations.__next__» := entryFor_of_tree (by kernel_rfl)
theorem com_ei : entryFor table "itertools.combinations.__iter__" = some Builtin.«dict_keyiterator.__iter__» :=
  entryFor_alias (id' := "dict_keyiterator.__iter__") (by kernel_rfl) (by first | rfl | decide +kernel | (unfold String.splitOn; simp +decide [String.splitOnAux])) (by decide +kernel) (by kernel_rfl)
theorem com_ax (a : Value) : argsOk "itertools.combinations.__next__" ⟨[a], []⟩ := by
  unfold argsOk
  kernel_rfl
theorem com_ai (a : Value) : argsOk "itertools.combinations.__iter__" ⟨[a], []⟩ := by
  unfold argsOk
  kernel_rfl
theorem com_ao (o a b : Value) : argsOk "object.__init__" ⟨[o, a, b], []⟩ := by
  unfold argsOk
  kernel_rfl
end Fc
set_option maxHeartbeats 4000000
/-! What one turn of it does. -/
namespace Fc
open PySem PySem.Spec PyProof.Rows L2
def comF (pool : Addr) (st : Int) (res : Value) (l : List Nat) : List Value := Value.ref pool :: rawInt st :: res :: l.map fun (i : Nat) => rawInt i
def comO (pool : Addr) (st : Int) (res : Value) (l : List Nat) : Obj := { cls := .type "itertools.combinations", dict := none, data := .fields (comF pool st res l).toArray, slots := #[] }
def tupO (vs : List Value) : Obj := { cls := .type "tuple", data := .seq vs.toArray }
section
variable {prog : Program} {w : World} {A : Around} {E : Value → Shared → Prop} {s : Shared} {it pool : Addr} {st : Int} {res : Value} {l : List Nat} {items : List Value} {n : Nat}
theorem com_ty (ho : s.heap.get? it = some (comO pool st res l)) : s.TypeIs (.ref it) "itertools.combinations" := ⟨_, ho, rfl⟩
theorem com_nums {Q : List Nat → Shared → Prop} (ho : s.heap.get? it = some (comO pool st res l)) (h : Q l s) : wpAny (model prog w) A (Builtin.Itertools.itNumbersFrom (.ref it) 3) Q E s := by
  unfold Builtin.Itertools.itNumbersFrom
  refine wpAny_bind (wpAny_load ho (wpAny_pure ?_))
  have e : ((comF pool st res l).toArray.toList.drop 3).map (fun | Value.int n _ => n.toNat | _ => 0) = l := by
    show ((l.map fun (i : Nat) => rawInt i)).map _ = l
    rw [List.map_map]
    refine Eq.trans (List.map_congr_left (g := id) fun i _ => ?_) (List.map_id l)
    show Int.toNat (i : Int) = i
    exact Int.toNat_natCast i
  exact (congrArg (fun z => Q z s) e).mpr h
theorem com_st {Q : Int → Shared → Prop} (ho : s.heap.get? it = some (comO pool st res l)) (h : Q st s) : wpAny (model prog w) A (Builtin.Itertools.itIntField (.ref it) 1) Q E s := by
  unfold Builtin.Itertools.itIntField
  exact wpAny_bind (wpAny_field ho rfl (x := rawInt st) rfl (wpAny_pure h))
theorem com_pool {Q : Array Value → Shared → Prop} (hp : s.heap.get? pool = some (tupO items)) (h : Q items.toArray s) : wpAny (model prog w) A (Builtin.Itertools.itPoolItems (.ref pool)) Q E s := by
  unfold Builtin.Itertools.itPoolItems
  exact wpAny_bind (wpAny_seqItems hp rfl (wpAny_pure h))
theorem com_set1 {x : Int} {Q : Unit → Shared → Prop} (ho : s.heap.get? it = some (comO pool st res l)) (h : ∀ h', h'.get? it = some (comO pool x res l) → Heap.SameBut it s.heap h' → Q () { s with heap := h' }) :
    wpAny (model prog w) A (setField (.ref it) 1 (rawInt x)) Q E s := by
  refine wpAny_setField_rec ho (by show 1 < (comF pool st res l).toArray.size; simp [comF]) fun h' a b => h h' (a.trans ?_) b
  unfold comO
  rw [List.setIfInBounds_toArray]
  rfl
theorem com_set2 {x : Value} {Q : Unit → Shared → Prop} (ho : s.heap.get? it = some (comO pool st res l)) (h : ∀ h', h'.get? it = some (comO pool st x l) → Heap.SameBut it s.heap h' → Q () { s with heap := h' }) :
    wpAny (model prog w) A (setField (.ref it) 2 x) Q E s := by
  refine wpAny_setField_rec ho (by show 2 < (comF pool st res l).toArray.size; simp [comF]) fun h' a b => h h' (a.trans ?_) b
  unfold comO
  rw [List.setIfInBounds_toArray]
  rfl
theorem com_setN {u : List Nat} {Q : Unit → Shared → Prop} (hu : u.length ≤ 1000) (ho : s.heap.get? it = some (comO pool st res l)) (h : ∀ h', h'.get? it = some (comO pool st res u) → Heap.SameBut it s.heap h' → Q () { s with heap := h' }) :
    wpAny (model prog w) A (Builtin.Itertools.itSetNumbersFrom (.ref it) 3 u) Q E s := by
  unfold Builtin.Itertools.itSetNumbersFrom
  have e : ((comF pool st res l).toArray.extract 0 3 ++ (u.map fun (n : Nat) => rawInt n).toArray) = (comF pool st res u).toArray := by
    unfold comF
    simp
  refine wpAny_updateFields ho rfl (h _ ?_ (Heap.SameBut.update ..)) ?_
  · refine (Heap.get?_update_self _ ho rfl).trans ?_
    show some ({ cls := Value.type "itertools.combinations", dict := none, data := Data.fields ((comF pool st res l).toArray.extract 0 3 ++ (u.map fun (n : Nat) => rawInt n).toArray), slots := #[] } : Obj) = _
    rw [e]
    rfl
  · show ((comF pool st res l).toArray.extract 0 3 ++ (u.map fun (n : Nat) => rawInt n).toArray).size ≤ sizeLine + 3
    rw [e, List.size_toArray]
    unfold comF
    rw [List.length_cons, List.length_cons, List.length_cons, List.length_map, sizeLine_eq]
    omega
theorem nxt_m (n : Nat) (l : List Nat) : nxt n l = (match (List.range l.length).reverse.find? (fun i => l.getD i 0 != i + n - l.length) with
    | none => none | some i => some (l.take i ++ (List.range (l.length - i)).map (l.getD i 0 + 1 + ·))) := by
  unfold nxt
  cases (List.range l.length).reverse.find? (fun i => l.getD i 0 != i + n - l.length) <;> rfl
/-- the next one is handed out -/
theorem com_out {u : List Nat} {Q : PySem.Fin → Shared → Prop} (hu : u.length ≤ 1000) (ho : s.heap.get? it = some (comO pool st res u)) (hp : s.heap.get? pool = some (tupO items))
    (h : ∀ h', h'.get? it = some (comO pool st (.ref s.heap.objs.size) u) → h'.get? s.heap.objs.size = some (tupO (pickL .none items u)) → (∀ b o, b ≠ it → s.heap.get? b = some o → h'.get? b = some o) → Q (.done (.ret (.ref s.heap.objs.size))) { s with heap := h' }) :
    wpAny (model prog w) A (do
      let result ← (do
        let xs ← Builtin.Itertools.itPoolItems (.ref pool)
        newTuple (u.map fun i => xs.getD i .none))
      let before ← field (.ref it) 2
      setField (.ref it) 2 result
      letGo [before] [result]
      ret result) Q E s := by
  have lt : it < s.heap.objs.size := Heap.lt_size ho
  refine wpAny_bind (wpAny_bind (com_pool hp (wpAny_newTuple ?_ (by rw [List.length_map, sizeLine_eq]; omega))))
  have e : (u.map fun i => items.toArray.getD i .none) = pickL .none items u := by
    unfold pickL
    exact List.map_congr_left fun i _ => by simp
  rw [e]
  have o2 : (s.heap.push (tupO (pickL .none items u))).get? it = some (comO pool st res u) := Heap.get?_push_of_some _ ho
  have t2 : (s.heap.push (tupO (pickL .none items u))).get? s.heap.objs.size = some (tupO (pickL .none items u)) := Heap.get?_push_size _ rfl
  refine wpAny_bind (wpAny_field (s := { s with heap := s.heap.push (tupO (pickL .none items u)) }) o2 rfl (x := res) rfl ?_)
  refine wpAny_bind (com_set2 (s := { s with heap := s.heap.push (tupO (pickL .none items u)) }) o2 fun h' a sb => wpAny_bind (wpAny_letGo (wpAny_pure ?_)))
  exact h h' a ((sb.2 _ (Nat.ne_of_gt lt)).trans t2) fun b o nb hb => (sb.2 b nb).trans (Heap.get?_push_of_some _ hb)
theorem com_pn0 {Q : Option Value → Shared → Prop} (hl : l.length ≤ 1000) (ho : s.heap.get? it = some (comO pool 0 res l)) (hp : s.heap.get? pool = some (tupO items)) (ne : pool ≠ it)
    (h : ∀ h', h'.get? it = some (comO pool 1 (.ref s.heap.objs.size) l) → h'.get? s.heap.objs.size = some (tupO (pickL .none items l)) → (∀ b o, b ≠ it → s.heap.get? b = some o → h'.get? b = some o) → Q (some (.ref s.heap.objs.size)) { s with heap := h' }) :
    wpAny (model prog w) A (pyNext (.ref it)) Q E s := by
  unfold pyNext
  refine wpAny_bind (wpAny_attempt (wpAny_callSpecial?_slot (name := Str.ofString "__next__") (com_ty ho) com_next (wpAny_call_entry com_next (com_ty ho) com_ex ?_ (com_ax _))))
  show wpAny _ _ (field (.ref it) 0 >>= _) _ _ s
  refine wpAny_bind (wpAny_field ho rfl (x := .ref pool) rfl ?_)
  refine wpAny_bind (com_nums ho ?_)
  refine wpAny_bind (com_st ho ?_)
  refine wpAny_bind (com_set1 (x := 1) ho fun h1 a1 sb1 => ?_)
  have sz : h1.objs.size = s.heap.objs.size := sb1.1
  refine com_out (s := { s with heap := h1 }) hl a1 ((sb1.2 _ ne).trans hp) fun h' a b c => ⟨_, rfl, wpAny_pure ?_⟩
  have b : h'.get? h1.objs.size = some (tupO (pickL .none items l)) := b
  have a : h'.get? it = some (comO pool 1 (.ref h1.objs.size) l) := a
  show Q (some (.ref h1.objs.size)) _
  rw [sz] at a b ⊢
  exact h h' a b fun x o nx hx => c x o nx ((sb1.2 x nx).trans hx)
theorem com_pn1 {u : List Nat} {Q : Option Value → Shared → Prop} (hn : nxt items.length l = some u) (hl : u.length ≤ 1000) (ho : s.heap.get? it = some (comO pool 1 res l)) (hp : s.heap.get? pool = some (tupO items)) (ne : pool ≠ it)
    (h : ∀ h', h'.get? it = some (comO pool 1 (.ref s.heap.objs.size) u) → h'.get? s.heap.objs.size = some (tupO (pickL .none items u)) → (∀ b o, b ≠ it → s.heap.get? b = some o → h'.get? b = some o) → Q (some (.ref s.heap.objs.size)) { s with heap := h' }) :
    wpAny (model prog w) A (pyNext (.ref it)) Q E s := by
  unfold pyNext
  refine wpAny_bind (wpAny_attempt (wpAny_callSpecial?_slot (name := Str.ofString "__next__") (com_ty ho) com_next (wpAny_call_entry com_next (com_ty ho) com_ex ?_ (com_ax _))))
  show wpAny _ _ (field (.ref it) 0 >>= _) _ _ s
  refine wpAny_bind (wpAny_field ho rfl (x := .ref pool) rfl ?_)
  refine wpAny_bind (com_nums ho ?_)
  refine wpAny_bind (com_st ho ?_)
  refine wpAny_bind (com_pool hp ?_)
  have hn2 : nxt items.toArray.size l = some u := by rw [List.size_toArray]; exact hn
  split
  · rename_i next heq
    have e : nxt items.toArray.size l = some next := (nxt_m _ _).trans heq
    rw [hn2] at e
    cases e
    refine wpAny_bind (com_setN hl ho fun h1 a1 sb1 => ?_)
    have sz : h1.objs.size = s.heap.objs.size := sb1.1
    refine com_out (s := { s with heap := h1 }) hl a1 ((sb1.2 _ ne).trans hp) fun h' a b c => ⟨_, rfl, wpAny_pure ?_⟩
    have b : h'.get? h1.objs.size = some (tupO (pickL .none items u)) := b
    have a : h'.get? it = some (comO pool 1 (.ref h1.objs.size) u) := a
    show Q (some (.ref h1.objs.size)) _
    rw [sz] at a b ⊢
    exact h h' a b fun x o nx hx => c x o nx ((sb1.2 x nx).trans hx)
  · rename_i heq
    have e : nxt items.toArray.size l = none := (nxt_m _ _).trans heq
    rw [hn2] at e
    cases e
theorem com_pn2 {Q : Option Value → Shared → Prop} (hh : A.handled = none) (hn : nxt items.length l = none) (ho : s.heap.get? it = some (comO pool 1 res l)) (hp : s.heap.get? pool = some (tupO items))
    (h : ∀ h', Heap.ExtBut it s.heap h' → Q none { s with heap := h' }) : wpAny (model prog w) A (pyNext (.ref it)) Q E s := by
  unfold pyNext
  refine wpAny_bind (wpAny_attempt (wpAny_callSpecial?_slot (name := Str.ofString "__next__") (com_ty ho) com_next (wpAny_call_entry com_next (com_ty ho) com_ex ?_ (com_ax _))))
  show wpAny _ _ (field (.ref it) 0 >>= _) _ _ s
  refine wpAny_bind (wpAny_field ho rfl (x := .ref pool) rfl ?_)
  refine wpAny_bind (com_nums ho ?_)
  refine wpAny_bind (com_st ho ?_)
  refine wpAny_bind (com_pool hp ?_)
  have hn2 : nxt items.toArray.size l = none := by rw [List.size_toArray]; exact hn
  split
  · rename_i next heq
    have e : nxt items.toArray.size l = some next := (nxt_m _ _).trans heq
    rw [hn2] at e
    cases e
  · refine wpAny_bind (com_set1 (x := 2) ho fun h1 a1 sb1 => ?_)
    show wpAny _ _ (newExc (.type "StopIteration") [] >>= _) _ _ _
    refine wpAny_bind ?_
    simp only [newExc, newTuple]
    refine wpAny_bind (wpAny_newObj_type ?_ (by size_fits))
    refine wpAny_bind (m := firstArgMember _ _) (wpAny_of_eq (a := Value.none) (by first | rfl | (simp only [firstArgMember]; rfl)) ?_)
    refine wpAny_newObj_type ?_ (by size_fits)
    simp only [raiseNew]
    refine wpAny_bind (wpAny_handled ?_)
    rw [show A.in1.handled = none from hh]
    refine wpAny_bind (wpAny_pure (wpAny_throw ?_))
    refine wpAny_bind (wpAny_isInstance (T := "StopIteration") (b := true) ⟨_, Heap.get?_push_size _ rfl, rfl⟩ isSubtype_stop (wpAny_pure (h _ ?_)))
    exact (sb1.extBut.push _).push _
theorem com_self {Q : Value → Shared → Prop} (ho : s.heap.get? it = some (comO pool st res l)) (h : Q (.ref it) s) : wpAny (model prog w) A (pyIter (.ref it)) Q E s := by
  refine wpAny_pyIter_slot (com_ty ho) com_iter (wpAny_call_entry com_iter (com_ty ho) com_ei ?_ (com_ai _))
  show wpAny _ _ (ret (.ref it)) _ _ s
  exact wpAny_pure ⟨_, rfl, "itertools.combinations", _, com_ty ho, com_next.lookup, h⟩
/-- combinations(list, r) -/
theorem com_make {a : Addr} {r : Int} {t : Tok} {Q : Value → Shared → Prop} (hl : s.heap.IsList a items.toArray) (hz : items.length ≤ sizeLine) (r0 : 0 ≤ r) (r1 : r ≤ items.length) (r2 : r ≤ 1000)
    (h : ∀ h', h'.get? (s.heap.objs.size + 2) = some (comO (s.heap.objs.size + 1) 0 .none (List.range r.toNat)) → h'.get? (s.heap.objs.size + 1) = some (tupO items) → (∀ b o, s.heap.get? b = some o → h'.get? b = some o) → Q (.ref (s.heap.objs.size + 2)) { s with heap := h' }) :
    wpAny (model prog w) A (call (.type "itertools.combinations") [.ref a, .int r t]) Q E s := by
  refine callType_new com_called (by decide) (com_tc _ _) (com_nc _ _) (fun obj => com_ao obj _ _) com_en (S := fun A R s1 => s1.heap.IsList a items.toArray ∧ ∀ h', h'.get? (s1.heap.objs.size + 2) = some (comO (s1.heap.objs.size + 1) 0 .none (List.range r.toNat)) → h'.get? (s1.heap.objs.size + 1) = some (tupO items) → (∀ b o, s1.heap.get? b = some o → h'.get? b = some o) → R (.ok (.ret (.ref (s1.heap.objs.size + 2)))) { s1 with heap := h' })
    (Meets.of_wp fun prog w A R s1 hs => ?_) ⟨hl, fun h' x y z => ⟨⟨_, x, rfl⟩, h h' x y z⟩⟩
  obtain ⟨hl, k⟩ := hs
  have lt : a < s1.heap.objs.size := by
    obtain ⟨o, ho, _⟩ := hl
    exact Heap.lt_size ho
  unfold Builtin.«itertools.combinations.__new__»
  refine wpAny_bind ?_
  show wpAny _ _ (Builtin.Itertools.itClassAndRest "combinations" _ >>= _) _ _ s1
  refine wpAny_bind ?_
  unfold Builtin.Itertools.itClassAndRest
  show wpAny _ _ (isType (.type "itertools.combinations") >>= _) _ _ s1
  refine wpAny_bind (wpAny_of_eq (a := true) (by first | rfl | kernel_rfl | (unfold isType; rw [isSubtype_type]; kernel_rfl)) ?_)
  refine PySem.W.KFB.if_not rfl ?_
  show wpAny _ _ (isSubtype (.type "itertools.combinations") (.type "itertools.combinations") >>= _) _ _ s1
  refine wpAny_bind (wpAny_of_eq (a := true) com_sub ?_)
  refine PySem.W.KFB.if_not rfl ?_
  refine wpAny_pure ?_
  show wpAny _ _ (Builtin.Itertools.itBindNamed "combinations" ["iterable", "r"] 2 2 [.ref a, .int r t] [] >>= _) _ _ s1
  refine wpAny_bind (wpAny_of_eq (a := [some (.ref a), some (.int r t)]) (by first | rfl | kernel_rfl) ?_)
  show wpAny _ _ (Builtin.Itertools.itSsizeArg (.int r t) >>= _) _ _ s1
  refine wpAny_bind ?_
  unfold Builtin.Itertools.itSsizeArg
  refine wpAny_bind (wpAny_of_eq (a := r) (by first | rfl | kernel_rfl) ?_)
  refine PySem.W.KFB.if_not (by simp only [Bool.or_eq_false_iff, decide_eq_false_iff_not]; omega) (wpAny_pure ?_)
  refine wpAny_bind (collect_list hl ?_ hz)
  show wpAny _ _ (if r < 0 then _ else _) _ _ _
  rw [if_neg (show ¬ r < 0 by omega)]
  refine PySem.W.KFB.if_not (by unfold Builtin.Itertools.itTooMany; simp; omega) ?_
  generalize hh2 : (s1.heap.push (seqObj "list" #[] 0)).update s1.heap.objs.size (Obj.mapSeq (· ++ items.toArray)) = h2
  have z2 : h2.objs.size = s1.heap.objs.size + 1 := by
    rw [← hh2, Heap.size_update, Heap.size_push]
  have k2 : ∀ b o, s1.heap.get? b = some o → h2.get? b = some o := fun b o e => by
    rw [← hh2, Heap.get?_update_ne _ _ _ _ (Nat.ne_of_lt (Heap.lt_size e))]
    exact Heap.get?_push_of_some _ e
  refine wpAny_bind (wpAny_newTuple ?_ hz)
  refine wpAny_pure ?_
  show wpAny _ _ (Builtin.Itertools.itNewRecord (.type "itertools.combinations") _ >>= _) _ _ _
  refine wpAny_bind ?_
  unfold Builtin.Itertools.itNewRecord
  refine PySem.W.KFB.if_so (by first | rfl | kernel_rfl | decide +kernel) ?_
  have nd : (if r.toNat > items.length then 2 else 0) = 0 := if_neg (by omega)
  refine wpAny_newObj_type (wpAny_pure ?_) (by show Array.size _ ≤ sizeLine + 2; rw [List.size_toArray, sizeLine_eq]; simp; omega)
  have z3 : (h2.push (tupO items)).objs.size = s1.heap.objs.size + 2 := by rw [Heap.size_push, z2]
  have t3 : (h2.push (tupO items)).get? (s1.heap.objs.size + 1) = some (tupO items) := by
    rw [← z2]
    exact Heap.get?_push_size _ rfl
  have ef : ([Value.ref h2.objs.size, rawInt (if r.toNat > items.length then 2 else 0), Value.none] ++ (List.range r.toNat).map fun (i : Nat) => rawInt i) = comF (s1.heap.objs.size + 1) 0 .none (List.range r.toNat) := by
    rw [if_neg (by omega), z2]
    rfl
  have g := k ((h2.push (tupO items)).push (comO (s1.heap.objs.size + 1) 0 .none (List.range r.toNat))) (by rw [← z3]; exact Heap.get?_push_size _ rfl) (Heap.get?_push_of_some _ t3) fun b o e => Heap.get?_push_of_some _ (Heap.get?_push_of_some _ (k2 b o e))
  rw [← z3] at g
  refine ⟨_, rfl, ?_⟩
  show R (.ok (.ret (.ref (h2.push (tupO items)).objs.size))) { s1 with heap := (h2.push (tupO items)).push { cls := .type "itertools.combinations", dict := none, data := .fields ([Value.ref h2.objs.size, rawInt (if r.toNat > items.length then 2 else 0), Value.none] ++ (List.range r.toNat).map fun (i : Nat) => rawInt i).toArray } }
  rw [ef]
  exact g
end
end Fc
set_option maxHeartbeats 4000000
/-! for target in combinations(list, r). -/
namespace Fc
open PySem PySem.Spec PyProof.Rows L2
theorem combs_len {α : Type} (d : α) (xs : List α) (r : Nat) : (combs r xs).length = (CI xs.length r 0).length := by rw [← combs_eq d xs r, List.length_map]
theorem combs_at {α : Type} (d : α) (xs : List α) {r k : Nat} {l : List Nat} (h : (CI xs.length r 0)[k]? = some l) : (combs r xs)[k]? = some (pickL d xs l) := by rw [← combs_eq d xs r, List.getElem?_map, h]; rfl
theorem vals_pick : ∀ {l : List Nat} {xs : List V} {us : List Value}, Vals xs us → (∀ i ∈ l, i < xs.length) → Vals (pickL .non xs l) (pickL .none us l)
  | [], _, _, _, _ => .nil
  | i :: l, xs, us, r, h => by
    have hi := h i List.mem_cons_self
    have e : xs[i]? = some xs[i] := List.getElem?_eq_getElem hi
    obtain ⟨u, hu, ru⟩ := r.get e
    refine .cons ?_ (vals_pick r fun j z => h j (List.mem_cons_of_mem _ z))
    show RelV (xs.getD i .non) (us.getD i .none)
    rw [List.getD_eq_getElem?_getD, e, List.getD_eq_getElem?_getD, hu]
    exact ru
/-- all choices of r of the items, each a new tuple -/
def Itcb (xs : List V) (r : Nat) : It :=
  ⟨fun i H => i < (combs r xs).length, fun i H v H' => ∃ T c, v = .ref T ∧ H T = none ∧ H' = upd H T (.tup c) ∧ (combs r xs)[i]? = some c, fun i H => (combs r xs).length ≤ i⟩
theorem turn_comb {P : Program} {w : World} {K : PySem.W.Frag} {tg : Expr} {xs : List V} {items : List Value} {r : Nat} {it pool : Addr} (rv : Vals xs items) (hr : r ≤ xs.length) (hx : xs.length ≤ 1000) (ne : pool ≠ it) :
    Turn P w K tg (Itcb xs r) [it, pool] it (fun i h => h.get? pool = some (tupO items) ∧ ((i = 0 ∧ h.get? it = some (comO pool 0 .none (List.range r))) ∨ ∃ j res l, i = j + 1 ∧ (CI xs.length r 0)[j]? = some l ∧ h.get? it = some (comO pool 1 res l))) where
  mem := by simp
  obj := fun i h st b hb => by
    obtain ⟨hp, ho⟩ := st
    have e : b = it ∨ b = pool := by simpa using hb
    rcases e with z | z
    · rw [z]
      rcases ho with ⟨_, ho⟩ | ⟨_, _, _, _, _, ho⟩
      · exact ⟨_, ho, fun v q => nomatch q⟩
      · exact ⟨_, ho, fun v q => nomatch q⟩
    · rw [z]
      exact ⟨_, hp, fun v q => nomatch q⟩
  keep := fun i h h' st k => by
    obtain ⟨hp, ho⟩ := st
    refine ⟨k pool (by simp) _ hp, ?_⟩
    rcases ho with ⟨e, ho⟩ | ⟨j, res, l, e, q, ho⟩
    · exact .inl ⟨e, k it (by simp) _ ho⟩
    · exact .inr ⟨j, res, l, e, q, k it (by simp) _ ho⟩
  item := by
    intro X hP hw hK hc i pins s σ H E I hf st hg
    subst hP hw hK
    obtain ⟨hp, ho⟩ := st
    have hg : i < (combs r xs).length := hg
    rw [combs_len V.non] at hg
    have li : items.length = xs.length := rv.length.symm
    have hl : (CI xs.length r 0)[i]? = some ((CI xs.length r 0)[i]'hg) := List.getElem?_eq_getElem hg
    generalize (CI xs.length r 0)[i]'hg = l at hl
    have lm := List.mem_of_getElem? hl
    have ll : l.length = r := CI_len _ _ _ l lm
    have lt : ∀ j ∈ l, j < xs.length := fun j hj => by
      have z := CI_lt _ _ _ l lm j hj
      omega
    have fin : ∀ h' : Heap, h'.get? it = some (comO pool 1 (.ref s.heap.objs.size) l) → h'.get? s.heap.objs.size = some (tupO (pickL .none items l)) → (∀ b o, b ≠ it → s.heap.get? b = some o → h'.get? b = some o) →
        ∃ u, some (Value.ref s.heap.objs.size) = some u ∧ wpAny (model X.prog X.w) X.A (letOwnedTupleGo tg (.ref it) u) (fun _ s2 => ∃ x H', Inv X pins σ H' s2 ∧ RelV x u ∧ (Itcb xs r).yld i H x H' ∧ (s2.heap.get? pool = some (tupO items) ∧ ((i + 1 = 0 ∧ s2.heap.get? it = some (comO pool 0 .none (List.range r))) ∨ ∃ j res l, i + 1 = j + 1 ∧ (CI xs.length r 0)[j]? = some l ∧ s2.heap.get? it = some (comO pool 1 res l))) ∧ ∀ b ∈ [it, pool], H' b = none) E { s with heap := h' } := by
      intro h' a b k
      refine ⟨_, rfl, go_of (s := { s with heap := h' }) a rfl rfl (by decide) ?_⟩
      have itl : it < s.heap.objs.size := by
        rcases ho with ⟨_, ho⟩ | ⟨_, _, _, _, _, ho⟩
        · exact Heap.lt_size ho
        · exact Heap.lt_size ho
      have new : ObjOk X.prog X.w (upd H s.heap.objs.size (.tup (pickL .non xs l))) h' s.heap.objs.size (.tup (pickL .non xs l)) :=
        ⟨by show (pickL V.non xs l).length ≤ sizeLine; unfold pickL; rw [List.length_map, sizeLine_eq]; omega, pickL .none items l, vals_pick rv lt, ⟨_, b, rfl, _, rfl⟩⟩
      have I1 : Inv X pins σ (upd H s.heap.objs.size (.tup (pickL .non xs l))) { s with heap := h', toks := s.toks } :=
        I.turnedNew (ch := [it, pool]) (fun b ob hb q => k b ob (fun z => hb (by simp [z])) q) hf (Nat.le_refl _) new
      refine ⟨.ref s.heap.objs.size, _, I1, rfl, ⟨_, _, rfl, I.hok.fresh (Nat.le_refl _), rfl, combs_at V.non xs hl⟩, ⟨k pool _ ne hp, .inr ⟨i, _, l, rfl, hl, a⟩⟩, fun b hb => ?_⟩
      have hlt : b < s.heap.objs.size := by
        have e : b = it ∨ b = pool := by simpa using hb
        rcases e with z | z
        · rw [z]
          exact itl
        · rw [z]
          exact Heap.lt_size hp
      rw [upd_ne (Nat.ne_of_lt hlt)]
      exact (hf b hb).1
    rcases ho with ⟨e, ho⟩ | ⟨j, res, l0, e, q, ho⟩
    · subst e
      have z : l = List.range r := by
        obtain ⟨L, e⟩ := CI_first xs.length r 0 hr
        rw [e] at hl
        have z := (Option.some.inj hl).symm
        rw [z]
        unfold CI1
        rw [show (fun i : Nat => 0 + i) = id from funext fun i => Nat.zero_add i, List.map_id]
      refine com_pn0 (l := List.range r) (by rw [List.length_range]; omega) ho hp ne fun h' a b k => ?_
      rw [← z] at a b
      exact fin h' a b k
    · subst e
      have c := CI_ch xs.length r 0
      rw [Nat.zero_add] at c
      have nx := (c.at q).trans hl
      rw [← li] at nx
      exact com_pn1 nx (by omega) ho hp ne fin
  done := by
    intro X hP hw hK hc i pins s σ H E I hf st hg
    subst hP hw hK
    obtain ⟨hp, ho⟩ := st
    have hg : (combs r xs).length ≤ i := hg
    rw [combs_len V.non] at hg
    have li : items.length = xs.length := rv.length.symm
    obtain ⟨f0, f1, f2, f3, f4, f5⟩ := hf it (by simp)
    rcases ho with ⟨e, ho⟩ | ⟨j, res, l0, e, q, ho⟩
    · obtain ⟨L, e2⟩ := CI_first xs.length r 0 hr
      rw [e2, e] at hg
      cases hg
    · subst e
      have c := CI_ch xs.length r 0
      rw [Nat.zero_add] at c
      have nx := (c.at q).trans (List.getElem?_eq_none hg)
      rw [← li] at nx
      exact com_pn2 (I.ok.hd hc) nx ho hp fun h' eb => ⟨rfl, I.turned (t' := s.toks) (fun b o hb q => eb b o hb q) f0 f1 f3 f4 f5⟩
  self := fun A i s Q E st h => by
    obtain ⟨_, ⟨_, ho⟩ | ⟨_, _, _, _, _, ho⟩⟩ := st
    · exact com_self ho h
    · exact com_self ho h
def iComb (K : PySem.W.Frag) (ta : TA) : TI := fun σ H R => ta σ H fun vs H1 => ∃ (a : Addr) (xs : List V) (r : Nat), vs = [.ref a, .int r] ∧ SqL K H1 a xs ∧ r ≤ xs.length ∧ xs.length ≤ 1000 ∧ R (Itcb xs r) H1
theorem pi_comb {X : Cx} {x : Str} {e1 e2 tg : Expr} {ta : TA} {p pos : Pos} (hg : Gl X x) (hm : X.mg x = some (.type "itertools.combinations")) (ha : PA X [e1, e2] ta) (hdb : (x == ("__debug__" : Str)) = false := by decide)
    (hs : starEach [e1, e2] X.env = (false, eval e1 X.env) :: starEach [e2] X.env := by rfl) (hpl : (backTo pos (starEach [e2] X.env)).any (·.1) = false := by rfl) : PI X tg (.Call (.Name x p) [e1, e2] [] pos) (iComb X.K ta) := by
  refine ⟨fun pins s σ H R I h => ?_⟩
  refine wpAny_Call_Name_kw (ld_glob I hg hm (PyProof.Rows.callWith_type1 (thn (ha.run pos pins s σ H _ I h) fun us s1 ⟨vs, H1, I1, r1, a, xs, r, ex, hq, hr, hx, q⟩ => ?_) hs hpl) hdb)
  subst ex
  obtain ⟨u, v, rfl, ru, rv⟩ := vals2 r1
  obtain rfl : u = Value.ref a := ru
  obtain ⟨tk, rfl⟩ := rv
  obtain ⟨its, rx, p', hz⟩ := I1.list hq
  have li : its.length = xs.length := rx.length.symm
  refine com_make (items := its) p'.isList (by rw [li]; exact hz) (by omega) (by omega) (by omega) fun h' ho hp hk => ?_
  rw [Int.toNat_natCast] at ho
  refine com_self ho ?_
  have I2 : Inv X pins σ H1 { s1 with heap := h' } := I1.kept (t' := s1.toks) hk
  refine ⟨s1.heap.objs.size + 2, [s1.heap.objs.size + 2, s1.heap.objs.size + 1], _, _, H1, rfl, I2, turn_comb rx hr hx (Nat.ne_of_lt (Nat.lt_succ_self _)), ⟨hp, .inl ⟨rfl, ho⟩⟩, fun b hb => ?_, q⟩
  have e' : b = s1.heap.objs.size + 2 ∨ b = s1.heap.objs.size + 1 := by simpa using hb
  have hle : s1.heap.objs.size ≤ b := by
    rcases e' with z | z
    · rw [z]
      exact Nat.le_add_right _ _
    · rw [z]
      exact Nat.le_add_right _ _
  exact I1.fpOk hle (I1.hok.fresh hle)
end Fc
set_option maxHeartbeats 4000000
/-! Rules with K told; texts joined; promises for slips. -/
namespace Fc
open PySem PySem.Spec PyProof.Rows L2
section
variable {X : Cx} {K : PySem.W.Frag}
theorem pg_tupK {es : List Expr} {k n : Nat} {t : TGs} {pos : Pos} (hK : X.K = K) (hc : X.calm = true) (h : PGs X es t) (hn : (assignEach es X.env).length = n := by rfl) (hst : (assignEach es X.env).findIdx? (·.1) = none := by rfl) : PG X (.Tuple es k pos) (gTup K n t) := by
  subst hK
  exact pg_tup hc h hn hst
theorem op_inK (h : X.K = K := by rfl) : OpR X (compareOp .In) (rIn K false) := by
  subst h
  exact op_in_seq
theorem op_notInK (h : X.K = K := by rfl) : OpR X (compareOp .NotIn) (rIn K true) := by
  subst h
  exact op_notIn_seq
theorem walk_comb {xs : List V} {r : Nat} : Walk (Itcb xs r) (combs r xs).length (fun _ => True) (fun i H v H' => ∃ T c, v = .ref T ∧ H T = none ∧ H' = upd H T (.tup c) ∧ (combs r xs)[i]? = some c) :=
  ⟨fun _ _ hi _ => hi, fun _ _ => Nat.le_refl _, fun _ _ _ _ _ _ y => y⟩
end
theorem inV_str (x : Str) : ∀ l : List Str, inV (.str x) (l.map V.str) = decide (x ∈ l)
  | [] => rfl
  | y :: l => by
    have ih := inV_str x l
    unfold inV at ih ⊢
    rw [List.map_cons, List.any_cons, ih]
    have e : eqV (.str y) (.str x) = decide (y = x) := by
      show (y == x) = _
      rw [Bool.eq_iff_iff]
      simp
    rw [e]
    by_cases c : y = x
    · subst c
      simp
    · have d : x ∈ y :: l ↔ x ∈ l := by
        rw [List.mem_cons]
        exact ⟨fun z => z.resolve_left fun q => c q.symm, .inr⟩
      rw [decide_eq_false c, Bool.false_or]
      exact decide_eq_decide.mpr d.symm
theorem flat_strs : ∀ l : List Str, (l.map V.str).all flatV = true
  | [] => rfl
  | _ :: l => flat_strs l
theorem signS_inj {a b : Nat} (h : signS a = signS b) : a = b := by
  unfold signS at h
  injection h with h
  have q := congrArg Array.toList h
  simpa using q
theorem signS_mem (c : Nat) (l : List Nat) : signS c ∈ l.map signS ↔ c ∈ l := by
  rw [List.mem_map]
  exact ⟨fun ⟨d, hd, e⟩ => by rw [← signS_inj e]; exact hd, fun h => ⟨c, h, rfl⟩⟩
theorem inV_sign (c : Nat) (l : List Nat) : inV (.str (signS c)) ((l.map signS).map V.str) = decide (c ∈ l) := by
  rw [inV_str]
  exact decide_eq_decide.mpr (signS_mem c l)
theorem combs_map {α β : Type} (f : α → β) : ∀ (r : Nat) (xs : List α), combs r (xs.map f) = (combs r xs).map (List.map f)
  | 0, xs => by cases xs <;> rfl
  | r + 1, [] => rfl
  | r + 1, x :: xs => by
    show (combs r (xs.map f)).map (f x :: ·) ++ combs (r + 1) (xs.map f) = ((combs r xs).map (x :: ·) ++ combs (r + 1) xs).map _
    rw [combs_map f r xs, combs_map f (r + 1) xs, List.map_append, List.map_map, List.map_map]
    rfl
/-- texts joined with nothing between -/
theorem join_cps (l : List Str) : (Txt.join "" l).cps.toList = l.flatMap fun z => z.cps.toList := by
  have e : l = (l.map fun z => z.cps.toList).map SX.S := by
    rw [List.map_map]
    exact (List.map_id l).symm.trans (List.map_congr_left fun z _ => (oS_eq (z := z) rfl))
  have e0 : ("" : Str) = SX.S [] := rfl
  have key : ∀ ls : List (List Nat), TL.joinL [] ls = ls.flatten := by
    intro ls
    induction ls with
    | nil => rfl
    | cons p r ih =>
      cases r with
      | nil => exact (List.append_nil p).symm
      | cons q t =>
        show p ++ ([] ++ TL.joinL [] (q :: t)) = _
        rw [ih]
        rfl
  have z := SX.join_S [] (l.map fun z => z.cps.toList)
  rw [← e, ← e0] at z
  rw [z, key]
  show (oS _).cps.toList = _
  rw [oS_cps, List.flatMap_def]
theorem add_cps (a b : Str) : (a ++ b).cps.toList = a.cps.toList ++ b.cps.toList := by
  show (a.cps ++ b.cps).toList = _
  exact Array.toList_append
theorem len_cps (a : Str) : a.length = a.cps.toList.length := by simp [PySem.Str.length]
theorem rowsS_sum {rs : List Row} (g : ∀ r ∈ rs, isRowM r = true) : ((rs.map fun r => r.2.1 ++ r.2.2).map (·.length)).sum ≤ 16 * rs.length := by
  induction rs with
  | nil => exact Nat.le_refl _
  | cons r rs ih =>
    have i := ih fun x hx => g x (List.mem_cons_of_mem _ hx)
    obtain ⟨_, l2, l3⟩ := isRowM_len (g r List.mem_cons_self)
    rw [List.map_cons, List.map_cons, List.sum_cons, List.length_cons]
    have e : (r.2.1 ++ r.2.2).length = r.2.1.length + r.2.2.length := by rw [len_cps, add_cps, List.length_append, len_cps, len_cps]
    omega
theorem rowsS_cps (rs : List Row) : (Txt.join "" (rs.map fun r => r.2.1 ++ r.2.2)).cps.toList = allS rs := by
  rw [join_cps]
  unfold allS
  rw [List.flatMap_map]
  exact congrArg (fun f => List.flatMap f rs) (funext fun r => add_cps r.2.1 r.2.2)
/-! what is promised -/
def namedV (rs : List Row) : List V := ((namedM rs).map signS).map V.str
def spNamedP : Sp := fun vs H Q _ => ∃ (v : V) (rs : List Row), vs = [v] ∧ Dn N0 H v (ruleD rs) ∧ rs.length ≤ 50 ∧ (∀ r ∈ rs, isRowM r = true) ∧ ∀ p H', H p = none → Kp N0 H H' → H' p = some (.lst (namedV rs)) → Q (.ref p) H'
def spNamed : Sp := fun vs H Q _ => ∃ (v : V) (rs : List Row), vs = [v] ∧ Dn N0 H v (ruleD rs) ∧ GoodR rs ∧ ∀ p H', H p = none → Kp N0 H H' → H' p = some (.lst (namedV rs)) → Q (.ref p) H'
def spCheckHead : Sp := fun vs H Q _ => ∃ (v : V) (rs : List Row) (h : Str), vs = [v, .str h] ∧ Dn N0 H v (ruleD rs) ∧ rs.length ≤ 50 ∧ h ∈ ruleHeadsM rs ∧ ∀ H', Kp N0 H H' → Q .non H'
def spAfter : Sp := fun vs H Q _ => ∃ (m : Str) (t : Addr) (sl : List Nat), vs = [.str m, .ref t] ∧ H t = some (.tup ((sl.map signS).map V.str)) ∧ ∀ H', Kp N0 H H' → Q (.str (afterM m sl)) H'
def intO (o : Option Nat) : Option V := o.map fun c => V.int (c : Nat)
def spFewest (T : List Addr) : Sp := fun vs H Q _ => ∃ (v : V) (rs : List Row) (m : Str), vs = [v, .str m] ∧ Dn N0 H v (ruleD rs) ∧ GoodR rs ∧ Tbs T H ∧
  ∀ p kvs H', H p = none → Kp N0 H H' → H' p = some (.dK kvs) → kvs.length ≤ 2304 → (∀ h, valV kvs (.inr h) = intO (slipsM rs m h)) → (∀ q ∈ kvs, ∃ h, q.1 = .inr h) → Q (.ref p) H'
def slipV (o : Option Nat) : V := (intO o).getD .non
def spSlips (T : List Addr) : Sp := fun vs H Q _ => ∃ (v : V) (rs : List Row) (m h : Str), vs = [v, .str m, .str h] ∧ Dn N0 H v (ruleD rs) ∧ GoodR rs ∧ isMarksM m = true ∧ h ∈ ruleHeadsM rs ∧ Tbs T H ∧ ∀ H', Kp N0 H H' → Q (slipV (slipsM rs m h)) H'
end Fc
set_option maxHeartbeats 4000000
/-! The law's own reckoning of slips: what is promised. -/
namespace Fc
open PySem PySem.Spec PyProof.Rows L2
theorem allS_len {rs : List Row} (g : ∀ r ∈ rs, isRowM r = true) : (allS rs).length ≤ 16 * rs.length := by
  induction rs with
  | nil => exact Nat.le_refl _
  | cons r rs ih =>
    have i := ih fun x hx => g x (List.mem_cons_of_mem _ hx)
    obtain ⟨_, l2, l3⟩ := isRowM_len (g r List.mem_cons_self)
    unfold allS at i ⊢
    rw [List.flatMap_cons, List.length_append, List.length_append, List.length_cons, ← len_cps, ← len_cps]
    omega
theorem a2h_rs : Rs (a2h.cps.toList.map signS) := by
  unfold Rs
  decide +kernel
theorem named_rs (rs : List Row) : Rs ((namedM rs).map signS) := List.Pairwise.sublist (List.Sublist.map _ List.filter_sublist) a2h_rs
theorem named_rise {rs : List Row} (g : ∀ r ∈ rs, isRowM r = true) {l : List Str} (h : ∀ x, x ∈ l ↔ x ∈ (allS rs).map signS) : riseS l = (namedM rs).map signS := by
  refine (riseS_of (named_rs rs) fun x => ?_).symm
  rw [h x, List.mem_map, List.mem_map]
  exact ⟨fun ⟨c, hc, e⟩ => ⟨c, (namedM_mem g c).mp hc, e⟩, fun ⟨c, hc, e⟩ => ⟨c, (namedM_mem g c).mpr hc, e⟩⟩
theorem named_few {rs : List Row} (g : ∀ r ∈ rs, isRowM r = true) {l : List Str} (nd : l.Nodup) (h : ∀ x, x ∈ l ↔ x ∈ (allS rs).map signS) : l.length ≤ 8 := by
  have k := nodup_le nd (m := (namedM rs).map signS) fun x hx => by
    obtain ⟨c, hc, e⟩ := List.mem_map.mp ((h x).mp hx)
    exact List.mem_map.mpr ⟨c, (namedM_mem g c).mpr hc, e⟩
  rw [List.length_map] at k
  exact Nat.le_trans k (namedM_len rs)
/-- heads with a number each -/
def hdK (hs : List Str) (g : Str → Nat) : List (Key × V) := hs.map fun h => (.inr h, .int (g h : Nat))
theorem hdK_at {hs : List Str} (g : Str → Nat) {h : Str} (hm : h ∈ hs) : valV (hdK hs g) (.inr h) = some (.int (g h : Nat)) := by
  induction hs with
  | nil => cases hm
  | cons x hs ih =>
    by_cases e : x = h
    · subst e
      exact valV_pos (p := ((.inr x : Key), V.int (g x : Nat))) (r := hdK hs g) rfl
    · have ne : ¬ ((.inr x : Key), V.int (g x : Nat)).1 = .inr h := fun z => e (Sum.inr.inj z)
      refine (valV_neg (r := hdK hs g) ne).trans (ih ?_)
      rcases List.mem_cons.mp hm with z | z
      · exact (e z.symm).elim
      · exact z
theorem hdK_put {hs : List Str} (g : Str → Nat) {h : Str} (n : Nat) (hm : h ∈ hs) : putK (hdK hs g) (.inr h) (.int (n : Nat)) = hdK hs fun x => if h = x then n else g x := by
  have hv := hdK_at g hm
  unfold putK
  rw [if_pos (by rw [valV_any, hv]; rfl)]
  unfold hdK
  rw [List.map_map]
  refine List.map_congr_left fun x _ => ?_
  show (if (Sum.inr x : Key) = .inr h then ((.inr x : Key), V.int (n : Nat)) else (.inr x, .int (g x : Nat))) = (.inr x, .int ((if h = x then n else g x : Nat) : Nat))
  by_cases e : x = h
  · rw [if_pos (by rw [e]), if_pos e.symm]
  · rw [if_neg (fun z => e (Sum.inr.inj z)), if_neg (fun z => e z.symm)]
theorem hdK_merge : ∀ (hs : List Str) (g : Str → Nat) (kvs : List (Key × V)), hs.Nodup → (∀ h ∈ hs, valV kvs (.inr h) = none) → mergeK kvs (hdK hs g) = kvs ++ hdK hs g
  | [], _, kvs, _, _ => (List.append_nil kvs).symm
  | h :: hs, g, kvs, nd, k => by
    obtain ⟨n1, n2⟩ := List.nodup_cons.mp nd
    have kh := k h List.mem_cons_self
    show mergeK (putK kvs (.inr h) (.int (g h : Nat))) (hdK hs g) = kvs ++ ((.inr h, .int (g h : Nat)) :: hdK hs g)
    rw [putK_new _ kh, hdK_merge hs g _ n2 fun x hx => ?_, List.append_assoc]
    · rfl
    · rw [valV_snoc _ _ _ _ kh, if_neg (fun z => n1 (by rw [← Sum.inr.inj z]; exact hx))]
      exact k x (List.mem_cons_of_mem _ hx)
theorem pairs_at {K : PySem.W.Frag} {S : Addr → Prop} {H : Hp} (n : Nat) : ∀ {hs : List Str} {out : List V}, DnA S H out (hs.map fun h => .tuple [.str h, .int (n : Nat)]) →
    ∃ ps : List Addr, out = ps.map V.ref ∧ Paired (fun (p : Addr) (kv : Key × V) => SqT K H p [kV kv.1, kv.2]) ps (hdK hs fun _ => n)
  | [], _, h => by
    cases h
    exact ⟨[], rfl, .nil⟩
  | h :: hs, _, d => by
    cases d with
    | cons d t =>
      obtain ⟨ps, rfl, pp⟩ := pairs_at n t
      obtain ⟨a, xs, rfl, _, ha, hx⟩ := d.tup_ex
      cases hx with
      | cons h1 t1 =>
        cases t1 with
        | cons h2 t2 =>
          cases t2
          rw [h1.str_eq, h2.int_eq] at ha
          exact ⟨a :: ps, rfl, .cons (SqT.of ha) pp⟩
def kvL (rs : List Row) (m : Str) : List (Key × V) := hdK (ruleHeadsM rs) fun h => lawMin rs m (namedM rs) h 99 (subsTo [[]] (namedM rs))
def spLawSlips : Sp := fun vs H Q _ => ∃ (v : V) (rs : List Row) (m : Str), vs = [v, .str m] ∧ Dn N0 H v (ruleD rs) ∧ GoodR rs ∧ m.cps.toList.length ≤ 100 ∧ ∀ p H', H p = none → Kp N0 H H' → H' p = some (.dK (kvL rs m)) → Q (.ref p) H'
theorem subs_take {nm : List Nat} {i : Nat} {c : Nat} (h : nm[i]? = some c) : subsTo [[]] (nm.take (i + 1)) = subsTo [[]] (nm.take i) ++ (subsTo [[]] (nm.take i)).map (· ++ [c]) := by
  have e : nm.take (i + 1) = nm.take i ++ [c] := by rw [← (List.getElem?_eq_some_iff.mp h).2, List.take_append_getElem]
  rw [e, subsTo_snoc]
theorem subs_few {nm : List Nat} (h : nm.length ≤ 8) (i : Nat) : (subsTo [[]] (nm.take i)).length ≤ 256 := by
  rw [subsTo_len]
  have k : (nm.take i).length ≤ 8 := Nat.le_trans (List.length_take_le' _ _) h
  have z : 2 ^ (nm.take i).length ≤ 256 := Nat.pow_le_pow_right (by decide) k
  show 1 * _ ≤ _
  omega
theorem oS_add (l : List Nat) (c : Nat) : oS l ++ signS c = oS (l ++ [c]) := str_ext (by rw [add_cps, oS_cps, oS_cps]; rfl)
theorem oS_app (l u : List Nat) : oS l ++ oS u = oS (l ++ u) := str_ext (by rw [add_cps, oS_cps, oS_cps, oS_cps])
theorem oS_len (l : List Nat) : (oS l).length = l.length := by rw [len_cps, oS_cps]
end Fc
set_option maxHeartbeats 4000000
/-! Pairs of a number and a text in order. -/
namespace Fc
open PySem PySem.Spec PyProof.Rows L2
abbrev I2 := Int × Str
def lexI (p q : I2) : Bool := if p.1 = q.1 then ltS p.2 q.2 else decide (p.1 < q.1)
theorem lexI_tri (p q : I2) : lexI p q = true ∨ p = q ∨ lexI q p = true := by
  obtain ⟨a, b⟩ := p
  obtain ⟨c, d⟩ := q
  unfold lexI
  by_cases e : a = c
  · subst e
    simp only [if_true]
    rcases ltS_tri b d with z | z | z
    · exact .inl z
    · exact .inr (.inl (by rw [z]))
    · exact .inr (.inr z)
  · rw [if_neg e, if_neg (show ¬ c = a from fun z => e z.symm)]
    rcases Int.lt_trichotomy a c with z | z | z
    · exact .inl (decide_eq_true z)
    · exact (e z).elim
    · exact .inr (.inr (decide_eq_true z))
theorem lexI_trans {p q r : I2} (h : lexI p q = true) (k : lexI q r = true) : lexI p r = true := by
  obtain ⟨a, b⟩ := p
  obtain ⟨c, d⟩ := q
  obtain ⟨e, f⟩ := r
  unfold lexI at h k ⊢
  dsimp only at h k ⊢
  by_cases e1 : a = c
  · subst e1
    rw [if_pos rfl] at h
    by_cases e2 : a = e
    · rw [if_pos e2] at k ⊢
      exact ltS_trans h k
    · rw [if_neg e2] at k ⊢
      exact k
  · rw [if_neg e1] at h
    by_cases e2 : c = e
    · subst e2
      rw [if_neg e1]
      exact h
    · rw [if_neg e2] at k
      have t := Int.lt_trans (of_decide_eq_true h) (of_decide_eq_true k)
      rw [if_neg fun z => by rw [z] at t; exact Int.lt_irrefl _ t]
      exact decide_eq_true t
theorem lexI_irr (p : I2) : lexI p p = false := by
  unfold lexI
  rw [if_pos rfl, ltS_irr]
theorem lexI_asym {p q : I2} (h : lexI p q = true) : lexI q p = false := by
  cases z : lexI q p with
  | false => rfl
  | true =>
    have t := lexI_trans h z
    rw [lexI_irr] at t
    cases t
theorem swo_lexI {α : Type} (k : α → I2) : SrtO.Swo fun v u => lexI (k v) (k u) := by
  refine ⟨fun x y h => lexI_asym h, fun x y z h1 h2 => ?_⟩
  show lexI (k z) (k x) = false
  cases c : lexI (k z) (k x) with
  | false => rfl
  | true =>
    have h1' : lexI (k y) (k x) = false := h1
    have h2' : lexI (k z) (k y) = false := h2
    rcases lexI_tri (k x) (k y) with q | q | q
    · have t := lexI_trans c q
      rw [t] at h2'
      cases h2'
    · rw [q] at c
      rw [c] at h2'
      cases h2'
    · rw [q] at h1'
      cases h1'
/-- v: a tuple of a number and a text -/
def TwoI (h : Heap) (v : Value) (p : I2) : Prop := ∃ a o t u n, v = .ref a ∧ h.get? a = some o ∧ o.cls = .type "tuple" ∧ o.data = .seq #[.int p.1 t, .str p.2 u] n
theorem TwoI.over {h h' : Heap} {v : Value} {p : I2} (z : TwoI h v p) (k : ∀ b o, h.get? b = some o → o.cls = .type "tuple" → h'.get? b = some o) : TwoI h' v p := by
  obtain ⟨a, o, t, u, n, e, ho, hc, hd⟩ := z
  exact ⟨a, o, t, u, n, e, k _ _ ho hc, hc, hd⟩
section
variable {prog : Program} {w : World} {A : Around} {s : Shared}
theorem itwo_heads {h : Heap} (k : Value → I2) (vs : List Value) (hp : ∀ v ∈ vs, TwoI h v (k v)) : ∃ fs : List Value, PySem.W.KatTups h vs fs ∧ fs.length = vs.length ∧ ∀ f ∈ fs, ∃ x t, f = Value.int x t := by
  induction vs with
  | nil => exact ⟨[], PySem.W.KatTups.nil, rfl, fun _ hm => nomatch hm⟩
  | cons v vs ih =>
    obtain ⟨fs, h1, h2, h3⟩ := ih fun v' hm => hp v' (List.mem_cons_of_mem _ hm)
    obtain ⟨a, o, t, u, n, e, ho, hc, hd⟩ := hp v List.mem_cons_self
    rw [e]
    refine ⟨.int (k v).1 t :: fs, PySem.W.KatTups.cons ho hc hd rfl h1, congrArg (· + 1) h2, fun f hm => ?_⟩
    rcases List.mem_cons.mp hm with z | z
    · exact ⟨_, t, z⟩
    · exact h3 f z
theorem itwo_cmp {vs : List Value} {k : Value → I2} (hp : ∀ v ∈ vs, TwoI s.heap v (k v)) : SrtO.Cmp prog w A s (tuples' true) (fun p => p.1 ∈ vs) (SrtO.lt2 fun v u => lexI (k v) (k u)) := by
  intro p q hm hm'
  have h1 := hp _ hm
  have h2 := hp _ hm'
  show wpAny (model prog w) A (keyLt' (tuples' true) p.1 q.1) (fun r s' => s' = s ∧ r = lexI (k p.1) (k q.1)) (fun _ _ => False) s
  generalize k p.1 = x at h1 ⊢
  generalize k q.1 = y at h2 ⊢
  obtain ⟨x1, x2⟩ := x
  obtain ⟨y1, y2⟩ := y
  obtain ⟨a, o, t, u, n, e, ho, hc, hd⟩ := h1
  obtain ⟨b, r, i, j, m, e', ho', hc', hd'⟩ := h2
  rw [e, e']
  refine PySem.W.kat_lt ho hd ho' hd' (PySem.W.kat_cons (SeqAt.EqAt.int_int x1 t y1 i prog w _ _ (PySem.W.kat_go (fun e1 => ?_) (fun e1 => ?_))))
  · have ex : x1 = y1 := by simpa using e1
    refine PySem.W.kat_yes (PySem.W.kat_cons (SeqAt.EqAt.str_str x2 u y2 j prog w _ _ (PySem.W.kat_go (fun e2 => ?_) (fun e2 => ?_))))
    · have ey : x2 = y2 := by simpa using e2
      refine PySem.W.kat_yes (PySem.W.kat_nil ⟨rfl, ?_⟩)
      rw [ex, ey]
      exact (lexI_irr _).symm
    · refine PySem.W.kat_no (PySem.W.kat_one _ _ (PyProof.Rows.lt_str ?_))
      refine ⟨rfl, ?_⟩
      unfold lexI ltS
      rw [if_pos ex]
  · have ex : ¬ x1 = y1 := by simpa using e1
    refine PySem.W.kat_no (oneLt_int ⟨rfl, ?_⟩)
    unfold lexI
    rw [if_neg ex]
theorem itwo_sortable {a : Addr} {vs : List Value} {k : Value → I2} (h0 : 0 < vs.length) (hp : ∀ v ∈ vs, TwoI s.heap v (k v)) (ha : ∀ o, s.heap.get? a = some o → o.cls ≠ .type "tuple") : SrtO.SortableO prog w A s a vs fun v u => lexI (k v) (k u) := by
  intro h' keep
  have hp' : ∀ v ∈ vs, TwoI h' v (k v) := fun v hm => (hp v hm).over fun b o e c => keep b o (fun z => ha o (by rw [← z]; exact e) c) e
  obtain ⟨fs, h1, h2, h3⟩ := itwo_heads k vs hp'
  refine ⟨tuples' true, fun Q E hq => PySem.W.kat_kind (T := .type "int") h1 (by omega) (fun f hm => ?_) (by rfl) ?_, itwo_cmp hp'⟩
  · obtain ⟨x, t, rfl⟩ := h3 f hm
    exact PySem.W.Looks.now
  · have e : (Value.type "int" != Value.type "tuple") = true := by first | decide +kernel | rfl | decide
    rw [e]
    exact hq
end
section
variable {X : Cx}
/-- sorted(list of pairs of a number and a text), k tells which -/
def rSortIP (K : PySem.W.Frag) : List V → Hp → VK → Prop := fun vs H Q => ∃ (a : Addr) (xs : List V) (k : V → I2), vs = [.ref a] ∧ SqL K H a xs ∧ (∀ x ∈ xs, ∃ t, x = V.ref t ∧ H t = some (.tup [.int (k x).1, .str (k x).2])) ∧
  ∀ ys p, SrtO.Srtd (fun v u => lexI (k v) (k u)) ys → ys.Perm xs → H p = none → Q (.ref p) (upd H p (.lst ys))
theorem cr_sortIP : CallR X (.builtin "sorted") (rSortIP X.K) := by
  intro pins s σ H vs us Q I r h
  obtain ⟨a, xs, k, rfl, hs, hx, q⟩ := h
  obtain ⟨its, rv, hl, hz⟩ := I.list hs
  rw [Vals.ref1 r]
  obtain ⟨e1, e2⟩ := refs_back rv fun x m => Exists.imp (fun _ z => z.1) (hx x m)
  have old : ∀ v ∈ its, TwoI s.heap v (k (backV v)) := fun v hv => by
    obtain ⟨t, rfl⟩ := e2 v hv
    have hm : V.ref t ∈ xs := by
      rw [e1]
      exact List.mem_map.mpr ⟨_, hv, rfl⟩
    obtain ⟨t', e, ht⟩ := hx _ hm
    cases e
    obtain ⟨_, its2, r2, o, ho, hc, n, hd⟩ := I.hok _ _ ht
    obtain ⟨u1, u2, rfl, ri, rj⟩ := vals2 r2
    obtain ⟨t1, rfl⟩ := ri
    obtain ⟨t2, rfl⟩ := rj
    exact ⟨t, o, t1, t2, n, rfl, ho, hc, hd⟩
  refine SrtO.sorted_ord (swo_lexI fun u => k (backV u)) hl.isList (by rw [← rv.length]; exact hz) (fun h2 h₁ b hb kk => ?_) fun out hs hb => ?_
  · refine itwo_sortable (s := { s with heap := h₁ }) (k := fun u => k (backV u)) (by omega) (fun v hm => (old v hm).over fun c o e _ => (kk c o e).2) fun o e c => ?_
    have e' := e.symm.trans hb
    cases e'
    exact absurd (Value.type.inj c) (by decide)
  · have h3 : ∀ u ∈ out, ∃ a, u = Value.ref a := fun u hu => e2 u (hb.perm.mem_iff.mp hu)
    obtain ⟨n, hn⟩ := sortedAll_at s.heap its out.toArray
    have pm : (out.map backV).Perm xs := by
      rw [e1]
      exact hb.perm.map backV
    refine ⟨.ref _, upd H (s.heap.objs.size + 1) (.lst (out.map backV)), I.laid (t' := s.toks) (fun _ _ => sortedAll_old) (Nat.le_succ _) ⟨?_, out, n, vals_back h3, hn⟩, rfl, q _ _ (SrtO.srtd_map hs) pm (I.hok.fresh (Nat.le_succ _))⟩
    rw [pm.length_eq]
    exact hz
end
end Fc
set_option maxHeartbeats 4000000
/-! Pairs of a number and a text, read from a heap. -/
namespace Fc
open PySem PySem.Spec PyProof.Rows L2
def pairD (p : I2) : PyData := .tuple [.int p.1, .str p.2]
theorem pairD_ex {S : Addr → Prop} {H : Hp} {v : V} {p : I2} (z : Dn S H v (pairD p)) : ∃ t, v = .ref t ∧ ¬ S t ∧ H t = some (.tup [.int p.1, .str p.2]) := by
  obtain ⟨t, xs, rfl, hs, e, z⟩ := z.tup_ex
  cases z with
  | cons z1 z2 =>
    cases z2 with
    | cons z3 z4 =>
      cases z4
      cases z1
      cases z3
      exact ⟨t, rfl, hs, e⟩
def keyI (H : Hp) : V → I2
  | .ref t => match H t with
    | some (.tup [.int x, .str y]) => (x, y)
    | _ => (0, "")
  | _ => (0, "")
theorem keyI_at {H : Hp} {t : Addr} {x : Int} {y : Str} (h : H t = some (.tup [.int x, .str y])) : keyI H (.ref t) = (x, y) := by
  unfold keyI
  simp only [h]
theorem keyI_all {S : Addr → Prop} {H : Hp} : ∀ {xs : List V} {ps : List I2}, DnA S H xs (ps.map pairD) → xs.map (keyI H) = ps ∧ ∀ x ∈ xs, ∃ t, x = V.ref t ∧ H t = some (.tup [.int (keyI H x).1, .str (keyI H x).2])
  | _, [], h => by
    cases h
    exact ⟨rfl, fun x z => nomatch z⟩
  | _, p :: ps, h => by
    cases h with
    | cons h t =>
      obtain ⟨i1, i2⟩ := keyI_all t
      obtain ⟨a, rfl, _, ha⟩ := pairD_ex h
      have e := keyI_at ha
      refine ⟨by rw [List.map_cons, i1, e], fun x hx => ?_⟩
      rcases List.mem_cons.mp hx with z | z
      · subst z
        exact ⟨a, rfl, by rw [e]; exact ha⟩
      · exact i2 x z
end Fc
set_option maxHeartbeats 4000000
/-! any, all of a generator expression whose element may do anything that Z stands for (defs with generators of their own too). -/
namespace Fc
open PySem PySem.Spec PyProof.Rows L2
section
variable {prog : Program} {w : World}
/-- what is told of a turn -/
def LR (Ze : Shared → Prop) : GenEnd := fun n s0 r s1 => r = .ok .next ∧ n = 0 ∧ Ze s1
def LY (Z : Nat → Shared → Prop) (f : Nat → Bool) (n0 : Nat) : Protocol := fun m s0 v s kap => v = .bool (f (n0 - 1 - m)) ∧ Z (n0 - m) s ∧ ∀ s2, Z (n0 - m) s2 → kap (.send .none) s2
/-- one turn: the next item, the name, the element; the end -/
structure Loud (prog : Program) (w : World) (A' : Around) (cenv : Env) (x : Str) (px : Pos) (elt : Expr) (I : Addr) (f : Nat → Bool) (n0 : Nat) (Z : Nat → Shared → Prop) (Ze : Shared → Prop) : Prop where
  turn : ∀ (i : Nat) (s : Shared), i < n0 → Z i s → wpAny (model prog w) A' (pyNext (.ref I)) (fun r s1 => ∃ v, r = some v ∧ wpAny (model prog w) A' (letOwnedTupleGo (.Name x px) (.ref I) v) (fun _ s2 => wpAny (model prog w) A' (assign (.Name x px) cenv v) (fun _ s3 =>
    wpAny (model prog w) A' (eval elt cenv) (fun y s4 => y = .bool (f i) ∧ Z (i + 1) s4) (fun _ _ => False) s3) (fun _ _ => False) s2) (fun _ _ => False) s1) (fun _ _ => False) s
  done : ∀ (s : Shared), Z n0 s → wpAny (model prog w) A' (pyNext (.ref I)) (fun r s1 => r = none ∧ Ze s1) (fun _ _ => False) s
variable {A : Around} {elt iter : Expr} {x : Str} {px : Pos} {scope : Scope} {pos : Pos} {I : Addr} {n0 : Nat} {cenv : Env} {f : Nat → Bool} {Z : Nat → Shared → Prop} {Ze : Shared → Prop}
abbrev gLoop (elt iter : Expr) (x : Str) (px : Pos) (scope : Scope) (pos : Pos) (I : Addr) (cenv : Env) : Code := .compLoop (.GeneratorExp elt [⟨.Name x px, iter, [], 0⟩] scope pos) 0 (.ref I) .none cenv
abbrev gStart (elt iter : Expr) (x : Str) (px : Pos) (scope : Scope) (pos : Pos) (I : Addr) (cenv : Env) : Code := .compStart (.GeneratorExp elt [⟨.Name x px, iter, [], 0⟩] scope pos) 0 (.ref I) .none cenv
theorem seg_loud (hco : cenv.scope.isCoroutine = false) (L : Loud prog w (A.over (gLoop elt iter x px scope pos I cenv) []) cenv x px elt I f n0 Z Ze) :
    ∀ (k i : Nat) (s0 s : Shared), n0 - i = k → i ≤ n0 → Z i s → Seg (model prog w) A (LR Ze) (LY Z f n0) k s0 (gLoop elt iter x px scope pos I cenv) ((model prog w).den (gLoop elt iter x px scope pos I cenv)) [] s := by
  intro k
  induction k with
  | zero =>
    intro i s0 s hk hi hz
    have e : i = n0 := by omega
    subst e
    show Seg _ A _ _ _ s0 _ ((compTurn (.GeneratorExp elt [⟨.Name x px, iter, [], 0⟩] scope pos) 0 (.ref I) .none cenv).onRaise (leaving cenv)) [] s
    rw [compTurn_gen, Sem.onRaise_eq_wrap]
    refine seg_bind_wrap (wpAny_standAt (seg_bind_wrap (wpAny_mono (L.done s hz) (fun r s1 h1 => ?_) fun _ _ e => e.elim)))
    obtain ⟨rfl, z1⟩ := h1
    exact seg_end (.ok .next) ⟨rfl, rfl, z1⟩
  | succ k ih =>
    intro i s0 s hk hi hz
    have hlt : i < n0 := by omega
    show Seg _ A _ _ _ s0 _ ((compTurn (.GeneratorExp elt [⟨.Name x px, iter, [], 0⟩] scope pos) 0 (.ref I) .none cenv).onRaise (leaving cenv)) [] s
    rw [compTurn_gen, Sem.onRaise_eq_wrap]
    refine seg_bind_wrap (wpAny_standAt (seg_bind_wrap (wpAny_mono (L.turn i s hlt hz) (fun r s1 h1 => ?_) fun _ _ e => e.elim)))
    obtain ⟨v, rfl, h1⟩ := h1
    refine seg_bind_wrap (wpAny_mono h1 (fun _ s1b h1b => ?_) fun _ _ e => e.elim)
    refine seg_bind_wrap (wpAny_mono h1b (fun _ s2 h2 => ?_) fun _ _ e => e.elim)
    refine seg_bind_wrap (m := forIn [] true _) ?_
    rw [List.forIn_nil]
    refine wpAny_pure ?_
    simp only [if_true]
    have hy : ∀ v, yieldOut cenv v = yieldValue v := fun v => by simp only [yieldOut, hco, Bool.false_eq_true, if_false]
    simp only [hy]
    rw [Sem.bind_eq_wrap', Sem.bind_eq_wrap', Sem.wrap_wrap, Sem.wrap_wrap]
    refine seg_wrap (wpAny_mono h2 (fun y s3 h3 => ?_) fun _ _ e => e.elim)
    obtain ⟨rfl, z3⟩ := h3
    have e1 : n0 - 1 - k = i := by omega
    have e2 : n0 - k = i + 1 := by omega
    refine seg_at (seg_yield rfl rfl rfl ⟨by show Value.bool (f i) = Value.bool (f (n0 - 1 - k)); rw [e1], by show Z (n0 - k) s3; rw [e2]; exact z3, fun s'' hz2 => ?_⟩)
    have hz2 : Z (n0 - k) s'' := hz2
    rw [e2] at hz2
    exact seg_again rfl (ih (i + 1) s'' s'' (by omega) hlt hz2)
theorem seg_loud0 (hco : cenv.scope.isCoroutine = false) (L : Loud prog w (A.over (gLoop elt iter x px scope pos I cenv) []) cenv x px elt I f n0 Z Ze)
    (hself : ∀ (s : Shared), Z 0 s → wpAny (model prog w) (A.over (gStart elt iter x px scope pos I cenv) []) (pyIter (.ref I)) (fun v s1 => v = .ref I ∧ Z 0 s1) (fun _ _ => False) s) (s0 s : Shared) (hz : Z 0 s) :
    Seg (model prog w) A (LR Ze) (LY Z f n0) n0 s0 (gStart elt iter x px scope pos I cenv) ((model prog w).den (gStart elt iter x px scope pos I cenv)) [] s := by
  have loop : ∀ s, Z 0 s → _ := fun s hz => seg_loud (iter := iter) (scope := scope) (pos := pos) hco L n0 0 s0 s (Nat.sub_zero _) (Nat.zero_le _) hz
  show Seg _ A _ _ _ s0 _ ((compStart (.GeneratorExp elt [⟨.Name x px, iter, [], 0⟩] scope pos) 0 (.ref I) .none cenv).onRaise (leaving cenv)) [] s
  unfold compStart
  rw [Sem.onRaise_eq_wrap]
  show Seg _ A _ _ _ s0 _ ((ask >>= _).wrap _ _ _ _) [] s
  refine seg_bind_wrap (wpAny_askSetting ?_)
  split
  · exact seg_again rfl (loop s hz)
  · first
      | (refine seg_bind_wrap (wpAny_rule (seg_bind_wrap (wpAny_standAt (seg_bind_wrap (wpAny_mono (hself s hz) (fun v s1 h1 => ?_) fun _ _ e => e.elim))))); obtain ⟨rfl, z1⟩ := h1; exact seg_again rfl (loop s1 z1))
      | (refine seg_bind_wrap (wpAny_rule ?_); show Seg _ A _ _ _ s0 _ ((standAt iter.pos >>= _).wrap _ _ _ _) [] s; refine seg_bind_wrap (wpAny_standAt (seg_bind_wrap (wpAny_mono (hself s hz) (fun v s1 h1 => ?_) fun _ _ e => e.elim))); obtain ⟨rfl, z1⟩ := h1; exact seg_again rfl (loop s1 z1))
/-- what Z has to say of the generator a, the g-th -/
structure ZOk (a : Addr) (g : Nat) (Z : Nat → Shared → Prop) (Ze Zf : Shared → Prop) : Prop where
  gen : ∀ j s, Z j s → s.heap.IsGen a g ∧ s.heap.NoLimit ∧ g < s.gens.size
  set : ∀ j s gs, gs.bare = true → Z j s → Z j (s.setGen g gs)
  fin : ∀ s gs h', gs.bare = true → Ze s → (∀ b o, s.heap.get? b = some o → h'.get? b = some o) → Zf { s.setGen g gs with heap := h' }
  left : ∀ j s, Z j s → Zf s
structure GenL (prog : Program) (w : World) (A : Around) (g : Nat) (f : Nat → Bool) (n0 : Nat) (Z : Nat → Shared → Prop) (Ze : Shared → Prop) (j : Nat) (s : Shared) : Prop where
  z : Z j s
  go : ∃ gs, s.gens[g]? = some gs ∧ ∀ s2, Z j s2 → gs.Goes (model prog w) A.in1 (LR Ze) (LY Z f n0) (n0 - j) (.send .none) s2
variable {a : Addr} {g : Nat} {Zf : Shared → Prop} {E : Value → Shared → Prop} {s : Shared} {j : Nat}
theorem loud_next {Q : Option Value → Shared → Prop} (hh : A.handled = none) (hroom : A.depth < recursionLimit) (O : ZOk a g Z Ze Zf) (hj : j < n0) (G : GenL prog w A g f n0 Z Ze j s) (hQ : ∀ s', GenL prog w A g f n0 Z Ze (j + 1) s' → Q (some (.bool (f j))) s') :
    wpAny (model prog w) A (pyNext (.ref a)) Q E s := by
  obtain ⟨hz, gs, hgs, hgo⟩ := G
  obtain ⟨hg, hl, hlt⟩ := O.gen j s hz
  obtain ⟨m, hm⟩ : ∃ m, n0 - j = m + 1 := ⟨n0 - j - 1, by omega⟩
  have go := hgo _ (O.set j s .running rfl hz)
  rw [hm] at go
  refine wpAny_pyNext_genexpQ (P := fun n s0 s1 => n = 0 ∧ Ze s1) hh hl hroom hg hgs go (fun v s1 gs' hb hv => ?_) (fun s1 hp h' hk => absurd hp.1 (Nat.succ_ne_zero m))
  obtain ⟨ev, z1, kap⟩ := hv
  have e1 : n0 - 1 - (m + 1 - 1) = j := by omega
  have e2 : n0 - (m + 1 - 1) = j + 1 := by omega
  have e3 : n0 - (j + 1) = m := by omega
  rw [e1] at ev
  rw [e2] at z1 kap
  subst ev
  obtain ⟨_, _, lt1⟩ := O.gen _ _ z1
  refine hQ _ ⟨O.set _ _ gs' hb z1, gs', setGen_self (Array.getElem?_eq_getElem lt1), fun s2 z2 => ?_⟩
  rw [e3]
  exact kap s2 z2
theorem loud_done {Q : Option Value → Shared → Prop} (hh : A.handled = none) (hroom : A.depth < recursionLimit) (O : ZOk a g Z Ze Zf) (G : GenL prog w A g f n0 Z Ze n0 s) (hQ : ∀ s', Zf s' → Q none s') : wpAny (model prog w) A (pyNext (.ref a)) Q E s := by
  obtain ⟨hz, gs, hgs, hgo⟩ := G
  obtain ⟨hg, hl, hlt⟩ := O.gen n0 s hz
  have go := hgo _ (O.set n0 s .running rfl hz)
  rw [Nat.sub_self] at go
  refine wpAny_pyNext_genexpQ (P := fun n s0 s1 => n = 0 ∧ Ze s1) hh hl hroom hg hgs go (fun v s1 gs' hb hv => ?_) (fun s1 hp h' hk => hQ _ (O.fin s1 .finished h' rfl hp.2 hk))
  obtain ⟨_, z1, kap⟩ := hv
  exact False.elim (kap s1 z1)
theorem loud_all {R : Result → Shared → Prop} (hh : A.handled = none) (hroom : A.in1.depth < recursionLimit) (O : ZOk a g Z Ze Zf) : ∀ (k i : Nat) (s : Shared), n0 - i = k → i ≤ n0 → GenL prog w A.in1 g f n0 Z Ze i s →
    (∀ s', Zf s' → R (.ok (.ret (.bool (((List.range n0).drop i).all f)))) s') → codeAny (model prog w) A (.builtin "all.loop" ⟨[.ref a], []⟩) R s := by
  intro k
  induction k with
  | zero =>
    intro i s hk hi G hR
    have e : i = n0 := by omega
    subst e
    refine codeAny_builtin PySem.F.entry_all_loop ?_
    rw [Around.under_plainId PySem.F.plain_all_loop _]
    show wpAny _ A.in1 (pyNext (.ref a) >>= _) _ _ s
    refine wpAny_bind (loud_done hh hroom O G fun s' z => ?_)
    refine wpAny_bind (wpAny_rule (wpAny_pure ?_))
    have q := hR s' z
    rw [List.drop_of_length_le (by simp)] at q
    exact q
  | succ k ih =>
    intro i s hk hi G hR
    have hlt : i < n0 := by omega
    have hd : (List.range n0).drop i = i :: (List.range n0).drop (i + 1) := by
      rw [List.drop_eq_getElem_cons (by simpa using hlt)]
      simp
    refine codeAny_builtin PySem.F.entry_all_loop ?_
    rw [Around.under_plainId PySem.F.plain_all_loop _]
    show wpAny _ A.in1 (pyNext (.ref a) >>= _) _ _ s
    refine wpAny_bind (loud_next hh hroom O hlt G fun s' G' => ?_)
    refine wpAny_bind (wpAny_holding (wpAny_truthy_bool ?_))
    refine wpAny_bind (wpAny_letGo ?_)
    cases hb : f i with
    | true =>
      simp only [if_true]
      refine wpAny_pure ⟨plainId_quiet PySem.F.plain_all_loop _, ih (i + 1) _ (by omega) hlt G' fun s'' z => ?_⟩
      have q := hR s'' z
      rw [hd, List.all_cons, hb, Bool.true_and] at q
      exact q
    | false =>
      simp only [Bool.false_eq_true, if_false]
      refine wpAny_bind (wpAny_rule (wpAny_pure ?_))
      have q := hR s' (O.left _ _ G'.z)
      rw [hd, List.all_cons, hb, Bool.false_and] at q
      exact q
theorem loud_any {R : Result → Shared → Prop} (hh : A.handled = none) (hroom : A.in1.depth < recursionLimit) (O : ZOk a g Z Ze Zf) : ∀ (k i : Nat) (s : Shared), n0 - i = k → i ≤ n0 → GenL prog w A.in1 g f n0 Z Ze i s →
    (∀ s', Zf s' → R (.ok (.ret (.bool (((List.range n0).drop i).any f)))) s') → codeAny (model prog w) A (.builtin "any.loop" ⟨[.ref a], []⟩) R s := by
  intro k
  induction k with
  | zero =>
    intro i s hk hi G hR
    have e : i = n0 := by omega
    subst e
    refine codeAny_builtin PySem.F.entry_any_loop ?_
    rw [Around.under_plainId PySem.F.plain_any_loop _]
    show wpAny _ A.in1 (pyNext (.ref a) >>= _) _ _ s
    refine wpAny_bind (loud_done hh hroom O G fun s' z => ?_)
    refine wpAny_bind (wpAny_rule (wpAny_pure ?_))
    have q := hR s' z
    rw [List.drop_of_length_le (by simp)] at q
    exact q
  | succ k ih =>
    intro i s hk hi G hR
    have hlt : i < n0 := by omega
    have hd : (List.range n0).drop i = i :: (List.range n0).drop (i + 1) := by
      rw [List.drop_eq_getElem_cons (by simpa using hlt)]
      simp
    refine codeAny_builtin PySem.F.entry_any_loop ?_
    rw [Around.under_plainId PySem.F.plain_any_loop _]
    show wpAny _ A.in1 (pyNext (.ref a) >>= _) _ _ s
    refine wpAny_bind (loud_next hh hroom O hlt G fun s' G' => ?_)
    refine wpAny_bind (wpAny_holding (wpAny_truthy_bool ?_))
    refine wpAny_bind (wpAny_letGo ?_)
    cases hb : f i with
    | false =>
      simp only [Bool.false_eq_true, if_false]
      refine wpAny_pure ⟨plainId_quiet PySem.F.plain_any_loop _, ih (i + 1) _ (by omega) hlt G' fun s'' z => ?_⟩
      have q := hR s'' z
      rw [hd, List.any_cons, hb, Bool.false_or] at q
      exact q
    | true =>
      simp only [if_true]
      refine wpAny_bind (wpAny_rule (wpAny_pure ?_))
      have q := hR s' (O.left _ _ G'.z)
      rw [hd, List.any_cons, hb, Bool.true_or] at q
      exact q
theorem call_all_loud {Q : Value → Shared → Prop} (hh : A.handled = none) (hroom : A.in1.depth < recursionLimit) (O : ZOk a g Z Ze Zf) (G : GenL prog w A.in1 g f n0 Z Ze 0 s) (hQ : ∀ s', Zf s' → Q (.bool ((List.range n0).all f)) s') :
    wpAny (model prog w) A (call (.builtin "all") [.ref a]) Q E s := by
  refine call_function_tree PySem.F.kind_all PySem.F.plain_all PySem.F.entry_all (PySem.F.args_all1 _) ?_
  unfold Builtin.«all»
  refine wpAny_bind (m := oneArg "all" _) (wpAny_pure ?_)
  refine wpAny_bind (wpAny_pyIter_gen (O.gen 0 s G.z).1 ?_)
  exact wpAny_pure ⟨plainId_quiet PySem.F.plain_all_loop _, loud_all hh hroom O n0 0 s rfl (Nat.zero_le _) G fun s' z => by simpa using hQ s' z⟩
theorem call_any_loud {Q : Value → Shared → Prop} (hh : A.handled = none) (hroom : A.in1.depth < recursionLimit) (O : ZOk a g Z Ze Zf) (G : GenL prog w A.in1 g f n0 Z Ze 0 s) (hQ : ∀ s', Zf s' → Q (.bool ((List.range n0).any f)) s') :
    wpAny (model prog w) A (call (.builtin "any") [.ref a]) Q E s := by
  refine call_function_tree PySem.F.kind_any PySem.F.plain_any PySem.F.entry_any (PySem.F.args_any1 _) ?_
  unfold Builtin.«any»
  refine wpAny_bind (m := oneArg "any" _) (wpAny_pure ?_)
  refine wpAny_bind (wpAny_pyIter_gen (O.gen 0 s G.z).1 ?_)
  exact wpAny_pure ⟨plainId_quiet PySem.F.plain_any_loop _, loud_any hh hroom O n0 0 s rfl (Nat.zero_le _) G fun s' z => by simpa using hQ s' z⟩
/-- a generator fresh from its making -/
theorem loud_fresh (hco : cenv.scope.isCoroutine = false) (L : Loud prog w (A.in1.over (gLoop elt iter x px scope pos I cenv) []) cenv x px elt I f n0 Z Ze)
    (hself : ∀ (s : Shared), Z 0 s → wpAny (model prog w) (A.in1.over (gStart elt iter x px scope pos I cenv) []) (pyIter (.ref I)) (fun v s1 => v = .ref I ∧ Z 0 s1) (fun _ _ => False) s) (hz : Z 0 s)
    (hg : s.gens[g]? = some (.fresh (gStart elt iter x px scope pos I cenv))) : GenL prog w A g f n0 Z Ze 0 s :=
  ⟨hz, _, hg, fun s2 z2 => ⟨rfl, seg_loud0 (A := A.in1) hco L hself s2 s2 z2⟩⟩
end
end Fc
set_option maxHeartbeats 4000000
/-! The generator's own frame as a context of the layer. -/
namespace Fc
open PySem PySem.Spec PyProof.Rows L2
def gEnv (X : Cx) (scope : Scope) (C : Addr) (code : Value) : Env := genEnv scope (cloFrom X.env.cells scope.names []) C code builtinsNs X.env
def genX (X : Cx) (scope : Scope) (code : Value) (fp : List Addr) (s4 : Shared) (H4 : Hp) (A' : Around) (x : Str) (caps : List Str) (a : Addr) (ob : Obj) : Cx :=
  { prog := X.prog, w := X.w, K := X.K, mg := X.mg, base := X.base, A := A', N := x :: caps, s_0 := s4, H_0 := H4, env := gEnv X scope s4.heap.objs.size code, outer := X.stack, stack := gEnv X scope s4.heap.objs.size code :: X.stack, ex := fp, fn := fun _ => false, calm := true, pn := [(a, ob)], xe := fun _ _ => False }
section
variable {X : Cx} {pins : List (Addr × Obj)} {σ : L2.St} {H4 : Hp} {s4 : Shared} {scope : Scope} {x : Str} {code : Value} {fp : List Addr} {A' : Around} {a : Addr} {ob : Obj} {caps : List Str} {vals : List (Option V)}
theorem genX_ok (I : Inv X pins σ H4 s4) (S : GxR.GenS X.env scope x) (hfp : ∀ b ∈ fp, FpOk X pins H4 b ∧ b < s4.heap.objs.size) (hh : A'.handled = none) (hfr : A'.frames = some (gEnv X scope s4.heap.objs.size code :: X.stack)) : (genX X scope code fp s4 H4 A' x caps a ob).Ok := by
  have mem : ∀ {y c}, (cloFrom X.env.cells scope.names []).lookup y = some c → X.env.cells.lookup y = some c := fun {y c} e => by
    rcases cloFrom_mem (PySem.mem_of_lookup e) with hm | ⟨h1, rfl⟩
    · cases hm
    · obtain ⟨c, hc⟩ := S.free _ h1 rfl
      have hc : X.env.cells.lookup y = some c := hc
      rw [hc]
      rfl
  refine ⟨I.ok.mod, S.kind, I.ok.glob, rfl, Nat.le_refl _, fun y z c e1 e2 => I.ok.inj y z c (mem e1) (mem e2), fun y hy => ?_, (fun y c z => nomatch z), fun _ => hh, hfr, .inr ⟨rfl, rfl⟩, fun b hb => ⟨?_, fun y c e z => ?_⟩, I.bs, Nat.le_trans I.ok.bsz I.sz, fun b o e hb => ?_, fun b hb z => ?_, I.stack, I.stkFree⟩
  · have hy : scope.names.lookup y = some .cell ∨ scope.names.lookup y = some .free := hy
    rcases hy with hy | hy
    · exact (S.cell _ (PySem.mem_of_lookup hy) rfl).elim
    · exact mem_lookup (cloFrom_has (cells := X.env.cells) (acc := []) (PySem.mem_of_lookup hy))
  · exact Nat.ne_of_lt (hfp b hb).2
  · exact (hfp b hb).1.2.2.2.2.1 y c (mem e) z
  · rcases (hfp b hb).1.2.2.2.1 with q | q
    · exact I.ok.noex b o e q
    · exact absurd (Heap.lt_size e) (Nat.not_lt.mpr (Nat.le_trans I.ok.bsz q))
  · have q := I.stkSub b z
    rcases List.mem_cons.mp q with q | q
    · exact (hfp b hb).1.2.1 q
    · exact (hfp b hb).1.2.2.1 q
theorem genX_inv {g' : Array GenState} {t' : Nat} {h' : Heap} {m : Str → Option Value} (I : Inv X pins σ H4 s4) (S : GxR.GenS X.env scope x) (hfp : ∀ b ∈ fp, FpOk X pins H4 b ∧ b < s4.heap.objs.size) (hh : A'.handled = none) (hfr : A'.frames = some (gEnv X scope s4.heap.objs.size code :: X.stack))
    (k : ∀ b o, s4.heap.get? b = some o → h'.get? b = some o) (hn : h'.Ns s4.heap.objs.size m) (ha : s4.heap.objs.size < a) (hat : h'.get? a = some ob) (hd : ∀ v, ob.data ≠ .cell v) (hg : AllBare g') (hl : vals.length = caps.length)
    (hc : ∀ (i : Nat) (y : Str) (v : V), caps[i]? = some y → vals[i]? = some (some v) → scope.names.lookup y = some .free ∧ ∃ u c, RelV v u ∧ X.env.cells.lookup y = some c ∧ s4.heap.IsCell c (some u)) :
    Inv (genX X scope code fp s4 H4 A' x caps a ob) [] (none :: vals) H4 { s4 with heap := h', gens := g', toks := t' } := by
  have mem : ∀ {y c}, (cloFrom X.env.cells scope.names []).lookup y = some c → X.env.cells.lookup y = some c := fun {y c} e => by
    rcases cloFrom_mem (PySem.mem_of_lookup e) with hm | ⟨h1, rfl⟩
    · cases hm
    · obtain ⟨c, hc⟩ := S.free _ h1 rfl
      have hc : X.env.cells.lookup y = some c := hc
      rw [hc]
      rfl
  have nC : H4 s4.heap.objs.size = none := I.hok.fresh (Nat.le_refl _)
  have na : H4 a = none := I.hok.fresh (Nat.le_of_lt ha)
  refine ⟨genX_ok I S hfp hh hfr, rfl, hg, Un.kept k, ⟨m, hn, fun i y v hi hv => ?_⟩, fun y c e => ?_, nC, fun y c e => I.freeC y c (mem e), fun p hp => ?_, (I.kept (t' := t') k).hok, congrArg Nat.succ hl⟩
  · cases i with
    | zero => cases hv
    | succ i =>
      have hi : caps[i]? = some y := hi
      have hv : vals[i]? = some (some v) := hv
      obtain ⟨fr, u, c, ru, ec, ic⟩ := hc i y v hi hv
      obtain ⟨c', e'⟩ := mem_lookup (cloFrom_has (cells := X.env.cells) (acc := []) (PySem.mem_of_lookup fr))
      have ee := mem e'
      rw [ec] at ee
      cases ee
      exact fun _ => ⟨u, ru, .inr ⟨.inr fr, c, e', ic.keeps k⟩⟩
  · obtain ⟨v, hv⟩ := I.cell y c (mem e)
    exact ⟨v, hv.keeps k⟩
  · have e : p = (a, ob) := by simpa [genX] using hp
    subst e
    refine ⟨hat, na, Nat.ne_of_gt ha, fun z => ?_, hd⟩
    have q := I.stkSub a z
    rcases List.mem_cons.mp q with q | q
    · have lt := I.lt
      have q : a = X.env.locals := q
      rw [← q] at lt
      exact absurd lt (Nat.not_lt.mpr (Nat.le_of_lt ha))
    · exact I.nofs (Nat.le_of_lt ha) q
/-- other generators' states are nothing to it -/
theorem Inv.gens {s : Shared} {H : Hp} (J : Inv X pins σ H s) {g' : Array GenState} (hg : AllBare g') : Inv X pins σ H { s with gens := g' } := ⟨J.ok, J.os, hg, J.base, J.loc, J.cell, J.free, J.freeC, J.pin, J.hok, J.len⟩
theorem bare_set {s : Shared} {g : Nat} {gs : GenState} (h : AllBare s.gens) (hb : gs.bare = true) : AllBare (s.setGen g gs).gens := by
  intro y hy
  have hy : y ∈ s.gens.setIfInBounds g gs := hy
  rcases Array.mem_or_eq_of_mem_setIfInBounds hy with z | z
  · exact h y z
  · rw [z]
    exact hb
/-- back in the def's context -/
theorem genX_back {σ' : L2.St} {H6 : Hp} {s6 : Shared} (I : Inv X pins σ H4 s4) (hfp : ∀ b ∈ fp, FpOk X pins H4 b ∧ b < s4.heap.objs.size) (J : Inv (genX X scope code fp s4 H4 A' x caps a ob) [] σ' H6 s6) : Inv X pins σ H6 s6 :=
  I.call' (ch := fp) J.os J.base J.hok J.bare fun b hb => ⟨(hfp b hb).1.2.2.2.1, (hfp b hb).1.2.1, (hfp b hb).1.2.2.2.2.1, (hfp b hb).1.2.2.2.2.2⟩
end
end Fc
set_option maxHeartbeats 4000000
/-! all(..), any(..) of a generator expression whose element is any expression of the layer. -/
namespace Fc
open PySem PySem.Spec PyProof.Rows L2
theorem loud_room {A : Around} {k : Nat} {elt iter : Expr} {x : Str} {px : Pos} {scope : Scope} {pos : Pos} {I : Addr} {cenv : Env} (r : Room (k + 1) A) : Room k (A.in1.in1.over (gLoop elt iter x px scope pos I cenv) []) := by
  refine ⟨r.hd, ?_, ?_⟩
  · have z := r.dp
    show A.depth + 0 + 1 + 3 * k + 5 < _
    omega
  · have z := r.un
    show A.units + 1 + 1 + 0 + 3 + 16 * k + 200 < _
    omega
theorem loud_frames {X : Cx} {l : List Env} {elt iter : Expr} {x : Str} {px : Pos} {scope : Scope} {pos : Pos} {I : Addr} {cenv : Env} (h : X.A.frames = some l) : (X.A.in1.in1.over (gLoop elt iter x px scope pos I cenv) []).frames = some (cenv :: l) := by
  show pushEnvs [cenv] (pushEnvs [] X.A.frames) = _
  rw [h]
  rfl
/-- what is asked of the walk: n0 turns, the i-th test f i -/
def LoudW (J : It) (te : TE) (vals : List (Option V)) (n0 : Nat) (f : Nat → Bool) (Wv : Nat → Hp → Prop) : Prop :=
  (∀ i H, i < n0 → Wv i H → J.go i H ∧ ∀ y H', J.yld i H y H' → te (some y :: vals) H' fun z H3 => z = .bl (f i) ∧ Wv (i + 1) H3) ∧ ∀ H, Wv n0 H → J.stop n0 H
/-- captured names' values: their places in the def's -/
def capV (σ : L2.St) (caps : List (Str × Nat)) : List (Option V) := caps.map fun p => (σ[p.2]?).getD none
def capOk (N : List Str) (sc scope : Scope) (caps : List (Str × Nat)) : Bool := caps.all fun p => decide (N[p.2]? = some p.1) && (decide (scope.names.lookup p.1 = some .free) && decide (sc.names.lookup p.1 = some .cell))
section
variable {X : Cx}
theorem loud_gen {pins : List (Addr × Obj)} {σ : L2.St} {H : Hp} {s : Shared} {c P : Addr} {elt iter : Expr} {x : Str} {px gp : Pos} {scope : Scope} {wi : TI} {te : TE} {k : Nat} {caps : List (Str × Nat)} {Qg : Value → Shared → Prop} {R : Nat → (Nat → Bool) → Hp → Prop}
    (hr : Room (k + 1) X.A) (hcp : capOk X.N X.env.scope scope caps = true) (hNd : (x :: caps.map (·.1)).Nodup) (TB : GxR.TabB X.base X.mg c P) (hcode : X.env.code = .ref c) (hS : genOk X.env.scope scope x = true) (hi : PI X (.Name x px) iter wi) (hs : ∀ v, genFold iter X.env v = pure v)
    (he : ∀ (code : Value) (fp : List Addr) (s4 : Shared) (H4 : Hp) (A' : Around) (a : Addr) (ob : Obj), Room k A' → PE (genX X scope code fp s4 H4 A' x (caps.map (·.1)) a ob) elt te) (I : Inv X pins σ H s)
    (h : wi σ H fun J H1 => GxR.TabG H1 P ∧ ∀ H2, GxR.Tabbed P H1 H2 → ∃ (n0 : Nat) (f : Nat → Bool) (Wv : Nat → Hp → Prop), Wv 0 H2 ∧ LoudW J te (capV σ caps) n0 f Wv ∧ ∀ i H3, Wv i H3 → R n0 f H3)
    (hQ : ∀ (a : Addr) (g : Nat) (n0 : Nat) (f : Nat → Bool) (Z : Nat → Shared → Prop) (Ze Zf : Shared → Prop) (s5 : Shared), ZOk a g Z Ze Zf → GenL X.prog X.w X.A.in1 g f n0 Z Ze 0 s5 → (∀ s', Zf s' → ∃ H2, Inv X pins σ H2 s' ∧ R n0 f H2) → Qg (.ref a) s5) :
    wpAny (model X.prog X.w) X.A (eval (.GeneratorExp elt [⟨.Name x px, iter, [], 0⟩] scope gp) X.env) Qg X.xe s := by
  have S := genOk_s I hS
  refine wpAny_GeneratorExp_make S.co (closure_ok S.free) S.cell S.dot S.kind (by have z := hr.dp; omega) ?_ hs
  refine wpAny_mono (hi.run pins s σ H _ I h) (fun v s1 h1 => wpAny_mono h1 (fun itv s2 h2 => ?_) fun _ _ e => e) fun _ _ e => e
  obtain ⟨it, fp, tn, J, H2, rfl, I2, T, st0, hfp, tabP, rest⟩ := h2
  obtain ⟨ps, hP, trip⟩ := tabP
  have atP : s2.heap.get? P = some { cls := .none, data := .fields ps } := I2.hok P _ hP
  have codeHd := TB.code.keeps (h' := s2.heap) fun b q e => I2.bk b q e
  have nP : ∀ b ∈ fp, b ≠ P := fun b hb e => by
    have z := (hfp b hb).1
    rw [e, hP] at z
    cases z
  have main : ∀ (code : Value) (h3 : Heap) (tk : Nat) (qs : Array Value), Heap.ExtBut P s2.heap h3 → s2.heap.objs.size ≤ h3.objs.size → h3.get? P = some { cls := .none, data := .fields qs } → (∃ more, qs = ps ++ more) → TriplesOk qs.toList →
      wpAny (model X.prog X.w) X.A (builtinsFor X.env.globals X.env.builtins) (fun bi s4 => ∀ h', h'.Ns s4.heap.objs.size (fun y => if y = ".0" then some (.ref it) else none) → Heap.SameBut s4.heap.objs.size (s4.heap.push { cls := .type "frame", data := .dict #[] }) h' →
        Qg (.ref h'.objs.size) { s4 with
          gens := s4.gens.push (.fresh (gStart elt iter x px scope gp it (genEnv scope (cloFrom X.env.cells scope.names []) s4.heap.objs.size code bi X.env))), toks := s4.toks + 1 + 1 + 1,
          heap := h'.push { cls := .type "generator", data := .fields #[.int s4.gens.size 0, .str "<genexpr>" (s4.toks + 1), .str (X.env.qual ++ "<genexpr>") (s4.toks + 1 + 1)] } }) X.xe { s2 with heap := h3, toks := tk } := by
    intro code h3 tk qs hx hsz hP3 hmore trip3
    obtain ⟨bm, obm, b1, b2, b3, b4, b5, b6, b7, b8⟩ := TB.bm
    have globals : h3.Ns X.env.globals X.mg := by
      rw [I2.ok.glob]
      exact (I2.mod.glob.keeps I2.bk).extBut hx TB.gP
    refine wpAny_builtinsFor globals b1 b2 (hx _ _ b4 (I2.bk _ _ b5)) b6 b7 b8 ?_
    intro h' hn' hs'
    obtain ⟨more, em⟩ := hmore
    have I4 : Inv X pins σ (upd H2 P (.tbl (ps ++ more))) { s2 with heap := h3, toks := tk } := GxR.inv_tab (g' := s2.gens) (d' := s2.drawn) I2 hP (fun b q nb e => hx b q nb e) (by rw [← em]; exact hP3) I2.bare
    have t4 : GxR.Tabbed P H2 (upd H2 P (.tbl (ps ++ more))) := ⟨⟨ps ++ more, upd_same, by rw [← em]; exact trip3⟩, fun b nb => upd_ne nb⟩
    obtain ⟨n0, f, Wv, w0, lw, wr⟩ := rest _ t4
    generalize upd H2 P (.tbl (ps ++ more)) = H4 at I4 t4 w0
    have hfp4 : ∀ b ∈ fp, FpOk X pins H4 b ∧ b < h3.objs.size := fun b hb => by
      obtain ⟨o, eo, _⟩ := T.obj _ _ st0 b hb
      refine ⟨⟨(t4.2 b (nP b hb)).trans (hfp b hb).1, (hfp b hb).2⟩, Nat.lt_of_lt_of_le (Heap.lt_size eo) hsz⟩
    have st4 : tn 0 h3 := T.keep _ _ _ st0 fun b hb o e => hx b o (nP b hb) e
    have hh : X.A.handled = none := hr.hd
    generalize hA : X.A.in1.in1.over (gLoop elt iter x px scope gp it (gEnv X scope h3.objs.size code)) [] = A'
    have hfr : A'.frames = some (gEnv X scope h3.objs.size code :: X.stack) := by
      rw [← hA]
      exact loud_frames I2.ok.frames
    have hrm : Room k A' := by
      rw [← hA]
      exact loud_room hr
    have hsz' : h'.objs.size = h3.objs.size + 1 := by
      have z := hs'.1
      rw [Heap.size_push] at z
      exact z
    generalize hob : ({ cls := .type "generator", data := .fields #[.int s2.gens.size 0, .str "<genexpr>" (tk + 1), .str (X.env.qual ++ "<genexpr>") (tk + 1 + 1)] } : Obj) = ob
    have hob1 : ob.cls = .type "generator" ∧ ob.data = .fields #[.int s2.gens.size 0, .str "<genexpr>" (tk + 1), .str (X.env.qual ++ "<genexpr>") (tk + 1 + 1)] ∧ ob.slots = #[] ∧ ob.dict = none := by
      rw [← hob]
      exact ⟨rfl, rfl, rfl, rfl⟩
    have keep5 : ∀ b o, h3.get? b = some o → (h'.push ob).get? b = some o := fun b o e => Heap.get?_push_of_some _ (hs'.extBut b o (Nat.ne_of_lt (Heap.lt_size e)) (Heap.get?_push_of_some _ e))
    have at5 : (h'.push ob).get? h'.objs.size = some ob := Heap.get?_push_size _ (by rw [← hob]; rfl)
    have cOk : ∀ (i : Nat) (y : Str) (v : V), (caps.map (·.1))[i]? = some y → (capV σ caps)[i]? = some (some v) → scope.names.lookup y = some .free ∧ ∃ u c, RelV v u ∧ X.env.cells.lookup y = some c ∧ h3.IsCell c (some u) := fun i y v hi hv => by
      unfold capV at hv
      rw [List.getElem?_map] at hi hv
      cases q : caps[i]? with
      | none =>
        rw [q] at hi
        cases hi
      | some p =>
        rw [q] at hi hv
        cases hi
        have hv : (σ[p.2]?).getD none = some v := Option.some.inj hv
        obtain ⟨c1, c2⟩ := Bool.and_eq_true_iff.mp (List.all_eq_true.mp hcp p (List.mem_of_getElem? q))
        obtain ⟨c2, c3⟩ := Bool.and_eq_true_iff.mp c2
        have c1 := of_decide_eq_true c1
        have c2 := of_decide_eq_true c2
        have c3 : X.env.scope.names.lookup p.1 = some .cell := of_decide_eq_true c3
        have hσ : σ[p.2]? = some (some v) := by
          cases w : σ[p.2]? with
          | none =>
            rw [w] at hv
            cases hv
          | some o =>
            rw [w] at hv
            exact congrArg some hv
        obtain ⟨m, _, look⟩ := I4.loc
        obtain ⟨u, ru, lk⟩ := look p.2 p.1 v c1 hσ (.inr (.inl c3))
        rcases lk with ⟨k1, _⟩ | ⟨_, c, e, ic⟩
        · have k1 : X.env.scope.names.lookup p.1 = some .local := k1
          rw [c3] at k1
          cases k1
        · exact ⟨c2, u, c, ru, e, ic⟩
    have J5 := genX_inv (x := x) (caps := caps.map (·.1)) (vals := capV σ caps) (g' := s2.gens.push (.fresh (gStart elt iter x px scope gp it (gEnv X scope h3.objs.size code)))) (t' := tk + 1 + 1 + 1) I4 S hfp4 hrm.hd hfr keep5 (hn'.push _) (a := h'.objs.size) (show h3.objs.size < h'.objs.size by omega) at5 (fun v z => by rw [hob1.2.1] at z; cases z) (AllBare.push I2.bare rfl) (by unfold capV; rw [List.length_map, List.length_map]) cOk
    have ltA : h3.objs.size < h'.objs.size := by omega
    generalize hX : genX X scope code fp { s2 with heap := h3, toks := tk } H4 A' x (caps.map (·.1)) h'.objs.size ob = X' at J5
    have xA : X'.A = A' := by rw [← hX] <;> rfl
    have xp : X'.prog = X.prog := by rw [← hX] <;> rfl
    have xw : X'.w = X.w := by rw [← hX] <;> rfl
    have xK : X'.K = X.K := by rw [← hX] <;> rfl
    have xc : X'.calm = true := by rw [← hX] <;> rfl
    have xe : X'.env = gEnv X scope h3.objs.size code := by rw [← hX] <;> rfl
    have xx : X'.xe = fun _ _ => False := by rw [← hX] <;> rfl
    have xN : X'.N = x :: caps.map (·.1) := by rw [← hX] <;> rfl
    have xn : X'.pn = [(h'.objs.size, ob)] := by rw [← hX] <;> rfl
    have xx2 : X'.ex = fp := by rw [← hX] <;> rfl
    have stat : ∀ {σ2 : L2.St} {H6 : Hp} {s6 : Shared}, Inv X' [] σ2 H6 s6 → (∀ b ∈ fp, H6 b = none) → ∀ b ∈ fp, FpOk X' [] H6 b := fun {σ2 H6 s6} J n b hb =>
      have hb2 : b ∈ X'.ex := by rw [xx2]; exact hb
      ⟨n b hb, (J.ok.exf b hb2).1, J.ok.exfs b hb2, .inl hb2, fun y c e => (J.ok.exf b hb2).2 y c e, fun p hp => by
        rw [xn] at hp
        have e : p = (h'.objs.size, ob) := by simpa using hp
        rw [e]
        have z := (hfp4 b hb).2
        exact Nat.ne_of_gt (Nat.lt_trans z ltA)⟩
    have PEe := he code fp { s2 with heap := h3, toks := tk } H4 A' h'.objs.size ob hrm
    rw [hX] at PEe
    have loc : Loc X'.env.scope x := by rw [xe]; exact Or.inl S.loc
    have PGx : PG X' (.Name x px) (gName 0) := pg_name (by rw [xN]; exact hNd) (by rw [xN]; rfl) loc (Or.inr (by rw [xe]; exact S.loc))
    have key : Qg (.ref h'.objs.size) { s2 with gens := s2.gens.push (.fresh (gStart elt iter x px scope gp it (gEnv X scope h3.objs.size code))), toks := tk + 1 + 1 + 1, heap := h'.push ob } := by
      refine hQ h'.objs.size s2.gens.size n0 f (fun i s => ∃ (o : Option V) (H6 : Hp), Inv X' [] (o :: capV σ caps) H6 s ∧ tn i s.heap ∧ (∀ b ∈ fp, H6 b = none) ∧ Wv i H6 ∧ s2.gens.size < s.gens.size) (fun s => ∃ (σ2 : L2.St) (H6 : Hp), Inv X' [] σ2 H6 s ∧ Wv n0 H6) (fun s => ∃ (i : Nat) (σ2 : L2.St) (H6 : Hp), Inv X' [] σ2 H6 s ∧ Wv i H6) _
        ⟨fun j s ⟨σ2, H6, J6, _, _, _, gz⟩ => ?_, fun j s gs hb ⟨o, H6, J6, st6, n6, w6, gz⟩ => ?_, fun s gs h6 hb ⟨σ2, H6, J6, w6⟩ hk => ?_, fun j s ⟨o, H6, J6, _, _, w6, _⟩ => ⟨j, _, H6, J6, w6⟩⟩ ?_ fun s' ⟨i, σ2, H6, J6, w6⟩ => ?_
      · obtain ⟨e, _⟩ := J6.pin (h'.objs.size, ob) (by rw [xn]; exact List.mem_cons_self)
        exact ⟨⟨ob, _, _, e, hob1.1, hob1.2.1, hob1.2.2.1⟩, J6.nolimit, gz⟩
      · exact ⟨o, H6, Fc.Inv.gens J6 (bare_set J6.bare hb), st6, n6, w6, by simpa [Shared.setGen] using gz⟩
      · exact ⟨n0, σ2, H6, (Fc.Inv.gens J6 (bare_set J6.bare hb)).kept (t' := s.toks) hk, w6⟩
      · refine loud_fresh (A := X.A.in1) (iter := iter) (scope := scope) (pos := gp) (cenv := gEnv X scope h3.objs.size code) S.co ?_ (fun s ⟨o, H6, J6, st6, r⟩ => T.self _ 0 s _ _ st6 ⟨rfl, o, H6, J6, st6, r⟩) ⟨_, H4, J5, T.keep _ _ _ st4 fun b hb o e => keep5 b o e, fun b hb => (hfp4 b hb).1.1, w0, ?_⟩ (Array.getElem?_push_size ..)
        · rw [hA]
          refine ⟨fun i s6 lt ⟨o, H6, J6, st6, n6, w6, gz⟩ => ?_, fun s6 ⟨o, H6, J6, st6, n6, w6, gz⟩ => ?_⟩
          · obtain ⟨go, step⟩ := lw.1 i H6 lt w6
            have ti := T.item X' xp xw xK xc i [] s6 (o :: capV σ caps) H6 (fun _ _ => False) J6 (stat J6 n6) st6 go
            rw [xA] at ti
            refine GenW.wpAny_gsz (n := s2.gens.size + 1) gz (wpAny_mono ti (fun r s7 hh7 hsz7 => ?_) fun _ _ e _ => e)
            obtain ⟨u, rfl, hh7⟩ := hh7
            refine ⟨u, rfl, GenW.wpAny_gsz (n := s2.gens.size + 1) hsz7 (wpAny_mono hh7 (fun _ s8 hh8 hsz8 => ?_) fun _ _ e _ => e)⟩
            obtain ⟨y, H8, J8, r8, y8, st8, n8⟩ := hh8
            have J8' := J8.pinned (stat J8 n8) (T.obj _ _ st8)
            have pg := PGx.run _ s8 (o :: capV σ caps) H8 y u (fun σ9 H9 => σ9 = some y :: capV σ caps ∧ H9 = H8) J8' r8 ⟨rfl, rfl⟩
            rw [xA, xe, xp, xw, xx] at pg
            refine GenW.wpAny_gsz (n := s2.gens.size + 1) hsz8 (wpAny_mono pg (fun _ s9 hh9 hsz9 => ?_) fun _ _ e _ => e)
            obtain ⟨σ9, H9, J9, rfl, rfl⟩ := hh9
            have pe := PEe.run _ s9 (some y :: capV σ caps) H9 _ J9 (step y H9 y8)
            rw [xA, xe, xp, xw, xx] at pe
            refine GenW.wpAny_gsz (n := s2.gens.size + 1) hsz9 (wpAny_mono pe (fun z s10 hh10 hsz10 => ?_) fun _ _ e _ => e)
            obtain ⟨zv, H10, J10, r10, e10, w10⟩ := hh10
            subst e10
            have ez : z = .bool (f i) := r10
            have pin' : ∀ b ∈ fp, ∀ o, s8.heap.get? b = some o → s10.heap.get? b = some o ∧ H10 b = none := fun b hb o e =>
              have zz := J10.pin (b, o) (List.mem_append_right _ (List.mem_append_right _ (mem_pinsAt hb e)))
              ⟨zz.1, zz.2.1⟩
            refine ⟨ez, _, H10, J10.unpinned (pins := []), T.keep _ _ _ st8 fun b hb o e => (pin' b hb o e).1, fun b hb => ?_, w10, hsz10⟩
            obtain ⟨o, e, _⟩ := T.obj _ _ st8 b hb
            exact (pin' b hb o e).2
          · have td := T.done X' xp xw xK xc n0 [] s6 (o :: capV σ caps) H6 (fun _ _ => False) J6 (stat J6 n6) st6 (lw.2 H6 w6)
            rw [xA] at td
            exact wpAny_mono td (fun r s7 hh7 => ⟨hh7.1, _, H6, hh7.2, w6⟩) fun _ _ e => e
        · show s2.gens.size < (s2.gens.push _).size
          rw [Array.size_push]
          exact Nat.lt_succ_self _
      · rw [← hX] at J6
        exact ⟨H6, genX_back I4 hfp4 J6, wr i H6 w6⟩
    exact key
  refine ⟨I2.nolimit, ?_⟩
  cases hc : codeAmong gp ps.toList with
  | none =>
    refine wpAny_genexprCodeX hcode (codeHd.code atP trip) (codeHd.tab atP) hc fun c' h' tk hx hge hlt hco _ htab _ => ?_
    obtain ⟨_, _, _, _, _, _, _, _, _, _, _, _, _, _, _, _, _, _, _, tr3, _⟩ := hco
    exact main _ h' tk _ hx (Nat.le_trans hge (Nat.le_of_lt hlt)) htab.2 ⟨_, rfl⟩ tr3
  | some cv =>
    refine wpAny_genexprCode_hit hcode (codeHd.code atP trip) hc ?_
    exact main cv _ s2.toks ps (Heap.ExtBut.refl _ _) (Nat.le_refl _) atP ⟨#[], by simp⟩ trip
/-- all(..), any(..): what is asked -/
def tGenL (b : Bool) (P : Addr) (wi : TI) (te : TE) (caps : List (Str × Nat)) : TE := fun σ H Q => wi σ H fun J H1 => GxR.TabG H1 P ∧ ∀ H2, GxR.Tabbed P H1 H2 → ∃ (n0 : Nat) (f : Nat → Bool) (Wv : Nat → Hp → Prop), Wv 0 H2 ∧ LoudW J te (capV σ caps) n0 f Wv ∧
  ∀ i H3, Wv i H3 → Q (.bl (if b = true then (List.range n0).all f else (List.range n0).any f)) H3
theorem pe_allL {c P : Addr} {elt iter : Expr} {x : Str} {px p pos gp : Pos} {scope : Scope} {wi : TI} {te : TE} {k : Nat} (caps : List (Str × Nat)) (hr : Room (k + 1) X.A) (hm : X.mg "all" = none) (TB : GxR.TabB X.base X.mg c P) (hcode : X.env.code = .ref c) (hi : PI X (.Name x px) iter wi)
    (he : ∀ (code : Value) (fp : List Addr) (s4 : Shared) (H4 : Hp) (A' : Around) (a : Addr) (ob : Obj), Room k A' → PE (genX X scope code fp s4 H4 A' x (caps.map (·.1)) a ob) elt te) (hg : Gl X "all" := by rfl)
    (hcp : capOk X.N X.env.scope scope caps = true := by rfl) (hNd : (x :: caps.map (·.1)).Nodup := by decide) (hS : genOk X.env.scope scope x = true := by rfl) (hs : ∀ v, genFold iter X.env v = pure v := by exact fun _ => rfl)
    (hst : starEach [.GeneratorExp elt [⟨.Name x px, iter, [], 0⟩] scope gp] X.env = (false, eval (.GeneratorExp elt [⟨.Name x px, iter, [], 0⟩] scope gp) X.env) :: starEach [] X.env := by rfl) :
    PE X (.Call (.Name "all" p) [.GeneratorExp elt [⟨.Name x px, iter, [], 0⟩] scope gp] [] pos) (tGenL true P wi te caps) := by
  refine ⟨fun pins s σ H Q I h => ?_⟩
  refine wpAny_Call_Name_kw (ld_blt I hg hm boot_all' ?_)
  refine PyProof.Rows.callWith_builtin1 ?_ hst (by rfl)
  rw [hst]
  show wpAny _ _ (spliced ((false, eval (.GeneratorExp elt [⟨.Name x px, iter, [], 0⟩] scope gp) X.env) :: backTo pos (starEach [] X.env))) _ _ s
  refine Calls.spliced_cons (loud_gen (R := fun n f H3 => Q (.bl ((List.range n).all f)) H3) hr hcp hNd TB hcode hS hi hs he I h fun a g n0 f Z Ze Zf s5 O G back => Calls.spliced_nil ?_)
  refine call_all_loud hr.hd (by have z := hr.dp; show X.A.depth < recursionLimit; omega) O G fun s' z => ?_
  obtain ⟨H2, J, q⟩ := back s' z
  exact ⟨.bl _, H2, J, rfl, q⟩
theorem pe_anyL {c P : Addr} {elt iter : Expr} {x : Str} {px p pos gp : Pos} {scope : Scope} {wi : TI} {te : TE} {k : Nat} (caps : List (Str × Nat)) (hr : Room (k + 1) X.A) (hm : X.mg "any" = none) (TB : GxR.TabB X.base X.mg c P) (hcode : X.env.code = .ref c) (hi : PI X (.Name x px) iter wi)
    (he : ∀ (code : Value) (fp : List Addr) (s4 : Shared) (H4 : Hp) (A' : Around) (a : Addr) (ob : Obj), Room k A' → PE (genX X scope code fp s4 H4 A' x (caps.map (·.1)) a ob) elt te) (hg : Gl X "any" := by rfl)
    (hcp : capOk X.N X.env.scope scope caps = true := by rfl) (hNd : (x :: caps.map (·.1)).Nodup := by decide) (hS : genOk X.env.scope scope x = true := by rfl) (hs : ∀ v, genFold iter X.env v = pure v := by exact fun _ => rfl)
    (hst : starEach [.GeneratorExp elt [⟨.Name x px, iter, [], 0⟩] scope gp] X.env = (false, eval (.GeneratorExp elt [⟨.Name x px, iter, [], 0⟩] scope gp) X.env) :: starEach [] X.env := by rfl) :
    PE X (.Call (.Name "any" p) [.GeneratorExp elt [⟨.Name x px, iter, [], 0⟩] scope gp] [] pos) (tGenL false P wi te caps) := by
  refine ⟨fun pins s σ H Q I h => ?_⟩
  refine wpAny_Call_Name_kw (ld_blt I hg hm boot_any ?_)
  refine PyProof.Rows.callWith_builtin1 ?_ hst (by rfl)
  rw [hst]
  show wpAny _ _ (spliced ((false, eval (.GeneratorExp elt [⟨.Name x px, iter, [], 0⟩] scope gp) X.env) :: backTo pos (starEach [] X.env))) _ _ s
  refine Calls.spliced_cons (loud_gen (R := fun n f H3 => Q (.bl ((List.range n).any f)) H3) hr hcp hNd TB hcode hS hi hs he I h fun a g n0 f Z Ze Zf s5 O G back => Calls.spliced_nil ?_)
  refine call_any_loud hr.hd (by have z := hr.dp; show X.A.depth < recursionLimit; omega) O G fun s' z => ?_
  obtain ⟨H2, J, q⟩ := back s' z
  exact ⟨.bl _, H2, J, rfl, q⟩
end
end Fc
set_option maxHeartbeats 4000000
/-! sorted of texts, however many. -/
namespace Fc
open PySem PySem.Spec PyProof.Rows L2
theorem swo_txt {α : Type} (k : α → Str) : SrtO.Swo fun v u => ltS (k v) (k u) := by
  refine ⟨fun x y h => ltS_asym h, fun x y z h1 h2 => ?_⟩
  have h1 : ltS (k y) (k x) = false := h1
  have h2 : ltS (k z) (k y) = false := h2
  show ltS (k z) (k x) = false
  cases c : ltS (k z) (k x) with
  | false => rfl
  | true =>
    rcases ltS_tri (k x) (k y) with q | q | q
    · rw [ltS_trans c q] at h2
      cases h2
    · rw [q] at c
      rw [c] at h2
      cases h2
    · rw [q] at h1
      cases h1
section
variable {prog : Program} {w : World} {A : Around} {E : Value → Shared → Prop} {s : Shared}
theorem key_txt {x y : Str} {t u : Tok} {Q : Bool → Shared → Prop} (h : Q (ltS x y) s) : wpAny (model prog w) A (keyLt' oneType' (.str x t) (.str y u)) Q E s := by
  rw [keyLt'_oneType]
  exact oneLt_str h
theorem txt_sortable {a : Addr} {vs : List Value} (h2 : 2 ≤ vs.length) (hv : ∀ v ∈ vs, ∃ x t, v = Value.str x t) : SrtO.SortableO prog w A s a vs fun v u => ltS (strOf v) (strOf u) := by
  intro h' keep
  refine ⟨oneType', fun Q E hq => ?_, fun p q hm hm' => ?_⟩
  · match vs, h2, hv with
    | v1 :: v2 :: rest, _, hv =>
      rw [keyKind_strs (strsAre_map _ hv)]
      exact wpAny_pure hq
  · obtain ⟨x, t, e⟩ := hv _ hm
    obtain ⟨y, u, e'⟩ := hv _ hm'
    show wpAny (model prog w) A (keyLt' oneType' p.1 q.1) (fun r s' => s' = _ ∧ r = ltS (strOf p.1) (strOf q.1)) (fun _ _ => False) _
    rw [e, e']
    exact key_txt ⟨rfl, rfl⟩
theorem rs_of_srt {vs out : List Value} (hs : SrtO.Srtd (fun v u => ltS (strOf v) (strOf u)) out) (nd : (out.map strOf).Nodup) : Rs (out.map strOf) := by
  induction out with
  | nil => exact List.Pairwise.nil
  | cons y r ih =>
    obtain ⟨h1, h2⟩ := List.pairwise_cons.mp hs
    obtain ⟨n1, n2⟩ := List.nodup_cons.mp nd
    refine List.pairwise_cons.mpr ⟨fun z hz => ?_, ih h2 n2⟩
    obtain ⟨u, hu, e⟩ := List.mem_map.mp hz
    have q : ltS (strOf u) (strOf y) = false := h1 u hu
    rw [← e]
    rcases ltS_tri (strOf y) (strOf u) with c | c | c
    · exact c
    · exact (n1 (by rw [c]; exact List.mem_map.mpr ⟨u, hu, rfl⟩)).elim
    · rw [c] at q
      cases q
end
section
variable {X : Cx}
/-- sorted(a set of texts), any number of them -/
def rSortSA (w : World) : List V → Hp → VK → Prop := fun vs H Q => ∃ (a : Addr) (l : List Str), vs = [.ref a] ∧ H a = some (SetSO w a l) ∧ l.length ≤ 1000 ∧ ∀ p, H p = none → Q (.ref p) (upd H p (.lst ((riseS l).map V.str)))
theorem cr_sortSA (hc : X.calm = true) : CallR X (.builtin "sorted") (rSortSA X.w) := by
  intro pins s σ H vs us Q I r h
  obtain ⟨a, l, rfl, ha, h1000, q⟩ := h
  have R := setSO_get I ha
  obtain ⟨o, es, ep, t, ho, hex, hd, g, pm, nd, hb, hf, hr, hl⟩ := R.ex
  rw [Vals.ref1 r]
  refine Calls.call_function_entry kind_sorted plain_sorted entry_sorted (args_sorted1 _) ?_
  unfold Builtin.«sorted»
  refine wpAny_bind (m := checkCount "sorted" 1 1 _) (wpAny_pure (wpAny_bind (collect_set (A := X.A.in1) (I.ok.hd hc) ⟨o, ho, hex.1, hd⟩ hf hb hr hl fun s1 vs k1 hz g1 o1 pv => ?_)))
  have esl : es.toList.length = l.length := by rw [← pm.length_eq, List.length_map]
  have vl : vs.length = l.length := by rw [pv.length_eq, List.length_map]; exact esl
  have isS : ∀ v ∈ vs, ∃ x t, v = Value.str x t := fun v hv => by
    obtain ⟨e, he, z⟩ := List.mem_map.mp (pv.mem_iff.mp hv)
    obtain ⟨k, tk, h1, _⟩ := g e he
    exact ⟨k, tk, by rw [← z]; exact h1⟩
  have pk : (vs.map strOf).Perm l := by
    refine ((pv.map strOf).trans ?_).trans pm
    rw [List.map_map]
    exact List.Perm.of_eq (List.map_congr_left fun e he => by
      obtain ⟨k, tk, h1, _⟩ := g e he
      show strOf e.2 = keyS e
      unfold keyS
      rw [h1]
      rfl)
  have vz : vs.length ≤ sizeLine := by rw [vl, sizeLine_eq]; omega
  refine wpAny_bind (wpAny_newList ?_ vz)
  have atL : (s1.heap.push (seqObj "list" vs.toArray 0)).get? s1.heap.objs.size = some (seqObj "list" vs.toArray 0) := Heap.get?_push_size _ rfl
  refine wpAny_bind (wpAny_holding (wpAny_call_entry slot_list_sort ⟨_, atL, rfl⟩ entry_list_sort (SrtO.list_sort_ord (swo_txt strOf) atL vz (fun h2 => txt_sortable h2 isS) fun out hs hb => ⟨_, rfl, ?_⟩) (args_list_sort _)))
  obtain ⟨c, hcap⟩ := sortedHeap_at (vs := vs) (out := out.toArray) atL
  have ps : (out.map strOf).Perm l := (hb.perm.map strOf).trans pk
  have rs : Rs (out.map strOf) := rs_of_srt (vs := vs) hs (ps.nodup_iff.mpr nd)
  have er : out.map strOf = riseS l := riseS_of rs fun x => ps.mem_iff
  have hn : H s1.heap.objs.size = none := I.hok.fresh hz
  have ol : out.length = l.length := by rw [← vl]; exact hb.perm.length_eq
  have hlen : ((riseS l).map V.str).length ≤ sizeLine := by rw [List.length_map, ← er, List.length_map, ol, sizeLine_eq]; omega
  have vals : Vals ((riseS l).map V.str) out.toArray.toList := by
    rw [← er, List.map_map]
    have key : ∀ L : List Value, (∀ v ∈ L, ∃ x t, v = Value.str x t) → Vals (L.map (V.str ∘ strOf)) L := by
      intro L
      induction L with
      | nil => exact fun _ => .nil
      | cons v L ih =>
        intro k
        obtain ⟨x, t, e⟩ := k v List.mem_cons_self
        subst e
        exact .cons ⟨t, rfl⟩ (ih fun u hu => k u (List.mem_cons_of_mem _ hu))
    exact key out fun v hv => isS v (hb.perm.mem_iff.mp hv)
  have keep : ∀ b u, s.heap.get? b = some u → (sortedHeap (s1.heap.push (seqObj "list" vs.toArray 0)) s1.heap.objs.size vs out.toArray).get? b = some u := fun b u e => by
    have z := k1 b u e
    have lt := Heap.lt_size z
    rw [sortedHeap_old (Nat.ne_of_lt lt) (by rw [size_push']; exact Nat.lt_succ_of_lt lt)]
    exact Heap.get?_push_of_some _ z
  refine wpAny_pure ⟨_, rfl, ?_⟩
  have J : Inv X pins σ (upd H s1.heap.objs.size (.lst ((riseS l).map V.str))) { s with heap := sortedHeap (s1.heap.push (seqObj "list" vs.toArray 0)) s1.heap.objs.size vs out.toArray, gens := s1.gens, drawn := s1.drawn, toks := s1.toks } :=
    I.call (ch := []) (Un.laid keep hz hn) (I.hok.laid keep hz ⟨hlen, _, c, vals, hcap⟩) (by rw [g1]; exact I.bare) (fun _ z => nomatch z)
  have e : ({ s1 with heap := sortedHeap (s1.heap.push (seqObj "list" vs.toArray 0)) s1.heap.objs.size vs out.toArray } : Shared) = { s with heap := sortedHeap (s1.heap.push (seqObj "list" vs.toArray 0)) s1.heap.objs.size vs out.toArray, gens := s1.gens, drawn := s1.drawn, toks := s1.toks } := by
    cases s1
    cases s
    cases o1
    rfl
  exact ⟨.ref s1.heap.objs.size, _, by rw [e]; exact J, rfl, q _ hn⟩
end
end Fc
set_option maxHeartbeats 4000000
/-! What the further defs promise. -/
namespace Fc
open PySem PySem.Spec PyProof.Rows L2
theorem pre_succ (nm : List Nat) (i : Nat) : (List.range (i + 1)).flatMap (fun k => combs k nm) = (List.range i).flatMap (fun k => combs k nm) ++ combs i nm := by
  rw [List.range_succ, List.flatMap_append]
  simp
/-- are_rising_names(names), of names that are -/
def spRisingN (K : PySem.W.Frag) (T : List Addr) : Sp := fun vs H Q _ => ∃ (a : Addr) (xs : List Str), vs = [.ref a] ∧ H a = some (.lst (xs.map V.str)) ∧ (∀ x ∈ xs, isWordM x = true) ∧ Rs xs ∧ xs.length ≤ 200 ∧ Tbs T H ∧ ∀ H', Kp N0 H H' → Q (.bl true) H'
theorem paired_self {α : Type} {F : α → α → Prop} : ∀ {xs : List α}, (∀ x ∈ xs, F x x) → Paired F xs xs
  | [], _ => .nil
  | x :: r, h => .cons (h x (List.mem_cons_self ..)) (paired_self fun y hy => h y (List.mem_cons_of_mem _ hy))
theorem isWord_len {t : Str} (h : isWordM t = true) : t.length ≤ 6 := by
  have e : isWordM t = (decide ((1 : Int) ≤ (t.length : Nat)) && (decide ((t.length : Int) ≤ 6) && t.cps.toList.all (sg abc))) := rfl
  rw [e, Bool.and_eq_true, Bool.and_eq_true] at h
  have z := of_decide_eq_true h.2.1
  omega
theorem drawD_ex {S : Addr → Prop} {H : Hp} {v : V} {h : Str} {l : List Str} (z : Dn S H v (.tuple [.str h, .list (l.map PyData.str)])) : ∃ t a, v = .ref t ∧ ¬ S t ∧ ¬ S a ∧ H t = some (.tup [.str h, .ref a]) ∧ H a = some (.lst (l.map V.str)) := by
  obtain ⟨t, xs, rfl, hs, e, z⟩ := z.tup_ex
  cases z with
  | cons z1 z2 =>
    cases z2 with
    | cons z3 z4 =>
      cases z4
      cases z1
      obtain ⟨a, ys, rfl, hs2, e2, z5⟩ := z3.lst_ex
      have q : ys = l.map V.str := DnA.strs_eq z5
      rw [q] at e2
      exact ⟨t, a, rfl, hs, hs2, e, e2⟩
/-- a cabinet that can be -/
structure GoodC (rs : List Row) (f : Str → List Str) : Prop where
  ok : ∀ h ∈ ruleHeadsM rs, ∀ x ∈ f h, isWordM x = true
  rise : ∀ h ∈ ruleHeadsM rs, Rs (f h)
  few : ∀ h ∈ ruleHeadsM rs, (f h).length ≤ 100
/-- check_cabinet(rule, cabinet), of a cabinet that can be -/
def spCheckCabinet (T : List Addr) : Sp := fun vs H Q _ => ∃ (v u : V) (rs : List Row) (f : Str → List Str), vs = [v, u] ∧ Dn N0 H v (ruleD rs) ∧ rs.length ≤ 50 ∧ Dn N0 H u (drawD (ruleHeadsM rs) f) ∧ GoodC rs f ∧ Tbs T H ∧ ∀ H', Kp N0 H H' → Q .non H'
/-- fewest_slips(rule, marks), its keys each once -/
def spFewestN (T : List Addr) : Sp := fun vs H Q _ => ∃ (v : V) (rs : List Row) (m : Str), vs = [v, .str m] ∧ Dn N0 H v (ruleD rs) ∧ GoodR rs ∧ Tbs T H ∧
  ∀ p kvs H', H p = none → Kp N0 H H' → H' p = some (.dK kvs) → kvs.length ≤ 2304 → (∀ h, valV kvs (.inr h) = intO (slipsM rs m h)) → (∀ q ∈ kvs, ∃ h, q.1 = .inr h) → (kvs.map (·.1)).Nodup → Q (.ref p) H'
theorem slipsM_in {rs : List Row} {m h : Str} {c : Nat} (e : slipsM rs m h = some c) : h ∈ ruleHeadsM rs := by
  unfold slipsM firstC at e
  obtain ⟨sl, hs, _⟩ := Option.map_eq_some_iff.mp e
  have z : decide (mainM rs (afterM m sl) = h) = true := List.find?_some (p := fun sl => decide (mainM rs (afterM m sl) = h)) hs
  rw [← of_decide_eq_true z]
  exact main_in _ _
theorem valV_nd {kvs : List (Key × V)} {q : Key × V} (nd : (kvs.map (·.1)).Nodup) (hq : q ∈ kvs) : valV kvs q.1 = some q.2 := by
  induction kvs with
  | nil => cases hq
  | cons p r ih =>
    obtain ⟨n1, n2⟩ := List.nodup_cons.mp nd
    rcases List.mem_cons.mp hq with z | z
    · subst z
      simp [valV]
    · have ne : ¬ p.1 = q.1 := fun e => n1 (List.mem_map.mpr ⟨q, z, e.symm⟩)
      have i := ih n2 z
      simp [valV, ne] at i ⊢
      exact i
theorem kvs_len {rs : List Row} {m : Str} {kvs : List (Key × V)} (nd : (kvs.map (·.1)).Nodup) (vk : ∀ h, valV kvs (.inr h) = intO (slipsM rs m h)) (kk : ∀ q ∈ kvs, ∃ h, q.1 = .inr h) : kvs.length ≤ rs.length + 1 := by
  have z := nodup_le (m := (ruleHeadsM rs).map (fun h => (Sum.inr h : Key))) nd fun x hx => by
    obtain ⟨q, hq, e⟩ := List.mem_map.mp hx
    obtain ⟨h, eh⟩ := kk q hq
    have v := valV_nd nd hq
    rw [eh, vk h] at v
    cases c : slipsM rs m h with
    | none =>
      rw [c] at v
      cases v
    | some c' =>
      rw [← e, eh]
      exact List.mem_map.mpr ⟨h, slipsM_in c, rfl⟩
  rw [List.length_map, List.length_map] at z
  exact Nat.le_trans z (ruleHeads_len rs)
def pkI (q : Key × V) : I2 := (match q.2 with | .int c => c | _ => 0, match q.1 with | .inr h => h | _ => "")
theorem pkI_is {rs : List Row} {m : Str} {kvs : List (Key × V)} (nd : (kvs.map (·.1)).Nodup) (vk : ∀ h, valV kvs (.inr h) = intO (slipsM rs m h)) (kk : ∀ q ∈ kvs, ∃ h, q.1 = .inr h) {q : Key × V} (hq : q ∈ kvs) : q = (.inr (pkI q).2, V.int (pkI q).1) ∧ ∃ n : Nat, (pkI q).1 = n ∧ slipsM rs m (pkI q).2 = some n := by
  obtain ⟨h, eh⟩ := kk q hq
  have v := valV_nd nd hq
  rw [eh, vk h] at v
  obtain ⟨k, y⟩ := q
  dsimp only at eh v
  subst eh
  cases c : slipsM rs m h with
  | none =>
    rw [c] at v
    cases v
  | some c' =>
    rw [c] at v
    have e : V.int (c' : Nat) = y := Option.some.inj v
    subst e
    exact ⟨rfl, c', rfl, c⟩
/-- looking_order(rule, marks) -/
def orderM (rs : List Row) (m : Str) (out : List Str) : Prop := ∃ ranked : List I2, SrtO.Srtd (fun v u => lexI v u) ranked ∧ (ranked.map (·.2)).Nodup ∧ (∀ c h, (c, h) ∈ ranked ↔ ∃ n : Nat, c = n ∧ slipsM rs m h = some n) ∧
  out = ranked.map (·.2) ++ (ruleHeadsM rs).filter fun h => (slipsM rs m h).isNone
def spLooking (T : List Addr) : Sp := fun vs H Q _ => ∃ (v : V) (rs : List Row) (m : Str), vs = [v, .str m] ∧ Dn N0 H v (ruleD rs) ∧ GoodR rs ∧ Tbs T H ∧ ∀ p out H', H p = none → Kp N0 H H' → orderM rs m out → H' p = some (.lst (out.map V.str)) → Q (.ref p) H'
theorem kp_unlock {H H' : Hp} {d : Addr} {u : HO} {od : Obj} (h : H d = some u) (x : Kp N0 (upd H d (.frz od u)) H') : Kp N0 H (upd H' d u) := fun a o e => by
  by_cases q : a = d
  · subst q
    rw [upd_same]
    rw [h] at e
    exact ⟨u, rfl, .inl (Option.some.inj e)⟩
  · rw [upd_ne q]
    exact x a o (by rw [upd_ne q]; exact e)
theorem order_of {rs : List Row} {m : Str} {kvs : List (Key × V)} {ranked : List I2} (nk : (kvs.map (·.1)).Nodup) (vk : ∀ h, valV kvs (.inr h) = intO (slipsM rs m h)) (kk : ∀ q ∈ kvs, ∃ h, q.1 = .inr h) (pq : ranked.Perm (kvs.map pkI)) (so : SrtO.Srtd (fun v u => lexI v u) ranked) :
    orderM rs m (ranked.map (·.2) ++ (ruleHeadsM rs).filter fun h => (slipsM rs m h).isNone) := by
  refine ⟨ranked, so, ?_, fun c h => ?_, rfl⟩
  · refine (pq.map (·.2)).nodup_iff.mpr ?_
    have e : ((kvs.map pkI).map (·.2)).map (fun h => (Sum.inr h : Key)) = kvs.map (·.1) := by
      rw [List.map_map, List.map_map]
      refine List.map_congr_left fun q hq => ?_
      have z := (pkI_is nk vk kk hq).1
      show Sum.inr (pkI q).2 = q.1
      rw [z]
      rfl
    rw [← e] at nk
    exact (List.pairwise_map.mp nk).imp fun h e => h (by rw [e])
  · refine pq.mem_iff.trans ⟨fun z => ?_, fun ⟨n, e1, e2⟩ => ?_⟩
    · obtain ⟨q, hq, e⟩ := List.mem_map.mp z
      have w := (pkI_is nk vk kk hq).2
      rw [e] at w
      exact w
    · have v := vk h
      rw [e2] at v
      obtain ⟨q, hq, e⟩ := List.mem_map.mp (valV_in v)
      obtain ⟨z1, n', z2, z3⟩ := pkI_is nk vk kk hq
      rw [z1] at e
      have eh : (pkI q).2 = h := Sum.inr.inj e
      rw [eh, e2] at z3
      have en := Option.some.inj z3
      refine List.mem_map.mpr ⟨q, hq, ?_⟩
      exact Prod.ext (by rw [z2, e1, en]) eh
def isSmallM (t : Str) : Bool := !decide (t = "") && t.cps.toList.all (sg abc)
def spIsSmall (T : List Addr) : Sp := fun vs H Q _ => ∃ t : Str, vs = [.str t] ∧ Tbs T H ∧ ∀ H', Kp N0 H H' → Q (.bl (isSmallM t)) H'
theorem isWord_small (t : Str) : isWordM t = (isSmallM t && decide ((t.length : Int) ≤ 6)) := by
  unfold isWordM isSmallM
  have e : decide ((1 : Int) ≤ (t.length : Nat)) = !decide (t = "") := by
    rw [Bool.eq_iff_iff]
    simp only [Bool.not_eq_true', decide_eq_true_eq, decide_eq_false_iff_not]
    constructor
    · intro h z
      subst z
      exact absurd h (by decide)
    · intro h
      have z : t.length ≠ 0 := fun q => h (str_ext (by
        have e : t.cps.toList.length = 0 := by simpa [PySem.Str.length] using q
        rw [List.length_eq_zero_iff.mp e]
        rfl))
      omega
  rw [e]
  cases decide (t = "") <;> cases t.cps.toList.all (sg abc) <;> cases decide ((t.length : Int) ≤ 6) <;> rfl
end Fc
set_option maxHeartbeats 4000000
/-! The order in which is looked; cabinets as dicts. -/
namespace Fc
open PySem PySem.Spec PyProof.Rows L2
theorem srtd_uniq {l m : List I2} (hl : SrtO.Srtd (fun v u => lexI v u) l) (hm : SrtO.Srtd (fun v u => lexI v u) m) (p : l.Perm m) : l = m := by
  refine List.Perm.eq_of_pairwise (le := fun a b => lexI b a = false) (fun a b _ _ h1 h2 => ?_) hl hm p
  rcases lexI_tri a b with z | z | z
  · rw [z] at h2
    cases h2
  · exact z
  · rw [z] at h1
    cases h1
theorem orderM_uniq {rs : List Row} {m : Str} {a b : List Str} (ha : orderM rs m a) (hb : orderM rs m b) : a = b := by
  obtain ⟨r1, s1, n1, k1, rfl⟩ := ha
  obtain ⟨r2, s2, n2, k2, rfl⟩ := hb
  have nd : ∀ {r : List I2}, (r.map (·.2)).Nodup → r.Nodup := fun h => (List.pairwise_map.mp h).imp fun z e => z (by rw [e])
  have p : r1.Perm r2 := (List.perm_ext_iff_of_nodup (nd n1) (nd n2)).mpr fun ⟨c, h⟩ => (k1 c h).trans (k2 c h).symm
  rw [srtd_uniq s1 s2 p]
open Classical in
noncomputable def orderF (rs : List Row) (m : Str) : List Str := if h : ∃ out, orderM rs m out then h.choose else []
theorem orderF_eq {rs : List Row} {m : Str} {out : List Str} (h : orderM rs m out) : out = orderF rs m := by
  have e : ∃ out, orderM rs m out := ⟨out, h⟩
  unfold orderF
  rw [dif_pos e]
  exact orderM_uniq h e.choose_spec
theorem orderM_mem {rs : List Row} {m : Str} {out : List Str} (h : orderM rs m out) (x : Str) : x ∈ out ↔ x ∈ ruleHeadsM rs := by
  obtain ⟨r, s, n, k, rfl⟩ := h
  rw [List.mem_append]
  constructor
  · rintro (z | z)
    · obtain ⟨⟨c, y⟩, hq, e⟩ := List.mem_map.mp z
      obtain ⟨n', _, e2⟩ := (k c y).mp hq
      have e' : y = x := e
      subst e'
      exact slipsM_in e2
    · exact (List.mem_filter.mp z).1
  · intro z
    cases c : slipsM rs m x with
    | none => exact .inr (List.mem_filter.mpr ⟨z, by rw [c]; rfl⟩)
    | some n' => exact .inl (List.mem_map.mpr ⟨((n' : Int), x), (k _ _).mpr ⟨n', rfl, c⟩, rfl⟩)
theorem ruleHeads_nd (rs : List Row) : (ruleHeadsM rs).Nodup := (riseS_rs _).nd
theorem orderM_nd {rs : List Row} {m : Str} {out : List Str} (h : orderM rs m out) : out.Nodup := by
  obtain ⟨r, s, n, k, rfl⟩ := h
  refine List.nodup_append.mpr ⟨n, (ruleHeads_nd rs).filter _, fun x hx y hy e => ?_⟩
  subst e
  obtain ⟨⟨c, y⟩, hq, e⟩ := List.mem_map.mp hx
  obtain ⟨n', _, e2⟩ := (k c y).mp hq
  have e' : y = x := e
  subst e'
  have z := (List.mem_filter.mp hy).2
  rw [e2] at z
  cases z
theorem orderM_len {rs : List Row} {m : Str} {out : List Str} (h : orderM rs m out) : out.length = (ruleHeadsM rs).length :=
  ((List.perm_ext_iff_of_nodup (orderM_nd h) (ruleHeads_nd rs)).mpr fun x => orderM_mem h x).length_eq
/-- those that are looked at, up to the first that does -/
def upTo (p : Str → Bool) : List Str → List Str
  | [] => []
  | x :: r => if p x = true then [x] else x :: upTo p r
theorem upTo_none {p : Str → Bool} : ∀ {l : List Str}, (∀ x ∈ l, p x = false) → upTo p l = l
  | [], _ => rfl
  | x :: r, h => by
    unfold upTo
    rw [h x List.mem_cons_self, if_neg Bool.false_ne_true, upTo_none fun y hy => h y (List.mem_cons_of_mem _ hy)]
theorem upTo_at {p : Str → Bool} : ∀ {l : List Str} {i : Nat} {x : Str}, l[i]? = some x → (∀ y ∈ l.take i, p y = false) → p x = true → upTo p l = l.take i ++ [x] ∧ l.find? p = some x
  | [], _, _, h, _, _ => by simp at h
  | a :: r, 0, x, h, _, hx => by
    have e : a = x := by simpa using h
    subst e
    unfold upTo
    rw [if_pos hx, List.find?_cons, hx]
    exact ⟨rfl, rfl⟩
  | a :: r, i + 1, x, h, hn, hx => by
    have e : r[i]? = some x := by simpa using h
    have ha : p a = false := hn a (by simp)
    obtain ⟨i1, i2⟩ := upTo_at e (fun y hy => hn y (by rw [List.take_succ_cons]; exact List.mem_cons_of_mem _ hy)) hx
    unfold upTo
    rw [ha, if_neg Bool.false_ne_true, i1, List.find?_cons, ha]
    exact ⟨rfl, i2⟩
def optV (o : Option Str) : V := (o.map V.str).getD .non
/-- the drawers of a cabinet, as pairs and lists -/
theorem cab_ex {S : Addr → Prop} {H : Hp} {f : Str → List Str} : ∀ {hs : List Str} {xs : List V}, DnA S H xs (hs.map fun h => .tuple [.str h, .list ((f h).map PyData.str)]) →
    ∃ ts as : List Addr, xs = ts.map V.ref ∧ ts.length = hs.length ∧ as.length = hs.length ∧ (∀ t ∈ ts, ¬ S t) ∧ (∀ a ∈ as, ¬ S a) ∧ ∀ (j : Nat) (t a : Addr) (h : Str), ts[j]? = some t → as[j]? = some a → hs[j]? = some h → H t = some (.tup [.str h, .ref a]) ∧ H a = some (.lst ((f h).map V.str))
  | [], _, h => by
    cases h
    exact ⟨[], [], rfl, rfl, rfl, (fun _ z => nomatch z), (fun _ z => nomatch z), fun j t a h e => by simp at e⟩
  | h :: hs, _, d => by
    cases d with
    | cons d r =>
      obtain ⟨ts, as, rfl, l1, l2, s1, s2, k⟩ := cab_ex r
      obtain ⟨t, a, rfl, n1, n2, e1, e2⟩ := drawD_ex d
      refine ⟨t :: ts, a :: as, rfl, by simp [l1], by simp [l2], fun x hx => ?_, fun x hx => ?_, fun j t' a' h' q1 q2 q3 => ?_⟩
      · rcases List.mem_cons.mp hx with z | z
        · rw [z]; exact n1
        · exact s1 x z
      · rcases List.mem_cons.mp hx with z | z
        · rw [z]; exact n2
        · exact s2 x z
      · cases j with
        | zero =>
          simp at q1 q2 q3
          subst q1 q2 q3
          exact ⟨e1, e2⟩
        | succ j => exact k j t' a' h' (by simpa using q1) (by simpa using q2) (by simpa using q3)
theorem cab_paired {K : PySem.W.Frag} {H : Hp} : ∀ {hs : List Str} {ts as : List Addr}, ts.length = hs.length → as.length = hs.length → (∀ (j : Nat) (t a : Addr) (h : Str), ts[j]? = some t → as[j]? = some a → hs[j]? = some h → H t = some (.tup [.str h, .ref a])) →
    Paired (fun (p : Addr) (kv : Key × V) => SqT K H p [kV kv.1, kv.2]) ts (dkv hs as)
  | [], [], as, _, _, _ => by
    cases as <;> exact .nil
  | [], t :: ts, _, h, _, _ => by cases h
  | h :: hs, [], _, e, _, _ => by cases e
  | h :: hs, t :: ts, [], _, e, _ => by cases e
  | h :: hs, t :: ts, a :: as, l1, l2, k => by
    refine .cons (SqT.of (k 0 t a h rfl rfl rfl)) (cab_paired (Nat.succ.inj l1) (Nat.succ.inj l2) fun j t a h e1 e2 e3 => k (j + 1) t a h (by simpa using e1) (by simpa using e2) (by simpa using e3))
theorem dkv_merge : ∀ (hs : List Str) (as : List Addr) (kvs : List (Key × V)), hs.Nodup → (∀ h ∈ hs, valV kvs (.inr h) = none) → mergeK kvs (dkv hs as) = kvs ++ dkv hs as
  | [], as, kvs, _, _ => by
    cases as <;> exact (List.append_nil kvs).symm
  | _ :: _, [], kvs, _, _ => (List.append_nil kvs).symm
  | h :: hs, a :: as, kvs, nd, k => by
    obtain ⟨n1, n2⟩ := List.nodup_cons.mp nd
    have kh := k h List.mem_cons_self
    show mergeK (putK kvs (.inr h) (.ref a)) (dkv hs as) = kvs ++ ((.inr h, .ref a) :: dkv hs as)
    rw [putK_new _ kh, dkv_merge hs as _ n2 fun x hx => ?_, List.append_assoc]
    · rfl
    · rw [valV_snoc _ _ _ _ kh, if_neg (fun z => n1 (by rw [← Sum.inr.inj z]; exact hx))]
      exact k x (List.mem_cons_of_mem _ hx)
/-- search(rule, cabinet, name, marks) -/
def spSearch (T : List Addr) : Sp := fun vs H Q _ => ∃ (v u : V) (rs : List Row) (f : Str → List Str) (n m : Str), vs = [v, u, .str n, .str m] ∧ Dn N0 H v (ruleD rs) ∧ Dn N0 H u (drawD (ruleHeadsM rs) f) ∧ GoodR rs ∧ GoodC rs f ∧ isMarksM m = true ∧ Tbs T H ∧
  ∀ t l H', H t = none → H l = none → Kp N0 H H' → orderM rs m (orderF rs m) → H' l = some (.lst ((upTo (fun h => decide (n ∈ f h)) (orderF rs m)).map V.str)) → H' t = some (.tup [.ref l, optV ((orderF rs m).find? fun h => decide (n ∈ f h))]) → Q (.ref t) H'
end Fc
set_option maxHeartbeats 4000000
/-! The law's own order. -/
namespace Fc
open PySem PySem.Spec PyProof.Rows L2
def nOf (rs : List Row) (m h : Str) : Nat := lawMin rs m (namedM rs) h 99 (subsTo [[]] (namedM rs))
theorem nOf_eq {rs : List Row} (g : GoodR rs) (m h : Str) : nOf rs m h = (slipsM rs m h).getD 99 := by
  unfold nOf
  rw [lawMin_eq g]
  cases slipsM rs m h <;> rfl
theorem pw_split {α : Type} (p : α → Bool) : ∀ {l : List α}, l.Pairwise (fun a b => p b = true → p a = true) → l = l.filter p ++ l.filter (fun x => !p x)
  | [], _ => rfl
  | a :: r, h => by
    obtain ⟨h1, h2⟩ := List.pairwise_cons.mp h
    have ih := pw_split p h2
    cases c : p a with
    | true =>
      rw [List.filter_cons, if_pos c, List.filter_cons, if_neg (by rw [c]; exact Bool.false_ne_true), List.cons_append, ← ih]
    | false =>
      have z : r.filter p = [] := List.filter_eq_nil_iff.mpr fun x hx q => by
        have y := h1 x hx q
        rw [c] at y
        cases y
      rw [z, List.nil_append] at ih
      rw [List.filter_cons, if_neg (by rw [c]; exact Bool.false_ne_true), List.filter_cons, if_pos (by rw [c]; rfl), z, List.nil_append, ← ih]
theorem order_of99 {rs : List Row} (g : GoodR rs) {m : Str} {ys : List I2} (so : SrtO.Srtd (fun v u => lexI v u) ys) (pq : ys.Perm ((ruleHeadsM rs).map fun h => ((nOf rs m h : Nat), h))) : orderM rs m (ys.map (·.2)) := by
  have nd : (ys.map (·.2)).Nodup := by
    refine (pq.map (·.2)).nodup_iff.mpr ?_
    rw [List.map_map]
    have e : (ruleHeadsM rs).map ((fun q : I2 => q.2) ∘ fun h => (((nOf rs m h : Nat) : Int), h)) = ruleHeadsM rs := List.map_id _
    rw [e]
    exact ruleHeads_nd rs
  have mem : ∀ c h, (c, h) ∈ ys ↔ h ∈ ruleHeadsM rs ∧ c = (((slipsM rs m h).getD 99 : Nat) : Int) := fun c h => by
    refine pq.mem_iff.trans ⟨fun z => ?_, fun ⟨z1, z2⟩ => ?_⟩
    · obtain ⟨x, hx, e⟩ := List.mem_map.mp z
      obtain ⟨e1, e2⟩ := Prod.mk.inj e
      subst e2
      rw [nOf_eq g] at e1
      exact ⟨hx, e1.symm⟩
    · exact List.mem_map.mpr ⟨h, z1, by rw [nOf_eq g, z2]⟩
  have lt : ∀ {h : Str} {n : Nat}, slipsM rs m h = some n → ((n : Int) ≠ 99) := fun h => by
    have := slipsM_le h
    omega
  let p : I2 → Bool := fun q => decide (q.1 ≠ 99)
  have le : ∀ q ∈ ys, q.1 ≤ 99 := fun ⟨c, h⟩ hq => by
    obtain ⟨_, e⟩ := (mem c h).mp hq
    show c ≤ 99
    rw [e]
    cases z : slipsM rs m h with
    | none => exact Int.le_refl _
    | some n =>
      have := slipsM_le z
      show (n : Int) ≤ 99
      omega
  have sp : ys.Pairwise (fun a b => p b = true → p a = true) := by
    refine List.Pairwise.imp_of_mem (fun {a b} ha hb (h : lexI b a = false) z => ?_) so
    refine decide_eq_true fun e => ?_
    have z1 : b.1 ≠ 99 := of_decide_eq_true z
    have z2 := le b hb
    unfold lexI at h
    rw [if_neg (by omega)] at h
    exact absurd (of_decide_eq_false h) (by simp; omega)
  have split := pw_split p sp
  refine ⟨ys.filter p, so.filter _, ?_, fun c h => ?_, ?_⟩
  · exact nd.sublist (List.filter_sublist.map _)
  · rw [List.mem_filter, mem c h]
    constructor
    · rintro ⟨⟨z1, z2⟩, z3⟩
      have z3 : c ≠ 99 := of_decide_eq_true z3
      cases q : slipsM rs m h with
      | none =>
        rw [q] at z2
        exact (z3 z2).elim
      | some n =>
        rw [q] at z2
        exact ⟨n, z2, rfl⟩
    · rintro ⟨n, e, z⟩
      exact ⟨⟨slipsM_in z, by rw [z, e]; rfl⟩, decide_eq_true (by show c ≠ 99; rw [e]; exact lt z)⟩
  · conv => lhs; rw [split]
    rw [List.map_append]
    congr 1
    have hr : Rs ((ys.filter fun x => !p x).map (·.2)) := by
      refine List.pairwise_map.mpr ?_
      have s2 : (ys.filter fun x => !p x).Pairwise (fun a b => lexI b a = false) := so.filter _
      have n2 : (ys.filter fun x => !p x).Pairwise (fun a b => a.2 ≠ b.2) := List.pairwise_map.mp (nd.sublist (List.filter_sublist.map _))
      refine List.Pairwise.imp_of_mem (fun {a b} ha hb h => ?_) (s2.and n2)
      have e : ∀ {q : I2}, q ∈ ys.filter (fun x => !p x) → q.1 = 99 := fun {q} hq => by
        have z := (List.mem_filter.mp hq).2
        have z : decide (q.1 ≠ 99) = false := by simpa [p] using z
        exact Decidable.not_not.mp (of_decide_eq_false z)
      obtain ⟨h1, h2⟩ := h
      unfold lexI at h1
      rw [e ha, e hb, if_pos rfl] at h1
      rcases ltS_tri a.2 b.2 with z | z | z
      · exact z
      · exact (h2 z).elim
      · rw [z] at h1
        cases h1
    refine Rs.uniq hr ((riseS_rs _).filter _) fun x => ?_
    rw [List.mem_map, List.mem_filter]
    constructor
    · rintro ⟨⟨c, y⟩, hq, e⟩
      have e' : y = x := e
      subst e'
      obtain ⟨z1, z2⟩ := List.mem_filter.mp hq
      obtain ⟨z3, z4⟩ := (mem c y).mp z1
      refine ⟨z3, ?_⟩
      cases q : slipsM rs m y with
      | none => rfl
      | some n =>
        rw [q] at z4
        have z2 : decide (c ≠ 99) = false := by simpa [p] using z2
        exact absurd (show c ≠ 99 by rw [z4]; exact lt q) (of_decide_eq_false z2)
    · rintro ⟨z1, z2⟩
      have q : slipsM rs m x = none := Option.isNone_iff_eq_none.mp z2
      refine ⟨((99 : Int), x), List.mem_filter.mpr ⟨(mem _ _).mpr ⟨z1, by rw [q]; rfl⟩, by simp [p]⟩, rfl⟩
/-- _law_order(rule, marks) -/
def spOrderL : Sp := fun vs H Q _ => ∃ (v : V) (rs : List Row) (m : Str), vs = [v, .str m] ∧ Dn N0 H v (ruleD rs) ∧ GoodR rs ∧ m.cps.toList.length ≤ 100 ∧ ∀ p H', H p = none → Kp N0 H H' → orderM rs m (orderF rs m) → H' p = some (.lst ((orderF rs m).map V.str)) → Q (.ref p) H'
end Fc
set_option maxHeartbeats 4000000
/-! sorted of a list of unlike texts, however many; list.remove of a text. -/
namespace Fc
open PySem PySem.Spec PyProof.Rows L2
theorem vals_str : ∀ {l : List Str} {us : List Value}, Vals (l.map V.str) us → us.map strOf = l ∧ ∀ v ∈ us, ∃ x t, v = Value.str x t
  | [], _, r => by
    cases r
    exact ⟨rfl, fun v z => nomatch z⟩
  | x :: l, _, r => by
    cases r with
    | cons h t =>
      obtain ⟨k, rfl⟩ := h
      obtain ⟨e1, e2⟩ := vals_str t
      refine ⟨by rw [List.map_cons, e1]; rfl, fun v hv => ?_⟩
      rcases List.mem_cons.mp hv with z | z
      · exact ⟨x, k, z⟩
      · exact e2 v z
theorem vals_of_str : ∀ {us : List Value}, (∀ v ∈ us, ∃ x t, v = Value.str x t) → Vals ((us.map strOf).map V.str) us
  | [], _ => .nil
  | v :: us, h => by
    obtain ⟨x, t, e⟩ := h v List.mem_cons_self
    subst e
    exact .cons ⟨t, rfl⟩ (vals_of_str fun u hu => h u (List.mem_cons_of_mem _ hu))
theorem eqS_gives {k : Str} {t : Tok} {us : List Value} (h : ∀ v ∈ us, ∃ x t, v = Value.str x t) : ∀ y ∈ us, MeetsSeq.EqGives y (.str k t) (decide (strOf y = k)) := fun y hy => by
  obtain ⟨x, u, e⟩ := h y hy
  subst e
  have z := SeqRoads2.EqGives.str x k u t
  have e : (x.cps.toList == k.cps.toList) = decide (strOf (Value.str x u) = k) := by
    show _ = decide (x = k)
    rw [Bool.eq_iff_iff, beq_iff_eq, decide_eq_true_eq]
    exact ⟨fun q => str_ext q, fun q => by rw [q]⟩
  rw [e] at z
  exact z
theorem erase_mapS : ∀ (l : List Str) (j : Nat), (l.map V.str).eraseIdx j = (l.eraseIdx j).map V.str
  | [], j => by simp
  | a :: r, 0 => by simp
  | a :: r, j + 1 => by
    have ih := erase_mapS r j
    simp [ih]
section
variable {X : Cx} {K : PySem.W.Frag}
/-- sorted(list of unlike texts) -/
def rSortSL (K : PySem.W.Frag) : List V → Hp → VK → Prop := fun vs H Q => ∃ (a : Addr) (l : List Str), vs = [.ref a] ∧ SqL K H a (l.map V.str) ∧ l.Nodup ∧ ∀ p, H p = none → Q (.ref p) (upd H p (.lst ((riseS l).map V.str)))
theorem cr_sortSL : CallR X (.builtin "sorted") (rSortSL X.K) := by
  intro pins s σ H vs us Q I r h
  obtain ⟨a, l, rfl, hs, nd, q⟩ := h
  obtain ⟨its, rv, hl, hz⟩ := I.list hs
  rw [Vals.ref1 r]
  obtain ⟨e1, e2⟩ := vals_str rv
  refine SrtO.sorted_ord (swo_txt strOf) hl.isList (by rw [← rv.length]; exact hz) (fun h2 h₁ b hb kk => ?_) fun out hs hb => ?_
  · exact txt_sortable h2 e2
  · have h3 : ∀ u ∈ out, ∃ x t, u = Value.str x t := fun u hu => e2 u (hb.perm.mem_iff.mp hu)
    obtain ⟨n, hn⟩ := sortedAll_at s.heap its out.toArray
    have ps : (out.map strOf).Perm l := by
      rw [← e1]
      exact hb.perm.map strOf
    have rs : Rs (out.map strOf) := rs_of_srt (vs := its) hs (ps.nodup_iff.mpr nd)
    have er : out.map strOf = riseS l := riseS_of rs fun x => ps.mem_iff
    have vals := vals_of_str h3
    rw [er] at vals
    refine ⟨.ref _, upd H (s.heap.objs.size + 1) (.lst ((riseS l).map V.str)), I.laid (t' := s.toks) (fun _ _ => sortedAll_old) (Nat.le_succ _) ⟨?_, out, n, vals, hn⟩, rfl, q _ (I.hok.fresh (Nat.le_succ _))⟩
    rw [List.length_map, ← er, List.length_map, hb.perm.length_eq, ← rv.length]
    exact hz
/-- list.remove(text) -/
def rRemS : V → List V → Hp → VK → Prop := fun x xs H Q => ∃ (l : Addr) (ns : List Str) (k : Str) (j : Nat), x = .ref l ∧ xs = [.str k] ∧ H l = some (.lst (ns.map V.str)) ∧ ns[j]? = some k ∧ (∀ m : Nat, m < j → ns[m]? ≠ some k) ∧ Q .non (upd H l (.lst ((ns.eraseIdx j).map V.str)))
theorem mt_removeS : MtM X "list.remove" rRemS := by
  intro pins s σ H x xs v us Q I rx rxs h
  obtain ⟨l, ns, k, j, rfl, rfl, hH, hj, hno, q⟩ := h
  cases rx
  obtain ⟨u, rfl, ru⟩ := rxs.one
  obtain ⟨t, rfl⟩ := ru
  obtain ⟨z, its, n, r, hl, e⟩ := I.lstM hH
  obtain ⟨e1, e2⟩ := vals_str r
  rw [List.length_map] at hl z
  have hjn : j < ns.length := (List.getElem?_eq_some_iff.mp hj).1
  have hjl : j < its.toArray.size := by rw [List.size_toArray]; omega
  have at' : ∀ (m : Nat) (hm : m < its.length), ns[m]? = some (strOf its[m]) := fun m hm => by
    rw [← e1, List.getElem?_map, List.getElem?_eq_getElem hm]
    rfl
  refine call_meets PySem.F.slot_list_remove ⟨_, e, rfl⟩ PySem.F.entry_list_remove (PySem.F.args_list_remove_2 _ _)
    (MeetsSeq.list_remove l its.toArray n (.str k t) (fun y => decide (strOf y = k)) (fun y hy => eqS_gives e2 y (by simpa using hy)) j hjl ?_ ?_ (by rw [List.size_toArray]; omega)) ⟨e, ?_⟩
  · have z := at' j (by simpa using hjl)
    rw [hj] at z
    have z := Option.some.inj z
    show decide (strOf its.toArray[j] = k) = true
    simpa using z.symm
  · intro m hm hmj
    have z := at' m (by simpa using hm)
    refine decide_eq_false fun c => hno m hmj ?_
    rw [z]
    exact congrArg some (by simpa using c)
  · have rr := r.eraseIdx j
    rw [erase_mapS] at rr
    refine ⟨.non, _, I.lset (its' := its.eraseIdx j) (t' := s.toks) hH e ?_ rr ?_, rfl, q⟩
    · show its.toArray.eraseIdxIfInBounds j = (its.eraseIdx j).toArray
      rw [List.eraseIdxIfInBounds_toArray]
    · have z2 := List.length_eraseIdx_le ns j
      rw [List.length_map]
      omega
theorem cr_setSw {w : World} (hc : X.calm = true) (hK : X.K = K := by rfl) (hw : X.w = w := by rfl) : CallR X (.type "set") (rSetS K w) := by
  subst hK
  subst hw
  exact cr_setS hc
theorem cr_sortSAw {w : World} (hc : X.calm = true) (hw : X.w = w := by rfl) : CallR X (.builtin "sorted") (rSortSA w) := by
  subst hw
  exact cr_sortSA hc
theorem call_list_ofK (h : X.K = K := by rfl) : CallR X (.type "list") (fun xs H Q => ∃ p ys, xs = [.ref p] ∧ (SqL K H p ys ∨ SqT K H p ys) ∧ ∀ l, H l = none → Q (.ref l) (upd H l (.lst ys))) := by
  subst h
  exact call_list_of
end
end Fc
set_option maxHeartbeats 4000000
/-! Cabinets copied, cabinets as a dict of new lists. -/
namespace Fc
open PySem PySem.Spec PyProof.Rows L2
section
variable {K : PySem.W.Frag}
/-- over a cabinet: a new pair of the head and a new list, for each drawer -/
theorem lc_copy {a D : Addr} {te : TE} {vs : List Nat} {σ : L2.St} {H1 : Hp} {Qd : Hp → Prop} {i1 i2 : Nat} {hs : List Str} {f : Str → List Str} {ts0 as0 : List Addr}
    (ha : H1 a = some (.lst (ts0.map V.ref))) (l1 : ts0.length = hs.length) (l2 : as0.length = hs.length)
    (kk : ∀ (j : Nat) (t b : Addr) (h : Str), ts0[j]? = some t → as0[j]? = some b → hs[j]? = some h → H1 t = some (.tup [.str h, .ref b]) ∧ H1 b = some (.lst ((f h).map V.str)))
    (hD : H1 D = none) (few : hs.length ≤ 1000) (hw : ∀ x y, wipe (((wipe σ vs).set i1 (some x)).set i2 (some y)) vs = wipe σ vs)
    (he : ∀ (h : Str) (b : Addr) (H : Hp), h ∈ hs → Kp N0 H1 H → H b = some (.lst ((f h).map V.str)) → ∀ Q : VK, (∀ q U, H q = none → (upd H q (.lst ((f h).map V.str))) U = none → Q (.ref U) (upd (upd H q (.lst ((f h).map V.str))) U (.tup [.str h, .ref q]))) → te (((wipe σ vs).set i1 (some (.str h))).set i2 (some (.ref b))) H Q)
    (hd : ∀ (H' : Hp) (ts as : List Addr), Kp N0 H1 H' → H' D = some (.lst (ts.map V.ref)) → ts.length = hs.length → as.length = hs.length → as.Nodup → (∀ c ∈ ts, H1 c = none) → (∀ c ∈ as, H1 c = none ∧ c ≠ D) → (∀ (j : Nat) (t c : Addr) (h : Str), ts[j]? = some t → as[j]? = some c → hs[j]? = some h → H' t = some (.tup [.str h, .ref c]) ∧ H' c = some (.lst ((f h).map V.str))) → Qd H') :
    ∃ W : Nat → Nat → Hp → Prop, (∃ m, W 0 m (upd H1 D (.lst []))) ∧ ∀ i m H, W i m H → ((Itl K a).stop i H ∧ Qd H) ∨ ((Itl K a).go i H ∧ ∃ Nx : Hp → Prop, (∀ H', Nx H' → ∃ m', m' < m ∧ W (i + 1) m' H') ∧ ∀ x H', (Itl K a).yld i H x H' → gTup K 2 (gCons (gName i1) (gCons (gName i2) gNil)) x (wipe σ vs) H' fun σ2 H2 => wipe σ2 vs = wipe σ vs ∧ tYes σ2 H2 fun b H3 =>
      if b = true then te σ2 H3 fun y H4 => ∃ acc, H4 D = some (.lst acc) ∧ acc.length < sizeLine ∧ Nx (upd H4 D (.lst (acc ++ [y]))) else Nx H3) := by
  refine lc_it (walk_list (xs := ts0.map V.ref)) (Pv := fun i H' => ∃ ts as : List Addr, Kp N0 H1 H' ∧ H' D = some (.lst (ts.map V.ref)) ∧ ts.length = i ∧ as.length = i ∧ as.Nodup ∧ (∀ c ∈ ts, H1 c = none ∧ c ≠ D) ∧ (∀ c ∈ as, H1 c = none ∧ c ≠ D) ∧ ∀ (j : Nat) (t c : Addr) (h : Str), ts[j]? = some t → as[j]? = some c → hs[j]? = some h → H' t = some (.tup [.str h, .ref c]) ∧ H' c = some (.lst ((f h).map V.str)))
    ⟨[], [], Kp.new hD, upd_same, rfl, rfl, List.nodup_nil, (fun _ z => nomatch z), (fun _ z => nomatch z), fun j t c h e => by simp at e⟩ (fun i H' _ ⟨_, _, k, _⟩ => SqL.of (k.obj ha ntl nn)) (fun i x H' H'' hi ⟨ts, as, k, aD, e1, e2, nd, n1, n2, kn⟩ y => ?_) fun H' ⟨ts, as, k, aD, e1, e2, nd, n1, n2, kn⟩ => ?_
  · obtain ⟨rfl, hx⟩ := y
    rw [List.length_map] at hi
    have hih : i < hs.length := by rw [← l1]; exact hi
    have q1 : ts0[i]? = some ts0[i] := List.getElem?_eq_getElem hi
    have q2 : as0[i]? = some (as0[i]'(by omega)) := List.getElem?_eq_getElem (by omega)
    have q3 : hs[i]? = some hs[i] := List.getElem?_eq_getElem hih
    rw [List.getElem?_map, q1] at hx
    have ex : V.ref ts0[i] = x := Option.some.inj hx
    subst ex
    obtain ⟨z1, z2⟩ := kk i _ _ _ q1 q2 q3
    generalize as0[i]'(by omega) = b at q2 z1 z2
    have hin : hs[i] ∈ hs := List.getElem_mem hih
    generalize hs[i] = h at q3 z1 z2 hin
    refine ⟨_, _, rfl, SqT.of (k.obj z1 ntt nn), rfl, _, _, rfl, _, _, rfl, rfl, hw _ _, ?_⟩
    refine he h b H'' hin k (k.obj z2 ntl nn) _ fun q U fq fU => ?_
    have kq : Kp N0 H'' (upd H'' q (.lst ((f h).map V.str))) := Kp.new fq
    have kU : Kp N0 H'' (upd (upd H'' q (.lst ((f h).map V.str))) U (.tup [.str h, .ref q])) := kq.trans (Kp.new fU)
    have qU : q ≠ U := fun e => by rw [← e, upd_same] at fU; cases fU
    have aq : (upd (upd H'' q (.lst ((f h).map V.str))) U (.tup [.str h, .ref q])) q = some (.lst ((f h).map V.str)) := by rw [upd_ne qU, upd_same]
    have aU : (upd (upd H'' q (.lst ((f h).map V.str))) U (.tup [.str h, .ref q])) U = some (.tup [.str h, .ref q]) := upd_same
    have aD2 := kU.obj aD ntl nn
    have U0 : H'' U = none := kq.fresh fU
    generalize upd (upd H'' q (.lst ((f h).map V.str))) U (.tup [.str h, .ref q]) = H2 at kU aq aU aD2 ⊢
    have qD : q ≠ D := fun e => by rw [e, aD] at fq; cases fq
    have UD : U ≠ D := fun e => by rw [e, aD] at U0; cases U0
    refine ⟨_, aD2, by rw [List.length_map, e1, sizeLine_eq]; omega, ts ++ [U], as ++ [q], (k.trans kU).mut hD, ?_, by rw [List.length_append, e1]; rfl, by rw [List.length_append, e2]; rfl, ?_, fun c hc => ?_, fun c hc => ?_, fun j t c h' x1 x2 x3 => ?_⟩
    · rw [upd_same, List.map_append]
      rfl
    · refine List.nodup_append.mpr ⟨nd, List.pairwise_singleton _ _, fun c hc d hd' e => ?_⟩
      rw [List.mem_singleton.mp hd'] at e
      subst e
      obtain ⟨j, hj, ej⟩ := List.getElem_of_mem hc
      have z := (kn j (ts[j]'(by omega)) c (hs[j]'(by omega)) (List.getElem?_eq_getElem _) (by rw [List.getElem?_eq_getElem hj, ej]) (List.getElem?_eq_getElem _)).2
      rw [z] at fq
      cases fq
    · rcases List.mem_append.mp hc with z | z
      · exact n1 c z
      · rw [List.mem_singleton.mp z]
        exact ⟨k.fresh U0, UD⟩
    · rcases List.mem_append.mp hc with z | z
      · exact n2 c z
      · rw [List.mem_singleton.mp z]
        exact ⟨k.fresh fq, qD⟩
    · rcases Nat.lt_or_ge j i with lt | ge
      · rw [List.getElem?_append_left (by omega)] at x1 x2
        obtain ⟨y1, y2⟩ := kn j t c h' x1 x2 x3
        have tD := (n1 t (List.mem_of_getElem? x1)).2
        have cD := (n2 c (List.mem_of_getElem? x2)).2
        rw [upd_ne tD, upd_ne cD]
        exact ⟨kU.obj y1 ntt nn, kU.obj y2 ntl nn⟩
      · have ej : j = i := by
          have z := (List.getElem?_eq_some_iff.mp x1).1
          rw [List.length_append, e1] at z
          have z' : j < i + 1 := z
          omega
        subst ej
        rw [List.getElem?_append_right (by omega), e1, Nat.sub_self] at x1
        rw [List.getElem?_append_right (by omega), e2, Nat.sub_self] at x2
        have x1' : U = t := by simpa using x1
        have x2' : q = c := by simpa using x2
        rw [q3] at x3
        have x3' := Option.some.inj x3
        subst x1' x2' x3'
        rw [upd_ne UD, upd_ne qD]
        exact ⟨aU, aq⟩
  · rw [List.length_map, l1] at e1 e2
    exact hd H' ts as k aD e1 e2 nd (fun c hc => (n1 c hc).1) n2 kn
end
/-- over heads: a new pair of the head and its list, each -/
theorem lc_back {K : PySem.W.Frag} {a R : Addr} {te : TE} {vs : List Nat} {σ : L2.St} {H1 : Hp} {Qd : Hp → Prop} {i1 : Nat} {hs : List Str} {as : List Addr}
    (ha : H1 a = some (.lst (hs.map V.str))) (hR : H1 R = none) (few : hs.length ≤ 1000) (l : as.length = hs.length) (hw : ∀ x, wipe ((wipe σ vs).set i1 (some x)) vs = wipe σ vs)
    (he : ∀ (j : Nat) (h : Str) (c : Addr) (H : Hp), hs[j]? = some h → as[j]? = some c → Kp N0 H1 H → ∀ Q : VK, (∀ U, H U = none → Q (.ref U) (upd H U (.tup [.str h, .ref c]))) → te ((wipe σ vs).set i1 (some (.str h))) H Q)
    (hd : ∀ (H' : Hp) (ts : List Addr), Kp N0 H1 H' → H' R = some (.lst (ts.map V.ref)) → ts.length = hs.length → (∀ t ∈ ts, H1 t = none ∧ t ≠ R) → (∀ (j : Nat) (t c : Addr) (h : Str), ts[j]? = some t → as[j]? = some c → hs[j]? = some h → H' t = some (.tup [.str h, .ref c])) → Qd H') :
    ∃ W : Nat → Nat → Hp → Prop, (∃ m, W 0 m (upd H1 R (.lst []))) ∧ ∀ i m H, W i m H → ((Itl K a).stop i H ∧ Qd H) ∨ ((Itl K a).go i H ∧ ∃ Nx : Hp → Prop, (∀ H', Nx H' → ∃ m', m' < m ∧ W (i + 1) m' H') ∧ ∀ x H', (Itl K a).yld i H x H' → gName i1 x (wipe σ vs) H' fun σ2 H2 => wipe σ2 vs = wipe σ vs ∧ tYes σ2 H2 fun b H3 =>
      if b = true then te σ2 H3 fun y H4 => ∃ acc, H4 R = some (.lst acc) ∧ acc.length < sizeLine ∧ Nx (upd H4 R (.lst (acc ++ [y]))) else Nx H3) := by
  refine lc_it (walk_list (xs := hs.map V.str)) (Pv := fun i H' => ∃ ts : List Addr, Kp N0 H1 H' ∧ H' R = some (.lst (ts.map V.ref)) ∧ ts.length = i ∧ (∀ t ∈ ts, H1 t = none ∧ t ≠ R) ∧ ∀ (j : Nat) (t c : Addr) (h : Str), ts[j]? = some t → as[j]? = some c → hs[j]? = some h → H' t = some (.tup [.str h, .ref c]))
    ⟨[], Kp.new hR, upd_same, rfl, (fun _ z => nomatch z), fun j t c h e => by simp at e⟩ (fun i H' _ ⟨_, k, _⟩ => SqL.of (k.obj ha ntl nn)) (fun i x H' H'' hi ⟨ts, k, aR, e1, n1, kn⟩ y => ?_) fun H' ⟨ts, k, aR, e1, n1, kn⟩ => ?_
  · obtain ⟨rfl, hx⟩ := y
    rw [List.length_map] at hi
    have q1 : hs[i]? = some hs[i] := List.getElem?_eq_getElem hi
    have q2 : as[i]? = some (as[i]'(by omega)) := List.getElem?_eq_getElem (by omega)
    generalize as[i]'(by omega) = b at q2
    generalize hs[i] = h at q1
    rw [List.getElem?_map, q1] at hx
    have ex : V.str h = x := Option.some.inj hx
    subst ex
    refine ⟨hw _, ?_⟩
    refine he i h b H'' q1 q2 k _ fun U fU => ?_
    have kU : Kp N0 H'' (upd H'' U (.tup [.str h, .ref b])) := Kp.new fU
    have aU : (upd H'' U (.tup [.str h, .ref b])) U = some (.tup [.str h, .ref b]) := upd_same
    have aR2 := kU.obj aR ntl nn
    generalize upd H'' U (.tup [.str h, .ref b]) = H2 at kU aU aR2 ⊢
    have UR : U ≠ R := fun e => by rw [e, aR] at fU; cases fU
    refine ⟨_, aR2, by rw [List.length_map, e1, sizeLine_eq]; omega, ts ++ [U], (k.trans kU).mut hR, ?_, by rw [List.length_append, e1]; rfl, fun c hc => ?_, fun j t c h' x1 x2 x3 => ?_⟩
    · rw [upd_same, List.map_append]
      rfl
    · rcases List.mem_append.mp hc with z | z
      · exact n1 c z
      · rw [List.mem_singleton.mp z]
        exact ⟨k.fresh fU, UR⟩
    · rcases Nat.lt_or_ge j i with lt | ge
      · rw [List.getElem?_append_left (by omega)] at x1
        rw [upd_ne (n1 t (List.mem_of_getElem? x1)).2]
        exact kU.obj (kn j t c h' x1 x2 x3) ntt nn
      · have ej : j = i := by
          have z := (List.getElem?_eq_some_iff.mp x1).1
          rw [List.length_append, e1] at z
          have z' : j < i + 1 := z
          omega
        subst ej
        rw [List.getElem?_append_right (by omega), e1, Nat.sub_self] at x1
        have x1' : U = t := by simpa using x1
        rw [q2] at x2
        rw [q1] at x3
        have x2' := Option.some.inj x2
        have x3' := Option.some.inj x3
        subst x1' x2' x3'
        rw [upd_ne UR]
        exact aU
  · rw [List.length_map] at e1
    exact hd H' ts k aR e1 n1 kn
theorem cab_dn {S : Addr → Prop} {H : Hp} {f : Str → List Str} : ∀ {hs : List Str} {ts as : List Addr}, ts.length = hs.length → as.length = hs.length → (∀ t ∈ ts, ¬ S t) → (∀ a ∈ as, ¬ S a) → (∀ (j : Nat) (t c : Addr) (h : Str), ts[j]? = some t → as[j]? = some c → hs[j]? = some h → H t = some (.tup [.str h, .ref c]) ∧ H c = some (.lst ((f h).map V.str))) →
    DnA S H (ts.map V.ref) (hs.map fun h => .tuple [.str h, .list ((f h).map PyData.str)])
  | [], [], as, _, _, _, _, _ => .nil
  | [], t :: ts, _, h, _, _, _, _ => by cases h
  | h :: hs, [], _, e, _, _, _, _ => by cases e
  | h :: hs, t :: ts, [], _, e, _, _, _ => by cases e
  | h :: hs, t :: ts, a :: as, l1, l2, s1, s2, k => by
    obtain ⟨z1, z2⟩ := k 0 t a h rfl rfl rfl
    exact .cons (.tup (s1 t List.mem_cons_self) z1 (.cons (.str h) (.cons (.lst (s2 a List.mem_cons_self) z2 (DnA.strs _)) .nil))) (cab_dn (Nat.succ.inj l1) (Nat.succ.inj l2) (fun x hx => s1 x (List.mem_cons_of_mem _ hx)) (fun x hx => s2 x (List.mem_cons_of_mem _ hx)) fun j t c h e1 e2 e3 => k (j + 1) t c h (by simpa using e1) (by simpa using e2) (by simpa using e3))
/-- at D a dict of heads, a list each; the lists are new since H0 -/
structure Lies (H0 H : Hp) (D : Addr) (hs : List Str) (g : Str → List Str) (as : List Addr) : Prop where
  dict : H D = some (.dK (dkv hs as))
  len : as.length = hs.length
  nd : as.Nodup
  new : ∀ a ∈ as, H0 a = none
  lst : ∀ (j : Nat) (a : Addr) (h : Str), as[j]? = some a → hs[j]? = some h → H a = some (.lst ((g h).map V.str))
theorem Lies.ne {H0 H : Hp} {D : Addr} {hs : List Str} {g : Str → List Str} {as : List Addr} (z : Lies H0 H D hs g as) : D ∉ as := fun m => by
  obtain ⟨j, hj, e⟩ := List.getElem_of_mem m
  have l := z.len
  have y := z.lst j D (hs[j]'(by omega)) (by rw [List.getElem?_eq_getElem hj, e]) (List.getElem?_eq_getElem _)
  rw [z.dict] at y
  cases y
theorem Lies.kp {S : Addr → Prop} {H0 H H' : Hp} {D : Addr} {hs : List Str} {g : Str → List Str} {as : List Addr} (z : Lies H0 H D hs g as) (k : Kp S H H') (hD : ¬ S D) (ha : ∀ a ∈ as, ¬ S a) : Lies H0 H' D hs g as :=
  ⟨k.obj z.dict ntd hD, z.len, z.nd, z.new, fun j a h e1 e2 => k.obj (z.lst j a h e1 e2) ntl (ha a (List.mem_of_getElem? e1))⟩
theorem Lies.get {H0 H : Hp} {D : Addr} {hs : List Str} {g : Str → List Str} {as : List Addr} (z : Lies H0 H D hs g as) (hn : hs.Nodup) {h : Str} (hh : h ∈ hs) :
    ∃ (j : Nat) (a : Addr), as[j]? = some a ∧ hs[j]? = some h ∧ DGet H D (.str h) (some (.ref a)) ∧ H a = some (.lst ((g h).map V.str)) := by
  obtain ⟨j, hj⟩ := List.getElem?_of_mem hh
  have jl : j < as.length := by
    rw [z.len]
    exact (List.getElem?_eq_some_iff.mp hj).1
  have e1 : as[j]? = some as[j] := List.getElem?_eq_getElem jl
  have g := DGet.k (k := .inr h) z.dict
  rw [dkv_at hs as j h as[j] hn hj e1] at g
  exact ⟨j, as[j], e1, hj, g, z.lst j _ _ e1 hj⟩
theorem nd_at {α : Type} {l : List α} (nd : l.Nodup) {i j : Nat} {x : α} (h1 : l[i]? = some x) (h2 : l[j]? = some x) : i = j := by
  obtain ⟨a1, b1⟩ := List.getElem?_eq_some_iff.mp h1
  obtain ⟨a2, b2⟩ := List.getElem?_eq_some_iff.mp h2
  rcases Nat.lt_trichotomy i j with c | c | c
  · exact (List.pairwise_iff_getElem.mp nd i j a1 a2 c (b1.trans b2.symm)).elim
  · exact c
  · exact (List.pairwise_iff_getElem.mp nd j i a2 a1 c (b2.trans b1.symm)).elim
theorem Lies.mutL {H0 H : Hp} {D : Addr} {hs : List Str} {g : Str → List Str} {as : List Addr} (z : Lies H0 H D hs g as) (hn : hs.Nodup) {j : Nat} {a : Addr} {h : Str} (e1 : as[j]? = some a) (e2 : hs[j]? = some h) (l : List Str) :
    Lies H0 (upd H a (.lst (l.map V.str))) D hs (fun x => if x = h then l else g x) as := by
  have am := List.mem_of_getElem? e1
  have aD : D ≠ a := fun e => z.ne (by rw [e]; exact am)
  refine ⟨by rw [upd_ne aD]; exact z.dict, z.len, z.nd, z.new, fun i c x q1 q2 => ?_⟩
  by_cases c1 : c = a
  · subst c1
    have ij := nd_at z.nd q1 e1
    subst ij
    rw [e2] at q2
    have q3 := Option.some.inj q2
    subst q3
    rw [upd_same, if_pos rfl]
  · rw [upd_ne c1, if_neg]
    · exact z.lst i c x q1 q2
    · intro q3
      subst q3
      have ij := nd_at hn q2 e2
      subst ij
      rw [e1] at q1
      exact c1 (Option.some.inj q1).symm
theorem dkv_put : ∀ (hs : List Str) (as : List Addr) (j : Nat) (h : Str) (q : Addr), hs.Nodup → as.length = hs.length → hs[j]? = some h → putK (dkv hs as) (.inr h) (.ref q) = dkv hs (as.set j q) := fun hs as j h q nd l e => by
  have hv : valV (dkv hs as) (.inr h) = some (.ref (as[j]'(by have := (List.getElem?_eq_some_iff.mp e).1; omega))) := dkv_at hs as j h _ nd e (List.getElem?_eq_getElem _)
  unfold putK
  rw [if_pos (by rw [valV_any, hv]; rfl)]
  have key : ∀ (hs : List Str) (as : List Addr) (j : Nat), hs.Nodup → as.length = hs.length → hs[j]? = some h → (dkv hs as).map (fun kv => if kv.1 = (.inr h : Key) then (kv.1, V.ref q) else kv) = dkv hs (as.set j q) := by
    intro hs
    induction hs with
    | nil => intro as j _ _ e; simp at e
    | cons x hs ih =>
      intro as j nd l e
      obtain ⟨n1, n2⟩ := List.nodup_cons.mp nd
      cases as with
      | nil => cases l
      | cons a as =>
        have l' : as.length = hs.length := Nat.succ.inj l
        cases j with
        | zero =>
          have e' : x = h := by simpa using e
          subst e'
          have rest : (dkv hs as).map (fun kv => if kv.1 = (.inr x : Key) then (kv.1, V.ref q) else kv) = dkv hs as := by
            have : (dkv hs as).map (fun kv => if kv.1 = (.inr x : Key) then (kv.1, V.ref q) else kv) = (dkv hs as).map id := by
              refine List.map_congr_left fun kv hk => ?_
              unfold dkv at hk
              obtain ⟨p, hp, ep⟩ := List.mem_map.mp hk
              have hm := (List.of_mem_zip hp).1
              rw [if_neg]
              · rfl
              · intro c
                rw [← ep] at c
                exact n1 (by rw [← Sum.inr.inj c]; exact hm)
            rw [this, List.map_id]
          show (if (Sum.inr x : Key) = .inr x then ((.inr x : Key), V.ref q) else (.inr x, .ref a)) :: (dkv hs as).map _ = _
          rw [if_pos rfl, rest]
          rfl
        | succ j =>
          have e' : hs[j]? = some h := by simpa using e
          have ne : ¬ (Sum.inr x : Key) = .inr h := fun c => n1 (by rw [Sum.inr.inj c]; exact List.mem_of_getElem? e')
          show (if (Sum.inr x : Key) = .inr h then ((.inr x : Key), V.ref q) else (.inr x, .ref a)) :: (dkv hs as).map _ = _
          rw [if_neg ne, ih as j n2 l' e']
          rfl
  exact key hs as j nd l e
theorem Lies.putD {H0 H : Hp} {D : Addr} {hs : List Str} {g : Str → List Str} {as : List Addr} (z : Lies H0 H D hs g as) (hn : hs.Nodup) {j : Nat} {h : Str} (e2 : hs[j]? = some h) {l : List Str} {q : Addr} (q0 : H0 q = none) (hq : H q = some (.lst (l.map V.str))) (qn : q ∉ as) :
    Lies H0 (upd H D (.dK (putK (dkv hs as) (.inr h) (.ref q)))) D hs (fun x => if x = h then l else g x) (as.set j q) := by
  have qD : q ≠ D := fun e => by rw [e, z.dict] at hq; cases hq
  have jl : j < as.length := by
    rw [z.len]
    exact (List.getElem?_eq_some_iff.mp e2).1
  refine ⟨by rw [upd_same, dkv_put hs as j h q hn z.len e2], by rw [List.length_set]; exact z.len, ?_, fun c hc => ?_, fun i c x q1 q2 => ?_⟩
  · refine List.pairwise_iff_getElem.mpr fun i k hi hk lt => ?_
    rw [List.length_set] at hi hk
    rw [List.getElem_set, List.getElem_set]
    split
    · split
      · omega
      · intro e
        exact qn (by rw [e]; exact List.getElem_mem _)
    · split
      · intro e
        exact qn (by rw [← e]; exact List.getElem_mem _)
      · exact List.pairwise_iff_getElem.mp z.nd i k hi hk lt
  · rcases List.mem_or_eq_of_mem_set hc with y | y
    · exact z.new c y
    · rw [y]
      exact q0
  · by_cases ij : i = j
    · subst ij
      rw [List.getElem?_set_self jl] at q1
      have e := Option.some.inj q1
      subst e
      rw [e2] at q2
      have e := Option.some.inj q2
      subst e
      rw [upd_ne qD, if_pos rfl]
      exact hq
    · rw [List.getElem?_set_ne (fun e => ij e.symm)] at q1
      have cD : c ≠ D := fun e => z.ne (by rw [← e]; exact List.mem_of_getElem? q1)
      rw [upd_ne cD, if_neg]
      · exact z.lst i c x q1 q2
      · intro e
        subst e
        exact ij (nd_at hn q2 e2)
end Fc
set_option maxHeartbeats 4000000
/-! A cabinet with some sheets that lie otherwise. -/
namespace Fc
open PySem PySem.Spec PyProof.Rows L2
def odd3 : List Str := ["odd", "o", "dee"]
def nmW : List Str := nm0 ++ odd3
def ten : Str := "abcdefghij"
def qn (k : Nat) : Str := (("q" : Str) ++ signS (97 + k / 10)) ++ signS (97 + k % 10)
def qAll : List Str := (List.range 60).map qn
def wAll : List Str := nmW ++ qAll
theorem wAll_ok : ∀ x ∈ wAll, isWordM x = true := by decide +kernel
theorem wAll_nd : wAll.Nodup := by decide +kernel
theorem ten_at : ∀ k < 10, ten.cps[k]? = some (97 + k) := by decide
/-- rising lists of names of W -/
def FG (W hs : List Str) (g : Str → List Str) : Prop := ∀ h ∈ hs, Rs (g h) ∧ ∀ x ∈ g h, x ∈ W
theorem FG.mono {W W' hs : List Str} {g : Str → List Str} (z : FG W hs g) (k : ∀ x ∈ W, x ∈ W') : FG W' hs g := fun h hh => ⟨(z h hh).1, fun x hx => k x ((z h hh).2 x hx)⟩
theorem FG.len {W hs : List Str} {g : Str → List Str} (z : FG W hs g) {h : Str} (hh : h ∈ hs) : (g h).length ≤ W.length := nodup_le (z h hh).1.nd (z h hh).2
theorem FG.add {W hs : List Str} {g : Str → List Str} (z : FG W hs g) {t x : Str} (ht : t ∈ hs) (hx : x ∈ W) : FG W hs (fun y => if y = t then riseS (g t ++ [x]) else g y) := fun h hh => by
  show Rs (if h = t then _ else _) ∧ ∀ y ∈ (if h = t then _ else _), y ∈ W
  split
  · refine ⟨riseS_rs _, fun y hy => ?_⟩
    rcases List.mem_append.mp ((riseS_mem _ _).mp hy) with q | q
    · exact (z t ht).2 y q
    · rw [List.mem_singleton.mp q]
      exact hx
  · exact z h hh
theorem FG.less {W hs : List Str} {g : Str → List Str} (z : FG W hs g) {t : Str} (ht : t ∈ hs) (i : Nat) : FG W hs (fun y => if y = t then (g t).eraseIdx i else g y) := fun h hh => by
  show Rs (if h = t then _ else _) ∧ ∀ y ∈ (if h = t then _ else _), y ∈ W
  split
  · refine ⟨List.Pairwise.sublist (List.eraseIdx_sublist ..) (z t ht).1, fun y hy => (z t ht).2 y ((List.eraseIdx_sublist ..).subset hy)⟩
  · exact z h hh
theorem FG.good {rs : List Row} {g : Str → List Str} (z : FG wAll (ruleHeadsM rs) g) : GoodC rs g :=
  ⟨fun h hh x hx => wAll_ok x ((z h hh).2 x hx), fun h hh => (z h hh).1, fun h hh => Nat.le_trans (z.len hh) (by decide +kernel)⟩
theorem FG.more {hs : List Str} {g : Str → List Str} (z : FG nmW hs g) {t : Str} (ht : t ∈ hs) {n : Nat} (hn : n ≤ 60) : FG wAll hs (fun y => if y = t then riseS (g t ++ (List.range n).map qn) else g y) := fun h hh => by
  show Rs (if h = t then _ else _) ∧ ∀ y ∈ (if h = t then _ else _), y ∈ wAll
  split
  · refine ⟨riseS_rs _, fun y hy => ?_⟩
    rcases List.mem_append.mp ((riseS_mem _ _).mp hy) with q | q
    · exact List.mem_append_left _ ((z t ht).2 y q)
    · obtain ⟨k, hk, e⟩ := List.mem_map.mp q
      exact List.mem_append_right _ (List.mem_map.mpr ⟨k, by rw [List.mem_range] at hk ⊢; omega, e⟩)
  · exact ⟨(z h hh).1, fun x hx => List.mem_append_left _ ((z h hh).2 x hx)⟩
theorem more_nd {hs : List Str} {g : Str → List Str} (z : FG nmW hs g) {t : Str} (ht : t ∈ hs) {n : Nat} (hn : n ≤ 60) : (g t ++ (List.range n).map qn).Nodup := by
  obtain ⟨n1, n2, n3⟩ := List.nodup_append.mp wAll_nd
  refine List.nodup_append.mpr ⟨(z t ht).1.nd, ?_, fun x hx y hy => n3 x ((z t ht).2 x hx) y ?_⟩
  · refine List.Nodup.sublist ?_ n2
    have e : (List.range n).map qn = (qAll).take n := by
      unfold qAll
      rw [← List.map_take, List.take_range, Nat.min_eq_left hn]
    rw [e]
    exact List.take_sublist _ _
  · obtain ⟨k, hk, e⟩ := List.mem_map.mp hy
    exact List.mem_map.mpr ⟨k, by rw [List.mem_range] at hk ⊢; omega, e⟩
theorem FG.ok {hs : List Str} {g : Str → List Str} {W : List Str} (z : FG W hs g) (hw : ∀ x ∈ W, x ∈ wAll) {h : Str} (hh : h ∈ hs) : ∀ x ∈ g h, PyData.strOk x = true := fun x hx => isWordM_ok (wAll_ok x (hw x ((z h hh).2 x hx)))
/-- _law_foul(box, rule, cabinet) -/
def spFoul (W : List Str) : Sp := fun vs H Q _ => ∃ (b l : Addr) (v u : V) (rs : List Row) (f : Str → List Str), vs = [.ref b, v, u] ∧ Box H b l ∧ Dn N0 H v (ruleD rs) ∧ GoodR rs ∧ Dn N0 H u (drawD (ruleHeadsM rs) f) ∧ FG nm0 (ruleHeadsM rs) f ∧
  ∀ (g : Str → List Str) p H', FG W (ruleHeadsM rs) g → H p = none → Box H' b l → Kp (sB b l) H H' → Dn (sB b l) H' (.ref p) (drawD (ruleHeadsM rs) g) → Q (.ref p) H'
end Fc
set_option maxHeartbeats 4000000
/-! Cabinets compared; what is looked for, as data. -/
namespace Fc
open PySem PySem.Spec PyProof.Rows L2
section
variable {X : Cx} {K : PySem.W.Frag}
theorem call_dictPK (hcalm : X.calm = true) (hK : X.K = K := by rfl) : CallR X (.type "dict") (fun xs H Q => ∃ (a : Addr) (ps : List Addr) (kvs : List (Key × V)), xs = [.ref a] ∧ SqL K H a (ps.map V.ref) ∧ Paired (fun p kv => SqT K H p [kV kv.1, kv.2]) ps kvs ∧
    ∀ p, H p = none → Q (.ref p) (upd H p (.dK (mergeK [] kvs)))) := by
  subst hK
  exact call_dictP hcalm
end
theorem layC {f : Str → List Str} : ∀ {hs : List Str}, (∀ h ∈ hs, PyData.strOk h = true) → (∀ h ∈ hs, ∀ x ∈ f h, PyData.strOk x = true) → PyData.canLayAll0 (hs.map fun h => .tuple [.str h, .list ((f h).map PyData.str)]) = true
  | [], _, _ => by simp [PyData.canLayAll0]
  | h :: hs, h1, h2 => by
    have ih := layC (fun x hx => h1 x (List.mem_cons_of_mem _ hx)) (fun x hx => h2 x (List.mem_cons_of_mem _ hx))
    have a := h1 h List.mem_cons_self
    have b := layS (f h) (h2 h List.mem_cons_self)
    simp only [List.map_cons, PyData.canLayAll0, PyData.canLay0, a, b, ih, Bool.and_self]
theorem shapedC {f : Str → List Str} {hs : List Str} (h1 : ∀ h ∈ hs, PyData.strOk h = true) (h2 : ∀ h ∈ hs, ∀ x ∈ f h, PyData.strOk x = true) : SeqAt.shaped (drawD hs f) = true := by
  have a := layC h1 h2
  have d := depthD f hs
  unfold SeqAt.shaped drawD
  rw [Bool.and_eq_true]
  exact ⟨by simp only [PyData.canLay0]; exact a, decide_eq_true (by simp only [PyData.depth]; omega)⟩
theorem ruleHeads_ok {rs : List Row} (g : GoodR rs) : ∀ h ∈ ruleHeadsM rs, PyData.strOk h = true := fun h hh => by
  rcases List.mem_append.mp ((riseS_mem _ _).mp hh) with z | z
  · obtain ⟨r, hr, e⟩ := List.mem_map.mp z
    rw [← e]
    exact isRowM_ok (g.row r hr)
  · rw [List.mem_singleton.mp z]
    decide +kernel
def optP (o : Option Str) : PyData := (o.map PyData.str).getD .none
def lookD (p : Str → Bool) (out : List Str) : PyData := .tuple [.list ((upTo p out).map PyData.str), optP (out.find? p)]
theorem optV_dn {S : Addr → Prop} {H : Hp} (o : Option Str) : Dn S H (optV o) (optP o) := by
  cases o with
  | none => exact .non
  | some x => exact .str x
theorem upTo_sub (p : Str → Bool) : ∀ l : List Str, (upTo p l).Sublist l
  | [] => .slnil
  | x :: r => by
    unfold upTo
    split
    · exact (List.nil_sublist r).cons_cons x
    · exact (upTo_sub p r).cons_cons x
theorem lookD_small {rs : List Row} (g : GoodR rs) {m : Str} {out : List Str} (ho : orderM rs m out) (p : Str → Bool) : PyData.depth (lookD p out) < 3 ∧ PyData.weight (lookD p out) ≤ 1000000 := by
  have sm : ∀ z ∈ out, z.cps.size ≤ 1000 := fun z hz => by
    have c := ruleHeads_small g z ((orderM_mem ho z).mp hz)
    have e : z.length = z.cps.size := rfl
    omega
  have l1 := (upTo_sub p out).length_le
  have l2 := orderM_len ho
  have l3 := ruleHeads_len rs
  have few := g.few
  have w := weightS (upTo p out) fun z hz => sm z ((upTo_sub p out).subset hz)
  have d := depthS (upTo p out)
  have o : PyData.depth (optP (out.find? p)) = 0 ∧ PyData.weight (optP (out.find? p)) ≤ 1001 := by
    cases e : out.find? p with
    | none => exact ⟨by simp [optP, PyData.depth], by simp [optP, PyData.weight]⟩
    | some x =>
      have z := sm x (List.mem_of_find?_eq_some e)
      exact ⟨by simp [optP, PyData.depth], by simp only [optP, Option.map_some, Option.getD_some, PyData.weight]; omega⟩
  unfold lookD
  simp only [PyData.depth, PyData.depthAll, PyData.weight, PyData.weightAll, d, o.1]
  omega
theorem filter_head {p : Str → Bool} : ∀ {l : List Str} {x : Str} {r : List Str}, l.filter p = x :: r → ∃ j : Nat, l[j]? = some x ∧ (∀ y ∈ l.take j, p y = false) ∧ p x = true
  | [], _, _, h => by cases h
  | a :: l, x, r, h => by
    cases c : p a with
    | true =>
      rw [List.filter_cons, if_pos c] at h
      injection h with h1 h2
      subst h1
      exact ⟨0, rfl, (fun y hy => nomatch hy), c⟩
    | false =>
      rw [List.filter_cons, if_neg (by rw [c]; exact Bool.false_ne_true)] at h
      obtain ⟨j, h1, h2, h3⟩ := filter_head h
      refine ⟨j + 1, by simpa using h1, fun y hy => ?_, h3⟩
      rw [List.take_succ_cons] at hy
      rcases List.mem_cons.mp hy with z | z
      · rw [z]; exact c
      · exact h2 y z
theorem eqV_str (x y : Str) : eqV (.str x) (.str y) = decide (x = y) := by
  show (x == y) = _
  rw [Bool.eq_iff_iff]
  simp
end Fc
set_option maxHeartbeats 4000000
/-! A sheet behind slips: where it is looked for. -/
namespace Fc
open PySem PySem.Spec PyProof.Rows L2
section
variable {X : Cx} {K : PySem.W.Frag}
theorem cr_setTw {w : World} (hc : X.calm = true) (hw : X.w = w := by rfl) : CallR X (.type "set") (rSetT w) := by
  subst hw
  exact cr_setT hc
theorem sl_listK (h : X.K = K := by rfl) : SlR X (rSlL K) := by
  subst h
  exact sl_list
end
theorem slips_some {rs : List Row} {m : Str} {sl : List Nat} (h : sl.Sublist (namedM rs)) : ∃ c, slipsM rs m (mainM rs (afterM m sl)) = some c ∧ c ≤ sl.length := by
  unfold slipsM firstC
  have hm := (choices_mem (namedM rs) sl).mpr h
  cases e : (choices (namedM rs)).find? fun s => decide (mainM rs (afterM m s) = mainM rs (afterM m sl)) with
  | none =>
    have z := List.find?_eq_none.mp e sl hm
    exact (z (decide_eq_true rfl)).elim
  | some s =>
    exact ⟨s.length, rfl, find_min List.length _ (choices_up _) e sl hm (decide_eq_true rfl)⟩
theorem after_nil {m : Str} (h : isMarksM m = true) : afterM m [] = m := by
  have e : m = oS (a2h.cps.toList.filter (sg m)) := of_decide_eq_true h
  unfold afterM
  have z : (fun c => sg m c != decide (c ∈ ([] : List Nat))) = sg m := funext fun c => by
    have : decide (c ∈ ([] : List Nat)) = false := by simp
    rw [this]
    cases sg m c <;> rfl
  rw [z]
  exact e.symm
theorem slips_main {rs : List Row} {m : Str} (h : isMarksM m = true) : slipsM rs m (mainM rs m) = some 0 := by
  obtain ⟨c, e, l⟩ := slips_some (rs := rs) (m := m) (List.nil_sublist (namedM rs))
  rw [after_nil h] at e
  have : c = 0 := by simpa using l
  rw [e, this]
theorem slips_zero {rs : List Row} {m x : Str} (h : isMarksM m = true) (e : slipsM rs m x = some 0) : x = mainM rs m := by
  unfold slipsM firstC at e
  obtain ⟨s, hs, l⟩ := Option.map_eq_some_iff.mp e
  have sn : s = [] := List.length_eq_zero_iff.mp l
  have z := List.find?_some (p := fun sl => decide (mainM rs (afterM m sl) = x)) hs
  rw [sn, after_nil h] at z
  exact (of_decide_eq_true z).symm
def tog (named sl : List Nat) (c : Nat) : List Nat := named.filter fun x => decide (x ∈ sl) != decide (x = c)
theorem tog_sub (named sl : List Nat) (c : Nat) : (tog named sl c).Sublist named := List.filter_sublist
theorem tog_len {named sl : List Nat} {c : Nat} (nd : named.Nodup) : (tog named sl c).length ≤ sl.length + 1 := by
  refine nodup_le (m := c :: sl) (nd.sublist (tog_sub _ _ _)) fun x hx => ?_
  have z := (List.mem_filter.mp hx).2
  by_cases e : x = c
  · rw [e]
    exact List.mem_cons_self
  · rw [decide_eq_false e] at z
    refine List.mem_cons_of_mem _ ?_
    simpa using z
theorem tog_after {rs : List Row} {m : Str} {sl : List Nat} {c : Nat} (hs : sl.Sublist (namedM rs)) (hc : c ∈ namedM rs) : afterM (afterM m sl) [c] = afterM m (tog (namedM rs) sl c) := by
  unfold afterM
  congr 1
  refine List.filter_congr fun x hx => ?_
  rw [sg_oS]
  have e1 : decide (x ∈ a2h.cps.toList.filter fun c => sg m c != decide (c ∈ sl)) = (sg m x != decide (x ∈ sl)) := by
    rw [Bool.eq_iff_iff, decide_eq_true_eq, List.mem_filter]
    exact ⟨fun h => h.2, fun h => ⟨hx, h⟩⟩
  have e2 : decide (x ∈ [c]) = decide (x = c) := by simp
  have e3 : decide (x ∈ tog (namedM rs) sl c) = (decide (x ∈ sl) != decide (x = c)) := by
    unfold tog
    rw [Bool.eq_iff_iff, decide_eq_true_eq, List.mem_filter]
    refine ⟨fun h => h.2, fun h => ⟨?_, h⟩⟩
    by_cases y : x ∈ sl
    · exact hs.subset y
    · by_cases z : x = c
      · rw [z]
        exact hc
      · rw [decide_eq_false y, decide_eq_false z] at h
        cases h
  rw [e1, e2, e3]
  cases sg m x <;> cases decide (x ∈ sl) <;> cases decide (x = c) <;> rfl
theorem after_marks (m : Str) (sl : List Nat) : isMarksM (afterM m sl) = true := decide_eq_true (marks_of List.filter_sublist)
theorem order_ahead {rs : List Row} {m : Str} {out : List Str} (ho : orderM rs m out) {j : Nat} {h : Str} {c : Nat} (hj : out[j]? = some h) (hc : slipsM rs m h = some c) : ∀ x ∈ out.take j, ∃ c', slipsM rs m x = some c' ∧ c' ≤ c := by
  obtain ⟨ranked, so, nd, k, rfl⟩ := ho
  have jl : j < ranked.length := by
    rcases Nat.lt_or_ge j ranked.length with z | z
    · exact z
    · rw [List.getElem?_append_right (by rw [List.length_map]; exact z)] at hj
      have y := (List.mem_filter.mp (List.mem_of_getElem? hj)).2
      rw [hc] at y
      cases y
  rw [List.getElem?_append_left (by rw [List.length_map]; exact jl), List.getElem?_map, List.getElem?_eq_getElem jl] at hj
  have eh : ranked[j].2 = h := Option.some.inj hj
  intro x hx
  rw [List.take_append_of_le_length (by rw [List.length_map]; omega), ← List.map_take] at hx
  obtain ⟨q, hq, e⟩ := List.mem_map.mp hx
  obtain ⟨i, hi, ei⟩ := List.getElem_of_mem hq
  rw [List.length_take] at hi
  rw [List.getElem_take] at ei
  have il : i < ranked.length := by omega
  obtain ⟨n, en, sn⟩ := (k q.1 q.2).mp (List.mem_of_mem_take hq)
  obtain ⟨n2, en2, sn2⟩ := (k ranked[j].1 ranked[j].2).mp (List.getElem_mem jl)
  rw [eh, hc] at sn2
  have ec : c = n2 := Option.some.inj sn2
  have lt : lexI ranked[j] ranked[i] = false := List.pairwise_iff_getElem.mp so i j il jl (by omega)
  refine ⟨n, by rw [← e]; exact sn, ?_⟩
  rw [ei] at lt
  unfold lexI at lt
  split at lt
  · omega
  · have z := of_decide_eq_false lt
    omega
theorem order_first {rs : List Row} {m : Str} {out : List Str} (hm : isMarksM m = true) (ho : orderM rs m out) : out[0]? = some (mainM rs m) := by
  obtain ⟨ranked, so, nd, k, rfl⟩ := ho
  have hin : ((0 : Int), mainM rs m) ∈ ranked := (k _ _).mpr ⟨0, rfl, slips_main hm⟩
  cases ranked with
  | nil => cases hin
  | cons q r =>
    show some q.2 = _
    obtain ⟨h1, h2⟩ := List.pairwise_cons.mp so
    obtain ⟨n, en, sn⟩ := (k q.1 q.2).mp List.mem_cons_self
    rcases List.mem_cons.mp hin with z | z
    · rw [← z]
    · have lt : lexI ((0 : Int), mainM rs m) q = false := h1 _ z
      by_cases e : q.1 = 0
      · have n0 : n = 0 := by omega
        rw [n0] at sn
        rw [slips_zero hm sn]
      · unfold lexI at lt
        rw [if_neg (fun y => e y.symm)] at lt
        have y := of_decide_eq_false lt
        have y' : ¬ (0 : Int) < q.1 := y
        omega
/-- the one drawer with the sheet, the others without -/
def f8 (head h : Str) : List Str := if h = head then ["aa", "it"] else ["aa"]
theorem f8_it (head : Str) : (fun h => decide (("it" : Str) ∈ f8 head h)) = fun h => decide (h = head) := funext fun h => by
  unfold f8
  by_cases e : h = head
  · rw [if_pos e, decide_eq_true e]
    decide
  · rw [if_neg e, decide_eq_false e]
    decide
theorem f8_gone (head : Str) : (fun h => decide (("gone" : Str) ∈ f8 head h)) = fun _ => false := funext fun h => by
  unfold f8
  split <;> decide
theorem f8_good (rs : List Row) (head : Str) : GoodC rs (f8 head) := by
  refine ⟨fun h _ => ?_, fun h _ => ?_, fun h _ => ?_⟩
  · unfold f8
    split <;> decide +kernel
  · unfold f8
    split
    · unfold Rs
      decide +kernel
    · exact List.pairwise_singleton _ _
  · unfold f8
    split <;> decide
theorem f8_cut (head h : Str) : (["aa", "it"] : List Str).take ((1 : Int) + (if decide (h = head) = true then 1 else 0)).toNat = f8 head h := by
  unfold f8
  by_cases e : h = head
  · rw [decide_eq_true e, if_pos rfl, if_pos e]
    rfl
  · rw [decide_eq_false e, if_neg Bool.false_ne_true, if_neg e]
    rfl
theorem find_head {out : List Str} {j : Nat} {head : Str} (nd : out.Nodup) (hj : out[j]? = some head) : upTo (fun h => decide (h = head)) out = out.take j ++ [head] ∧ out.find? (fun h => decide (h = head)) = some head := by
  refine upTo_at hj (fun y hy => decide_eq_false fun e => ?_) (decide_eq_true rfl)
  rw [e] at hy
  obtain ⟨i, hi, ei⟩ := List.getElem_of_mem hy
  rw [List.length_take] at hi
  rw [List.getElem_take] at ei
  have il : i < out.length := by omega
  have := nd_at nd (i := i) (j := j) (x := head) (by rw [List.getElem?_eq_getElem il, ei]) hj
  omega
theorem shaped_one {h : Str} (z : PyData.strOk h = true) : SeqAt.shaped (.tuple [.list [.str h], .str h]) = true := by
  unfold SeqAt.shaped
  rw [Bool.and_eq_true]
  exact ⟨by simp [PyData.canLay0, PyData.canLayAll0, z], decide_eq_true (by simp [PyData.depth, PyData.depthAll])⟩
theorem rise_order {rs : List Row} {m : Str} {out : List Str} (ho : orderM rs m out) : riseS out = ruleHeadsM rs := (riseS_of (riseS_rs _) fun x => (orderM_mem ho x).symm).symm
end Fc
set_option maxHeartbeats 4000000
/-! Two rules: what parts them. -/
namespace Fc
open PySem PySem.Spec PyProof.Rows L2
def toldD (rs : List Row) (m : Str) : PyData := .tuple [.str (mainM rs m), .list ((headsM rs m).map PyData.str)]
def diffB (r1 r2 : List Row) (sl : List Nat) : Bool := !(decide (mainM r1 (oS sl) = mainM r2 (oS sl)) && decide (headsM r1 (oS sl) = headsM r2 (oS sl)))
def partM (r1 r2 : List Row) : Option (List Nat) := (choices (namedM (r1 ++ r2))).find? (diffB r1 r2)
def partO (r1 r2 : List Row) : Option (List Nat) → PyData
  | none => .none
  | some sl => .tuple [.str (oS sl), toldD r1 (oS sl), toldD r2 (oS sl)]
def partD (r1 r2 : List Row) : PyData := partO r1 r2 (partM r1 r2)
theorem eqvAll_str : ∀ l m : List Str, PyData.eqvAll (l.map PyData.str) (m.map PyData.str) = decide (l = m)
  | [], [] => by simp [PyData.eqvAll]
  | [], _ :: _ => by simp [PyData.eqvAll]
  | _ :: _, [] => by simp [PyData.eqvAll]
  | x :: l, y :: m => by
    have ih := eqvAll_str l m
    rw [List.map_cons, List.map_cons, PyData.eqvAll, ih, PyData.eqv]
    rw [Bool.eq_iff_iff, Bool.and_eq_true, decide_eq_true_eq, decide_eq_true_eq, beq_iff_eq, List.cons.injEq]
theorem eqv_told (r1 r2 : List Row) (sl : List Nat) : (!PyData.eqv (toldD r1 (oS sl)) (toldD r2 (oS sl))) = diffB r1 r2 sl := by
  unfold toldD diffB
  rw [PyData.eqv, PyData.eqvAll, PyData.eqvAll, PyData.eqvAll, PyData.eqv, PyData.eqv, eqvAll_str, Bool.and_true]
  congr 2
theorem turn_in {rs : List Row} {m z : Str} (h : z ∈ turnM rs m) : z ∈ ruleHeadsM rs := by
  refine (riseS_mem _ _).mpr ?_
  unfold turnM at h
  split at h
  · exact List.mem_append_right _ h
  · obtain ⟨r, hr, e⟩ := List.mem_map.mp h
    exact List.mem_append_left _ (List.mem_map.mpr ⟨r, (List.mem_filter.mp hr).1, e⟩)
theorem heads_in {rs : List Row} {m z : Str} (h : z ∈ headsM rs m) : z ∈ ruleHeadsM rs := turn_in ((riseS_mem _ _).mp h)
theorem told_shaped {rs : List Row} (g : GoodR rs) (m : Str) : SeqAt.shaped (toldD rs m) = true := by
  have ok := ruleHeads_ok g
  have a := ok _ (main_in rs m)
  have b := layS (headsM rs m) fun z hz => ok z (heads_in hz)
  have d := depthS (headsM rs m)
  unfold SeqAt.shaped toldD
  rw [Bool.and_eq_true]
  exact ⟨by simp only [PyData.canLay0, PyData.canLayAll0, a, b, Bool.and_self], decide_eq_true (by simp only [PyData.depth, PyData.depthAll, d]; omega)⟩
theorem told_small {rs : List Row} (g : GoodR rs) (m : Str) : PyData.depth (toldD rs m) = 2 ∧ PyData.weight (toldD rs m) ≤ 20000 := by
  have sm : ∀ z ∈ ruleHeadsM rs, z.cps.size ≤ 1000 := fun z hz => by
    have c := ruleHeads_small g z hz
    have e : z.length = z.cps.size := rfl
    omega
  have l := Nat.le_trans (riseS_len (turnM rs m)) (turnM_len rs m)
  have few := g.few
  have w := weightS (headsM rs m) fun z hz => sm z (heads_in hz)
  have w2 := sm _ (main_in rs m)
  have d := depthS (headsM rs m)
  unfold headsM at w d
  unfold toldD headsM
  simp only [PyData.depth, PyData.depthAll, PyData.weight, PyData.weightAll, d]
  omega
theorem part_small {r1 r2 : List Row} (g1 : GoodR r1) (g2 : GoodR r2) : PyData.depth (partD r1 r2) < 4 ∧ PyData.weight (partD r1 r2) ≤ 1000000 := by
  unfold partD
  cases e : partM r1 r2 with
  | none => exact ⟨by simp [partO, PyData.depth], by simp [partO, PyData.weight]⟩
  | some sl =>
    obtain ⟨a1, a2⟩ := told_small g1 (oS sl)
    obtain ⟨b1, b2⟩ := told_small g2 (oS sl)
    have l : sl.length ≤ 8 := by
      unfold partM at e
      have z := List.mem_of_find?_eq_some e
      exact Nat.le_trans ((choices_mem _ _).mp z).length_le (namedM_len _)
    have ls : (oS sl).cps.size ≤ 8 := by
      have e : (oS sl).length = (oS sl).cps.size := rfl
      rw [← e, oS_len]
      exact l
    simp only [partO, PyData.depth, PyData.depthAll, PyData.weight, PyData.weightAll, a1, b1]
    omega
/-! ### the first choice -/
theorem find_at {α : Type} {p : α → Bool} {A B : List α} {x : α} (h : ∀ a ∈ A, p a = false) (hx : p x = true) : (A ++ x :: B).find? p = some x := by
  rw [List.find?_append, List.find?_eq_none.mpr fun a ha => by rw [h a ha]; exact Bool.false_ne_true, List.find?_cons, hx]
  rfl
theorem choices_at {nm : List Nat} {i j : Nat} {sl : List Nat} (hi : i ≤ nm.length) (h : (combs i nm)[j]? = some sl) : ∃ B, choices nm = (((List.range i).flatMap fun k => combs k nm) ++ (combs i nm).take j) ++ sl :: B := by
  have e1 : List.range (nm.length + 1) = List.range i ++ (i :: (List.range (nm.length + 1)).drop (i + 1)) := by
    conv => lhs; rw [← List.take_append_drop i (List.range (nm.length + 1))]
    rw [List.take_range, Nat.min_eq_left (by omega)]
    congr 1
    rw [List.drop_eq_getElem_cons (by rw [List.length_range]; omega), List.getElem_range]
  have e2 : combs i nm = (combs i nm).take j ++ (sl :: (combs i nm).drop (j + 1)) := by
    obtain ⟨hl, he⟩ := List.getElem?_eq_some_iff.mp h
    conv => lhs; rw [← List.take_append_drop j (combs i nm)]
    rw [List.drop_eq_getElem_cons hl, he]
  unfold choices
  rw [e1, List.flatMap_append, List.flatMap_cons]
  conv => enter [1, B, 1, 2, 1]; rw [e2]
  exact ⟨(combs i nm).drop (j + 1) ++ ((List.range (nm.length + 1)).drop (i + 1)).flatMap (fun k => combs k nm), by simp only [List.append_assoc, List.cons_append]⟩
/-! ### in order of size and text -/
theorem combs_lt : ∀ (r : Nat) (xs : List Nat), xs.Pairwise (· < ·) → (combs r xs).Pairwise (fun a b : List Nat => a < b)
  | 0, xs, _ => by
    have e : combs 0 xs = [[]] := by cases xs <;> rfl
    rw [e]
    exact List.pairwise_singleton _ _
  | r + 1, [], _ => List.Pairwise.nil
  | r + 1, x :: xs, h => by
    obtain ⟨h1, h2⟩ := List.pairwise_cons.mp h
    show ((combs r xs).map (x :: ·) ++ combs (r + 1) xs).Pairwise _
    refine List.pairwise_append.mpr ⟨List.pairwise_map.mpr ((combs_lt r xs h2).imp fun z => List.Lex.cons z), combs_lt (r + 1) xs h2, fun a ha b hb => ?_⟩
    obtain ⟨a', _, ea⟩ := List.mem_map.mp ha
    obtain ⟨sb, lb⟩ := (combs_mem (r + 1) xs b).mp hb
    cases b with
    | nil => cases lb
    | cons y b =>
      rw [← ea]
      exact List.Lex.rel (h1 y (sb.subset List.mem_cons_self))
def kk (sl : List Nat) : I2 := ((sl.length : Nat), oS sl)
theorem choices_lex {xs : List Nat} (h : xs.Pairwise (· < ·)) : (choices xs).Pairwise fun a b => lexI (kk a) (kk b) = true := by
  unfold choices
  have key : ∀ L : List Nat, L.Pairwise (· < ·) → (L.flatMap fun k => combs k xs).Pairwise fun a b => lexI (kk a) (kk b) = true := by
    intro L
    induction L with
    | nil => exact fun _ => List.Pairwise.nil
    | cons k L ih =>
      intro hl
      obtain ⟨h1, h2⟩ := List.pairwise_cons.mp hl
      rw [List.flatMap_cons]
      refine List.pairwise_append.mpr ⟨?_, ih h2, fun a ha b hb => ?_⟩
      · refine List.Pairwise.imp_of_mem (fun {a b} ha hb z => ?_) (combs_lt k xs h)
        have la := ((combs_mem k xs a).mp ha).2
        have lb := ((combs_mem k xs b).mp hb).2
        unfold lexI kk
        rw [if_pos (by show (a.length : Int) = b.length; omega)]
        unfold ltS
        exact decide_eq_true (by show (oS a).cps.toList < (oS b).cps.toList; rw [oS_cps, oS_cps]; exact z)
      · obtain ⟨j, hj, hb⟩ := List.mem_flatMap.mp hb
        have lt := h1 j hj
        have la := ((combs_mem k xs a).mp ha).2
        have lb := ((combs_mem j xs b).mp hb).2
        unfold lexI kk
        rw [if_neg (by show ¬ (a.length : Int) = b.length; omega)]
        exact decide_eq_true (by show (a.length : Int) < b.length; omega)
  exact key _ List.pairwise_lt_range
theorem named_lt (rs : List Row) : (namedM rs).Pairwise (· < ·) := List.Pairwise.sublist List.filter_sublist (by decide)
theorem subs_nd : ∀ {xs : List Nat}, xs.Nodup → (subsTo [[]] xs).Nodup := fun {xs} h => by
  have key : ∀ (ys : List Nat), (ys.reverse).Nodup → (subsTo [[]] ys.reverse).Nodup := by
    intro ys
    induction ys with
    | nil =>
      intro _
      show ([[]] : List (List Nat)).Nodup
      exact List.pairwise_singleton _ _
    | cons c ys ih =>
      intro nd
      rw [List.reverse_cons] at nd ⊢
      obtain ⟨n1, n2, n3⟩ := List.nodup_append.mp nd
      have i := ih n1
      rw [subsTo_snoc]
      refine List.nodup_append.mpr ⟨i, List.pairwise_map.mpr (i.imp fun z e => z (List.append_cancel_right e)), fun a ha b hb e => ?_⟩
      obtain ⟨d, _, ed⟩ := List.mem_map.mp hb
      have ca : c ∈ a := by
        rw [e, ← ed]
        exact List.mem_append_right _ List.mem_cons_self
      exact n3 c (((subs_mem _ a).mp ha).subset ca) c List.mem_cons_self rfl
  have z := key xs.reverse (by rw [List.reverse_reverse]; exact h)
  rw [List.reverse_reverse] at z
  exact z
theorem kk_inj {a b : List Nat} (h : kk a = kk b) : a = b := by
  have z := congrArg (fun q : I2 => q.2.cps.toList) h
  have e : ∀ l : List Nat, (kk l).2.cps.toList = l := fun l => oS_cps l
  rw [← e a, ← e b]
  exact z
/-- the choices, sorted by their size and text -/
theorem choices_sorted {rs : List Row} {ys : List I2} (so : SrtO.Srtd (fun v u => lexI v u) ys) (pm : ys.Perm ((subsTo [[]] (namedM rs)).map kk)) : ys = (choices (namedM rs)).map kk := by
  have cl := choices_lex (named_lt rs)
  have cs : SrtO.Srtd (fun v u => lexI v u) ((choices (namedM rs)).map kk) := List.pairwise_map.mpr (cl.imp fun z => lexI_asym z)
  have cn : ((choices (namedM rs)).map kk).Nodup := List.pairwise_map.mpr (cl.imp fun {a b} z e => by rw [e, lexI_irr] at z; cases z)
  have sn : ((subsTo [[]] (namedM rs)).map kk).Nodup := List.pairwise_map.mpr ((subs_nd (namedM_nd rs)).imp fun z e => z (kk_inj e))
  refine srtd_uniq so cs (pm.trans ((List.perm_ext_iff_of_nodup sn cn).mpr fun x => ?_))
  rw [List.mem_map, List.mem_map]
  exact ⟨fun ⟨s, hs, e⟩ => ⟨s, (choices_mem _ _).mpr ((subs_mem _ _).mp hs), e⟩, fun ⟨s, hs, e⟩ => ⟨s, (subs_mem _ _).mpr ((choices_mem _ _).mp hs), e⟩⟩
/-! ### both ways, any marks -/
theorem named_swap (r1 r2 : List Row) : namedM (r1 ++ r2) = namedM (r2 ++ r1) := by
  unfold namedM
  refine List.filter_congr fun c _ => ?_
  unfold allS
  rw [List.flatMap_append, List.flatMap_append]
  refine decide_eq_decide.mpr ?_
  rw [List.mem_append, List.mem_append]
  exact Or.comm
theorem part_swap (r1 r2 : List Row) : partM r2 r1 = partM r1 r2 := by
  unfold partM
  rw [named_swap]
  congr 1
  funext sl
  unfold diffB
  rw [show decide (mainM r2 (oS sl) = mainM r1 (oS sl)) = decide (mainM r1 (oS sl) = mainM r2 (oS sl)) from decide_eq_decide.mpr eq_comm,
    show decide (headsM r2 (oS sl) = headsM r1 (oS sl)) = decide (headsM r1 (oS sl) = headsM r2 (oS sl)) from decide_eq_decide.mpr eq_comm]
theorem turn_congr {rs : List Row} {m n : Str} (h : ∀ c ∈ allS rs, sg m c = sg n c) : turnM rs m = turnM rs n := by
  have hh : heldM rs m = heldM rs n := by
    unfold heldM
    congr 1
    refine List.filter_congr fun r hr => ?_
    have h1 : ∀ c ∈ r.2.1.cps.toList, sg m c = sg n c := fun c hc => h c (List.mem_flatMap.mpr ⟨r, hr, List.mem_append_left _ hc⟩)
    have h2 : ∀ c ∈ r.2.2.cps.toList, sg m c = sg n c := fun c hc => h c (List.mem_flatMap.mpr ⟨r, hr, List.mem_append_right _ hc⟩)
    have all_c : ∀ l : List Nat, (∀ c ∈ l, sg m c = sg n c) → l.all (sg m) = l.all (sg n) ∧ l.any (sg m) = l.any (sg n) := by
      intro l
      induction l with
      | nil => exact fun _ => ⟨rfl, rfl⟩
      | cons x l ih =>
        intro k
        obtain ⟨i1, i2⟩ := ih fun c hc => k c (List.mem_cons_of_mem _ hc)
        rw [List.all_cons, List.all_cons, List.any_cons, List.any_cons, i1, i2, k x List.mem_cons_self]
        exact ⟨rfl, rfl⟩
    unfold holdsM
    rw [(all_c _ h1).1, (all_c _ h2).2]
  unfold turnM
  rw [hh]
theorem part_none {r1 r2 : List Row} (g1 : ∀ r ∈ r1, isRowM r = true) (g2 : ∀ r ∈ r2, isRowM r = true) (h : partM r1 r2 = none) (m : Str) : mainM r1 m = mainM r2 m ∧ headsM r1 m = headsM r2 m := by
  have g : ∀ r ∈ r1 ++ r2, isRowM r = true := fun r hr => (List.mem_append.mp hr).elim (g1 r) (g2 r)
  let sl := (namedM (r1 ++ r2)).filter (sg m)
  have hs : sl ∈ choices (namedM (r1 ++ r2)) := (choices_mem _ _).mpr List.filter_sublist
  have z := List.find?_eq_none.mp h sl hs
  have c : ∀ c ∈ allS (r1 ++ r2), sg m c = sg (oS sl) c := fun c hc => by
    rw [sg_oS]
    have hn := (namedM_mem g c).mpr hc
    rw [Bool.eq_iff_iff, decide_eq_true_eq, List.mem_filter]
    exact ⟨fun y => ⟨hn, y⟩, fun y => y.2⟩
  have a1 : allS (r1 ++ r2) = allS r1 ++ allS r2 := by
    unfold allS
    rw [List.flatMap_append]
  rw [a1] at c
  have t1 := turn_congr (rs := r1) (m := m) (n := oS sl) fun x hx => c x (List.mem_append_left _ hx)
  have t2 := turn_congr (rs := r2) (m := m) (n := oS sl) fun x hx => c x (List.mem_append_right _ hx)
  have d : diffB r1 r2 sl = false := by
    cases q : diffB r1 r2 sl with
    | false => rfl
    | true => exact (z q).elim
  unfold diffB at d
  rw [Bool.not_eq_false', Bool.and_eq_true, decide_eq_true_eq, decide_eq_true_eq] at d
  unfold mainM headsM at d ⊢
  rw [t1, t2]
  exact d
/-! ### rows taken and left out -/
theorem DnA.take {S : Addr → Prop} {H : Hp} : ∀ {xs : List V} {ds : List PyData} (n : Nat), DnA S H xs ds → DnA S H (xs.take n) (ds.take n)
  | _, _, 0, _ => by
    rw [List.take_zero, List.take_zero]
    exact .nil
  | _, _, n + 1, .nil => by
    rw [List.take_nil, List.take_nil]
    exact .nil
  | _, _, n + 1, .cons h t => .cons h (DnA.take n t)
theorem DnA.drop {S : Addr → Prop} {H : Hp} : ∀ {xs : List V} {ds : List PyData} (n : Nat), DnA S H xs ds → DnA S H (xs.drop n) (ds.drop n)
  | _, _, 0, h => h
  | _, _, n + 1, .nil => by
    rw [List.drop_nil, List.drop_nil]
    exact .nil
  | _, _, n + 1, .cons h t => DnA.drop n t
theorem cutV_drop (xs : List V) {j : Int} (h : 0 ≤ j) : cutV xs (some j) none = xs.drop j.toNat := by
  have e : j = ((j.toNat : Nat) : Int) := by omega
  unfold cutV
  rw [HT.sIx_none, e, HT.sIx_nat, Int.toNat_natCast]
  rcases Nat.le_total j.toNat xs.length with z | z
  · rw [Nat.min_eq_left z, List.take_of_length_le (by rw [List.length_drop]; omega)]
  · rw [Nat.min_eq_right z, Nat.sub_self, List.take_zero, List.drop_of_length_le z]
theorem cutS_one (z : Str) : (cutS z (some 1) none).cps.toList = z.cps.toList.drop 1 := by
  have el : z.length = z.cps.toList.length := by simp [PySem.Str.length]
  have e : (1 : Int) = ((1 : Nat) : Int) := rfl
  unfold cutS
  rw [HT.sIx_none, e, HT.sIx_nat]
  rcases Nat.le_total 1 z.length with y | y
  · rw [Nat.min_eq_left y]
    exact List.take_of_length_le (by rw [List.length_drop]; omega)
  · rw [Nat.min_eq_right y, Nat.sub_self]
    rw [show List.drop 1 z.cps.toList = [] from List.drop_of_length_le (by omega)]
    rfl
theorem cutS_last (z : Str) : (cutS z none (some (-1))).cps.toList = z.cps.toList.dropLast := by
  have el : z.length = z.cps.toList.length := by simp [PySem.Str.length]
  unfold cutS
  rw [HT.sIx_none]
  have e : HT.sIx z.length z.length (some (-1)) = z.length - 1 := by
    show (if (-1 : Int) < 0 then ((-1 : Int) + (z.length : Int)).toNat else min (-1 : Int).toNat z.length) = z.length - 1
    rw [if_pos (by decide)]
    omega
  rw [e, List.drop_zero, Nat.sub_zero, List.dropLast_eq_take, el]
theorem eqv_rule_nil (rs : List Row) : PyData.eqv (ruleD rs) (.list []) = rs.isEmpty := by
  cases rs with
  | nil => simp [ruleD, PyData.eqv, PyData.eqvAll]
  | cons r rs => simp [ruleD, PyData.eqv, PyData.eqvAll]
theorem sub_marks {l : List Nat} {t : Str} (h : isMarksM t = true) (s : l.Sublist t.cps.toList) : isMarksM (oS l) = true := by
  have e : t = oS (a2h.cps.toList.filter (sg t)) := of_decide_eq_true h
  have e3 : t.cps.toList = a2h.cps.toList.filter (sg t) := (congrArg (fun z : Str => z.cps.toList) e).trans (oS_cps _)
  refine decide_eq_true (marks_of ?_)
  rw [e3] at s
  exact s.trans List.filter_sublist
/-- a row with another head that can be, and with fewer needs and bars -/
theorem row_less {h : Str} {r : Row} {a b : List Nat} (hr : isRowM r = true) (hw : isWordM h = true ∧ h ≠ "rest") (sa : a.Sublist r.2.1.cps.toList) (sb : b.Sublist r.2.2.cps.toList) : isRowM (h, oS a, oS b) = true := by
  unfold isRowM at hr ⊢
  simp only [Bool.and_eq_true, Bool.not_eq_true'] at hr ⊢
  obtain ⟨_, ⟨m1, m2⟩, d⟩ := hr
  refine ⟨⟨hw.1, decide_eq_false hw.2⟩, ⟨sub_marks m1 sa, sub_marks m2 sb⟩, ?_⟩
  rw [oS_cps, List.any_eq_false]
  intro c hc z
  rw [sg_oS] at z
  have y := List.any_eq_false.mp d c (sa.subset hc)
  exact y (decide_eq_true (sb.subset (of_decide_eq_true z)))
theorem row_head {r : Row} (hr : isRowM r = true) : isWordM r.1 = true ∧ r.1 ≠ "rest" := by
  unfold isRowM at hr
  simp only [Bool.and_eq_true, Bool.not_eq_true'] at hr
  exact ⟨hr.1.1, of_decide_eq_false hr.1.2⟩
theorem GoodR.of {r1 r2 : List Row} (g : GoodR r1) (few : r2.length ≤ 12) (row : ∀ r ∈ r2, isRowM r = true) (hd : ∀ r ∈ r2, ∃ q ∈ r1, q.1 = r.1) : GoodR r2 := by
  obtain ⟨hs, h6, hm⟩ := g.heads
  exact ⟨few, row, hs, h6, fun r hr => by
    obtain ⟨q, hq, e⟩ := hd r hr
    rw [← e]
    exact hm q hq⟩
theorem GoodR.sub {r1 r2 : List Row} (g : GoodR r1) (few : r2.length ≤ 12) (h : ∀ r ∈ r2, r ∈ r1) : GoodR r2 := g.of few (fun r hr => g.row r (h r hr)) fun r hr => ⟨r, h r hr, rfl⟩
/-! ### what is promised -/
def spTold (T : List Addr) : Sp := fun vs H Q _ => ∃ (v : V) (rs : List Row) (m : Str), vs = [v, .str m] ∧ Dn N0 H v (ruleD rs) ∧ rs.length ≤ 50 ∧ Tbs T H ∧ ∀ t H', H t = none → Kp N0 H H' → Dn N0 H' (.ref t) (toldD rs m) → Q (.ref t) H'
def spToldL : Sp := fun vs H Q _ => ∃ (v : V) (rs : List Row) (m : Str), vs = [v, .str m] ∧ Dn N0 H v (ruleD rs) ∧ GoodR rs ∧ ∀ t H', H t = none → Kp N0 H H' → Dn N0 H' (.ref t) (toldD rs m) → Q (.ref t) H'
def spParting (T : List Addr) : Sp := fun vs H Q _ => ∃ (v u : V) (r1 r2 : List Row), vs = [v, u] ∧ Dn N0 H v (ruleD r1) ∧ Dn N0 H u (ruleD r2) ∧ GoodR r1 ∧ GoodR r2 ∧ Tbs T H ∧ ∀ x H', Kp N0 H H' → Dn N0 H' x (partD r1 r2) → Q x H'
def spAlikeP (T : List Addr) : Sp := fun vs H Q _ => ∃ (v u : V) (r1 r2 : List Row), vs = [v, u] ∧ Dn N0 H v (ruleD r1) ∧ Dn N0 H u (ruleD r2) ∧ GoodR r1 ∧ GoodR r2 ∧ Tbs T H ∧ ∀ H', Kp N0 H H' → Q (.bl (partM r1 r2).isNone) H'
def spDue12 : Sp := fun vs H Q _ => ∃ (v u : V) (r1 r2 : List Row), vs = [v, u] ∧ Dn N0 H v (ruleD r1) ∧ Dn N0 H u (ruleD r2) ∧ GoodR r1 ∧ GoodR r2 ∧ ∀ x H', Kp N0 H H' → Dn N0 H' x (partD r1 r2) → Q x H'
def spLikely : Sp := fun vs H Q _ => ∃ (b l : Addr) (v : V) (rs : List Row), vs = [.ref b, v] ∧ Box H b l ∧ Dn (sB b l) H v (ruleD rs) ∧ GoodR rs ∧ ∀ (r2 : List Row) p H', GoodR r2 → Box H' b l → Kp (sB b l) H H' → Dn (sB b l) H' (.ref p) (ruleD r2) → Q (.ref p) H'
end Fc
set_option maxHeartbeats 4000000
/-! Triples of texts in order. -/
namespace Fc
open PySem PySem.Spec PyProof.Rows L2
def lex3 (p q : Row) : Bool := if p.1 = q.1 then lexS p.2 q.2 else ltS p.1 q.1
theorem lex3_tri (p q : Row) : lex3 p q = true ∨ p = q ∨ lex3 q p = true := by
  obtain ⟨p1, p2⟩ := p
  obtain ⟨q1, q2⟩ := q
  unfold lex3
  by_cases e : p1 = q1
  · subst e
    rw [if_pos rfl, if_pos rfl]
    rcases lexS_tri p2 q2 with z | z | z
    · exact .inl z
    · exact .inr (.inl (by rw [z]))
    · exact .inr (.inr z)
  · rw [if_neg e, if_neg (fun z => e z.symm)]
    rcases ltS_tri p1 q1 with z | z | z
    · exact .inl z
    · exact (e z).elim
    · exact .inr (.inr z)
theorem lex3_irr (p : Row) : lex3 p p = false := by
  unfold lex3
  rw [if_pos rfl]
  exact lexS_irr _
theorem lex3_trans {p q r : Row} (h : lex3 p q = true) (k : lex3 q r = true) : lex3 p r = true := by
  obtain ⟨p1, p2⟩ := p
  obtain ⟨q1, q2⟩ := q
  obtain ⟨r1, r2⟩ := r
  unfold lex3 at h k ⊢
  by_cases e1 : p1 = q1
  · subst e1
    rw [if_pos rfl] at h
    by_cases e2 : p1 = r1
    · subst e2
      rw [if_pos rfl] at k ⊢
      exact lexS_trans h k
    · rw [if_neg e2] at k ⊢
      exact k
  · rw [if_neg e1] at h
    by_cases e2 : q1 = r1
    · subst e2
      rw [if_neg e1]
      exact h
    · rw [if_neg e2] at k
      have t := ltS_trans h k
      rw [if_neg]
      · exact t
      · intro e
        have e' : p1 = r1 := e
        subst e'
        have y := ltS_asym h
        have h' : ltS q1 p1 = true := k
        rw [h'] at y
        cases y
theorem lex3_asym {p q : Row} (h : lex3 p q = true) : lex3 q p = false := by
  cases z : lex3 q p with
  | false => rfl
  | true =>
    have t := lex3_trans h z
    rw [lex3_irr] at t
    cases t
theorem swo_lex3 {α : Type} (k : α → Row) : SrtO.Swo fun v u => lex3 (k v) (k u) := by
  refine ⟨fun x y h => lex3_asym h, fun x y z h1 h2 => ?_⟩
  show lex3 (k z) (k x) = false
  cases c : lex3 (k z) (k x) with
  | false => rfl
  | true =>
    have h1' : lex3 (k y) (k x) = false := h1
    have h2' : lex3 (k z) (k y) = false := h2
    rcases lex3_tri (k x) (k y) with q | q | q
    · have t := lex3_trans c q
      rw [t] at h2'
      cases h2'
    · rw [q] at c
      rw [c] at h2'
      cases h2'
    · rw [q] at h1'
      cases h1'
def le3 (a b : Row) : Bool := !lex3 b a
def sort3 (l : List Row) : List Row := l.mergeSort le3
theorem le3_trans (a b c : Row) (h1 : le3 a b = true) (h2 : le3 b c = true) : le3 a c = true := by
  unfold le3 at h1 h2 ⊢
  rw [Bool.not_eq_true'] at h1 h2 ⊢
  exact (swo_lex3 (fun x : Row => x)).2 a b c h1 h2
theorem le3_total (a b : Row) : (le3 a b || le3 b a) = true := by
  unfold le3
  cases z : lex3 b a with
  | false => rfl
  | true => rw [lex3_asym z]; rfl
theorem sort3_perm (l : List Row) : (sort3 l).Perm l := List.mergeSort_perm l le3
theorem sort3_srtd (l : List Row) : SrtO.Srtd (fun v u => lex3 v u) (sort3 l) := by
  have z := List.pairwise_mergeSort (le := le3) le3_trans le3_total l
  exact z.imp fun {a b} h => by
    have y : (!lex3 b a) = true := h
    simpa using y
theorem srtd3_uniq {l m : List Row} (hl : SrtO.Srtd (fun v u => lex3 v u) l) (hm : SrtO.Srtd (fun v u => lex3 v u) m) (p : l.Perm m) : l = m := by
  refine List.Perm.eq_of_pairwise (le := fun a b => lex3 b a = false) (fun a b _ _ h1 h2 => ?_) hl hm p
  rcases lex3_tri a b with z | z | z
  · rw [z] at h2
    cases h2
  · exact z
  · rw [z] at h1
    cases h1
theorem sort3_eq {l m : List Row} (hl : SrtO.Srtd (fun v u => lex3 v u) l) (p : l.Perm m) : l = sort3 m := srtd3_uniq hl (sort3_srtd m) (p.trans (sort3_perm m).symm)
theorem sort3_congr {l m : List Row} (p : l.Perm m) : sort3 l = sort3 m := sort3_eq (sort3_srtd l) ((sort3_perm l).trans p)
theorem sort3_len (l : List Row) : (sort3 l).length = l.length := (sort3_perm l).length_eq
theorem sort3_mem (l : List Row) (x : Row) : x ∈ sort3 l ↔ x ∈ l := (sort3_perm l).mem_iff
/-- v: a tuple of the three texts -/
def ThreeS (h : Heap) (v : Value) (p : Row) : Prop := ∃ a o t u i n, v = .ref a ∧ h.get? a = some o ∧ o.cls = .type "tuple" ∧ o.data = .seq #[.str p.1 t, .str p.2.1 u, .str p.2.2 i] n
theorem ThreeS.over {h h' : Heap} {v : Value} {p : Row} (z : ThreeS h v p) (k : ∀ b o, h.get? b = some o → o.cls = .type "tuple" → h'.get? b = some o) : ThreeS h' v p := by
  obtain ⟨a, o, t, u, i, n, e, ho, hc, hd⟩ := z
  exact ⟨a, o, t, u, i, n, e, k _ _ ho hc, hc, hd⟩
section
variable {prog : Program} {w : World} {A : Around} {s : Shared}
theorem three_heads {h : Heap} (k : Value → Row) (vs : List Value) (hp : ∀ v ∈ vs, ThreeS h v (k v)) : ∃ fs : List Value, PySem.W.KatTups h vs fs ∧ fs.length = vs.length ∧ ∀ f ∈ fs, ∃ x t, f = Value.str x t := by
  induction vs with
  | nil => exact ⟨[], PySem.W.KatTups.nil, rfl, fun _ hm => nomatch hm⟩
  | cons v vs ih =>
    obtain ⟨fs, h1, h2, h3⟩ := ih fun v' hm => hp v' (List.mem_cons_of_mem _ hm)
    obtain ⟨a, o, t, u, i, n, e, ho, hc, hd⟩ := hp v List.mem_cons_self
    rw [e]
    refine ⟨.str (k v).1 t :: fs, PySem.W.KatTups.cons ho hc hd rfl h1, congrArg (· + 1) h2, fun f hm => ?_⟩
    rcases List.mem_cons.mp hm with z | z
    · exact ⟨_, t, z⟩
    · exact h3 f z
theorem three_cmp {vs : List Value} {k : Value → Row} (hp : ∀ v ∈ vs, ThreeS s.heap v (k v)) : SrtO.Cmp prog w A s (tuples' true) (fun p => p.1 ∈ vs) (SrtO.lt2 fun v u => lex3 (k v) (k u)) := by
  intro p q hm hm'
  have h1 := hp _ hm
  have h2 := hp _ hm'
  show wpAny (model prog w) A (keyLt' (tuples' true) p.1 q.1) (fun r s' => s' = s ∧ r = lex3 (k p.1) (k q.1)) (fun _ _ => False) s
  generalize k p.1 = x at h1 ⊢
  generalize k q.1 = y at h2 ⊢
  obtain ⟨x1, x2, x3⟩ := x
  obtain ⟨y1, y2, y3⟩ := y
  obtain ⟨a, o, t, u, c, n, e, ho, hc, hd⟩ := h1
  obtain ⟨b, r, i, j, d, m, e', ho', hc', hd'⟩ := h2
  rw [e, e']
  refine PySem.W.kat_lt ho hd ho' hd' (PySem.W.kat_cons (SeqAt.EqAt.str_str x1 t y1 i prog w _ _ (PySem.W.kat_go (fun e1 => ?_) (fun e1 => ?_))))
  · have ex : x1 = y1 := by simpa using e1
    refine PySem.W.kat_yes (PySem.W.kat_cons (SeqAt.EqAt.str_str x2 u y2 j prog w _ _ (PySem.W.kat_go (fun e2 => ?_) (fun e2 => ?_))))
    · have ey : x2 = y2 := by simpa using e2
      refine PySem.W.kat_yes (PySem.W.kat_cons (SeqAt.EqAt.str_str x3 c y3 d prog w _ _ (PySem.W.kat_go (fun e3 => ?_) (fun e3 => ?_))))
      · have ez : x3 = y3 := by simpa using e3
        refine PySem.W.kat_yes (PySem.W.kat_nil ⟨rfl, ?_⟩)
        rw [ex, ey, ez]
        exact (lex3_irr _).symm
      · refine PySem.W.kat_no (PySem.W.kat_one _ _ (PyProof.Rows.lt_str ?_))
        refine ⟨rfl, ?_⟩
        unfold lex3 lexS ltS
        rw [if_pos ex, if_pos ey]
    · have ey : ¬ x2 = y2 := by simpa using e2
      refine PySem.W.kat_no (PySem.W.kat_one _ _ (PyProof.Rows.lt_str ?_))
      refine ⟨rfl, ?_⟩
      unfold lex3 lexS ltS
      rw [if_pos ex, if_neg ey]
  · have ex : ¬ x1 = y1 := by simpa using e1
    refine PySem.W.kat_no (oneLt_str ⟨rfl, ?_⟩)
    unfold lex3 ltS
    rw [if_neg ex]
theorem three_sortable {a : Addr} {vs : List Value} {k : Value → Row} (h0 : 0 < vs.length) (hp : ∀ v ∈ vs, ThreeS s.heap v (k v)) (ha : ∀ o, s.heap.get? a = some o → o.cls ≠ .type "tuple") : SrtO.SortableO prog w A s a vs fun v u => lex3 (k v) (k u) := by
  intro h' keep
  have hp' : ∀ v ∈ vs, ThreeS h' v (k v) := fun v hm => (hp v hm).over fun b o e c => keep b o (fun z => ha o (by rw [← z]; exact e) c) e
  obtain ⟨fs, h1, h2, h3⟩ := three_heads k vs hp'
  refine ⟨tuples' true, fun Q E hq => PySem.W.kat_kind (T := .type "str") h1 (by omega) (fun f hm => ?_) (by rfl) ?_, three_cmp hp'⟩
  · obtain ⟨x, t, rfl⟩ := h3 f hm
    exact PySem.W.Looks.now
  · have e : (Value.type "str" != Value.type "tuple") = true := by first | decide +kernel | rfl | decide
    rw [e]
    exact hq
end
/-- which triple a value is -/
def keyR (H : Hp) : V → Row
  | .ref t => match H t with
    | some (.tup [.str x, .str y, .str z]) => (x, y, z)
    | _ => ("", "", "")
  | _ => ("", "", "")
theorem keyR_at {H : Hp} {t : Addr} {x y z : Str} (h : H t = some (.tup [.str x, .str y, .str z])) : keyR H (.ref t) = (x, y, z) := by
  unfold keyR
  simp only [h]
theorem keyR_all {S : Addr → Prop} {H : Hp} : ∀ {xs : List V} {ps : List Row}, DnA S H xs (ps.map rowD) → xs.map (keyR H) = ps ∧ ∀ x ∈ xs, ∃ t, x = V.ref t ∧ ¬ S t ∧ H t = some (.tup [.str (keyR H x).1, .str (keyR H x).2.1, .str (keyR H x).2.2])
  | _, [], h => by
    cases h
    exact ⟨rfl, fun x z => nomatch z⟩
  | _, p :: ps, h => by
    cases h with
    | cons h t =>
      obtain ⟨i1, i2⟩ := keyR_all t
      obtain ⟨a, rfl, ns, ha⟩ := rowD_ex h
      have e := keyR_at ha
      refine ⟨by rw [List.map_cons, i1, e], fun x hx => ?_⟩
      rcases List.mem_cons.mp hx with z | z
      · exact ⟨a, z, ns, by rw [z, e]; exact ha⟩
      · exact i2 x z
theorem rows_dn {S : Addr → Prop} {H : Hp} {k : V → Row} : ∀ {ys : List V}, (∀ y ∈ ys, ∃ t, y = V.ref t ∧ ¬ S t ∧ H t = some (.tup [.str (k y).1, .str (k y).2.1, .str (k y).2.2])) → DnA S H ys ((ys.map k).map rowD)
  | [], _ => .nil
  | y :: ys, h => by
    obtain ⟨t, e, ns, ht⟩ := h y List.mem_cons_self
    have i := rows_dn (k := k) fun z hz => h z (List.mem_cons_of_mem _ hz)
    rw [List.map_cons, List.map_cons]
    refine .cons ?_ i
    rw [e] at ht ⊢
    exact .tup ns ht (DnA.strs [(k (.ref t)).1, (k (.ref t)).2.1, (k (.ref t)).2.2])
section
variable {X : Cx} {K : PySem.W.Frag}
/-- sorted(list of triples of texts) -/
def rSortRD (K : PySem.W.Frag) : List V → Hp → VK → Prop := fun vs H Q => ∃ (S : Addr → Prop) (a : Addr) (xs : List V) (l : List Row), vs = [.ref a] ∧ SqL K H a xs ∧ DnA S H xs (l.map rowD) ∧
  ∀ ys p, ys.length = xs.length → DnA S H ys ((sort3 l).map rowD) → H p = none → Q (.ref p) (upd H p (.lst ys))
theorem cr_sortRD : CallR X (.builtin "sorted") (rSortRD X.K) := by
  intro pins s σ H vs us Q I r h
  obtain ⟨S, a, xs, l, rfl, hs, hx0, q⟩ := h
  obtain ⟨kx, hx⟩ := keyR_all hx0
  obtain ⟨its, rv, hl, hz⟩ := I.list hs
  rw [Vals.ref1 r]
  obtain ⟨e1, e2⟩ := refs_back rv fun x m => Exists.imp (fun _ z => z.1) (hx x m)
  have old : ∀ v ∈ its, ThreeS s.heap v (keyR H (backV v)) := fun v hv => by
    obtain ⟨t, rfl⟩ := e2 v hv
    have hm : V.ref t ∈ xs := by
      rw [e1]
      exact List.mem_map.mpr ⟨_, hv, rfl⟩
    obtain ⟨t', e, _, ht⟩ := hx _ hm
    cases e
    obtain ⟨_, its2, r2, o, ho, hc, n, hd⟩ := I.hok _ _ ht
    cases its2 with
    | nil => cases r2
    | cons i1 its2 =>
    cases r2 with
    | cons g1 r2 =>
    cases its2 with
    | nil => cases r2
    | cons i2 its2 =>
    cases r2 with
    | cons g2 r2 =>
    cases its2 with
    | nil => cases r2
    | cons i3 its2 =>
    cases r2 with
    | cons g3 r2 =>
    cases r2
    obtain ⟨t1, rfl⟩ := g1
    obtain ⟨t2, rfl⟩ := g2
    obtain ⟨t3, rfl⟩ := g3
    exact ⟨t, o, t1, t2, t3, n, rfl, ho, hc, hd⟩
  refine SrtO.sorted_ord (swo_lex3 fun u => keyR H (backV u)) hl.isList (by rw [← rv.length]; exact hz) (fun h2 h₁ b hb kk => ?_) fun out hs hb => ?_
  · refine three_sortable (s := { s with heap := h₁ }) (k := fun u => keyR H (backV u)) (by omega) (fun v hm => (old v hm).over fun c o e _ => (kk c o e).2) fun o e c => ?_
    have e' := e.symm.trans hb
    cases e'
    exact absurd (Value.type.inj c) (by decide)
  · have h3 : ∀ u ∈ out, ∃ a, u = Value.ref a := fun u hu => e2 u (hb.perm.mem_iff.mp hu)
    obtain ⟨n, hn⟩ := sortedAll_at s.heap its out.toArray
    have pm : (out.map backV).Perm xs := by
      rw [e1]
      exact hb.perm.map backV
    have so : SrtO.Srtd (fun v u => lex3 (keyR H v) (keyR H u)) (out.map backV) := SrtO.srtd_map hs
    have es : (out.map backV).map (keyR H) = sort3 l := by
      refine sort3_eq (List.pairwise_map.mpr so) ?_
      rw [← kx]
      exact pm.map _
    have dn : DnA S H (out.map backV) ((sort3 l).map rowD) := by
      rw [← es]
      exact rows_dn fun y hy => hx y (pm.mem_iff.mp hy)
    refine ⟨.ref _, upd H (s.heap.objs.size + 1) (.lst (out.map backV)), I.laid (t' := s.toks) (fun _ _ => sortedAll_old) (Nat.le_succ _) ⟨?_, out, n, vals_back h3, hn⟩, rfl, q _ _ pm.length_eq dn (I.hok.fresh (Nat.le_succ _))⟩
    rw [pm.length_eq]
    exact hz
end
end Fc
set_option maxHeartbeats 4000000
/-! What is amiss, deeds, the cabinet behind them. -/
namespace Fc
open PySem PySem.Spec PyProof.Rows L2
/-! ### comprehensions of two clauses -/
section
variable {X : Cx} {K : PySem.W.Frag}
theorem pi_listK {tg l : Expr} {tl : TE} (hl : PE X l tl) (h : X.K = K := by rfl) : PI X tg l (iList K tl) := by
  subst h
  exact pi_list hl
end
section
variable {J : It} {n : Nat} {G : Hp → Prop} {Y : Nat → Hp → V → Hp → Prop}
theorem lc2_in (w : Walk J n G Y) {g1 : TG} {tt1 : TT} {te : TE} {vs1 : List Nat} {σ2 : L2.St} {H4 : Hp} {D : Addr} {Nx : Hp → Prop} (Pv : Nat → Hp → Prop) (h0 : Pv 0 H4) (hG : ∀ j H, j ≤ n → Pv j H → G H)
    (hs : ∀ j x H H', j < n → Pv j H → Y j H x H' → g1 x (wipe σ2 vs1) H' fun σ3 H5 => wipe σ3 vs1 = wipe σ2 vs1 ∧ tt1 σ3 H5 fun b H6 => if b = true then te σ3 H6 fun y H7 => ∃ acc, H7 D = some (.lst acc) ∧ acc.length < sizeLine ∧ Pv (j + 1) (upd H7 D (.lst (acc ++ [y]))) else Pv (j + 1) H6) (hd : ∀ H, Pv n H → Nx H) :
    ∃ W1 : Nat → Nat → Hp → Prop, (∃ m, W1 0 m H4) ∧ ∀ j k H, W1 j k H → (J.stop j H ∧ Nx H) ∨ (J.go j H ∧ ∃ Nx1 : Hp → Prop, (∀ H', Nx1 H' → ∃ k', k' < k ∧ W1 (j + 1) k' H') ∧ ∀ x H', J.yld j H x H' → g1 x (wipe σ2 vs1) H' fun σ3 H5 => wipe σ3 vs1 = wipe σ2 vs1 ∧ tt1 σ3 H5 fun b H6 =>
      if b = true then te σ3 H6 fun y H7 => ∃ acc, H7 D = some (.lst acc) ∧ acc.length < sizeLine ∧ Nx1 (upd H7 D (.lst (acc ++ [y]))) else Nx1 H6) := by
  refine ⟨fun j m H => m = n - j ∧ j ≤ n ∧ Pv j H, ⟨n, rfl, Nat.zero_le _, h0⟩, ?_⟩
  intro j m H z
  obtain ⟨e, hj, p⟩ := z
  subst e
  have q := hG j H hj p
  rcases Nat.lt_or_ge j n with lt | ge
  · exact .inr ⟨w.goes j H lt q, Pv (j + 1), fun H' p' => ⟨n - (j + 1), by omega, rfl, lt, p'⟩, fun x H' y => hs j x H H' lt p (w.yields j H x H' lt q y)⟩
  · have e : j = n := by omega
    subst e
    exact .inl ⟨w.stops H q, hd H p⟩
theorem lc2_it (w : Walk J n G Y) {wi1 : TI} {g g1 : TG} {tt tt1 : TT} {te : TE} {vs vs1 : List Nat} {σ : L2.St} {H1 : Hp} {D : Addr} {Qd : Hp → Prop} (Pv : Nat → Hp → Prop) (h0 : Pv 0 (upd H1 D (.lst []))) (hG : ∀ i H, i ≤ n → Pv i H → G H)
    (hs : ∀ i x H H', i < n → Pv i H → Y i H x H' → g x (wipe σ vs) H' fun σ2 H2 => wipe σ2 vs = wipe σ vs ∧ tt σ2 H2 fun b H3 =>
      if b = true then wi1 σ2 H3 fun J1 H4 => ∃ W1 : Nat → Nat → Hp → Prop, (∃ m, W1 0 m H4) ∧ ∀ j k H, W1 j k H → (J1.stop j H ∧ Pv (i + 1) H) ∨ (J1.go j H ∧ ∃ Nx1 : Hp → Prop, (∀ H', Nx1 H' → ∃ k', k' < k ∧ W1 (j + 1) k' H') ∧ ∀ x H', J1.yld j H x H' → g1 x (wipe σ2 vs1) H' fun σ3 H5 => wipe σ3 vs1 = wipe σ2 vs1 ∧ tt1 σ3 H5 fun b H6 =>
        if b = true then te σ3 H6 fun y H7 => ∃ acc, H7 D = some (.lst acc) ∧ acc.length < sizeLine ∧ Nx1 (upd H7 D (.lst (acc ++ [y]))) else Nx1 H6) else Pv (i + 1) H3) (hd : ∀ H, Pv n H → Qd H) :
    ∃ W : Nat → Nat → Hp → Prop, (∃ m, W 0 m (upd H1 D (.lst []))) ∧ ∀ i m H, W i m H →
      (J.stop i H ∧ Qd H) ∨ (J.go i H ∧ ∃ Nx : Hp → Prop, (∀ H', Nx H' → ∃ m', m' < m ∧ W (i + 1) m' H') ∧ ∀ x H', J.yld i H x H' → g x (wipe σ vs) H' fun σ2 H2 => wipe σ2 vs = wipe σ vs ∧ tt σ2 H2 fun b H3 =>
        if b = true then wi1 σ2 H3 fun J1 H4 => ∃ W1 : Nat → Nat → Hp → Prop, (∃ m, W1 0 m H4) ∧ ∀ j k H, W1 j k H →
          (J1.stop j H ∧ Nx H) ∨ (J1.go j H ∧ ∃ Nx1 : Hp → Prop, (∀ H', Nx1 H' → ∃ k', k' < k ∧ W1 (j + 1) k' H') ∧ ∀ x H', J1.yld j H x H' → g1 x (wipe σ2 vs1) H' fun σ3 H5 => wipe σ3 vs1 = wipe σ2 vs1 ∧ tt1 σ3 H5 fun b H6 =>
            if b = true then te σ3 H6 fun y H7 => ∃ acc, H7 D = some (.lst acc) ∧ acc.length < sizeLine ∧ Nx1 (upd H7 D (.lst (acc ++ [y]))) else Nx1 H6)
        else Nx H3) := by
  refine ⟨fun i m H => m = n - i ∧ i ≤ n ∧ Pv i H, ⟨n, rfl, Nat.zero_le _, h0⟩, ?_⟩
  intro i m H z
  obtain ⟨e, hi, p⟩ := z
  subst e
  have q := hG i H hi p
  rcases Nat.lt_or_ge i n with lt | ge
  · exact .inr ⟨w.goes i H lt q, Pv (i + 1), fun H' p' => ⟨n - (i + 1), by omega, rfl, lt, p'⟩, fun x H' y => hs i x H H' lt p (w.yields i H x H' lt q y)⟩
  · have e : i = n := by omega
    subst e
    exact .inl ⟨w.stops H q, hd H p⟩
end
theorem kp_fresh {S : Addr → Prop} {H H1 H2 : Hp} (x : Kp N0 H H1) (y : Kp S H1 H2) (h : ∀ a, S a → H a = none) : Kp N0 H H2 := fun a o e => by
  obtain ⟨u, eu, c⟩ := (x.up.trans y : Kp S H H2) a o e
  refine ⟨u, eu, ?_⟩
  rcases c with c | c | c
  · exact .inl c
  · rw [h a c.1] at e
    cases e
  · exact .inr (.inr c)
section
variable {X : Cx} {K : PySem.W.Frag}
theorem cr_sortSLK (h : X.K = K := by rfl) : CallR X (.builtin "sorted") (rSortSL K) := by
  subst h
  exact cr_sortSL
end
/-! ### papers as a dict -/
def pkv (ps : List P2) : List (Key × V) := ps.map fun p => (.inr p.1, .str p.2)
theorem merge_nd : ∀ (more kvs : List (Key × V)), (more.map (·.1)).Nodup → (∀ q ∈ more, valV kvs q.1 = none) → mergeK kvs more = kvs ++ more
  | [], kvs, _, _ => (List.append_nil kvs).symm
  | (k, v) :: more, kvs, nd, h => by
    obtain ⟨n1, n2⟩ := List.nodup_cons.mp nd
    have hk := h (k, v) List.mem_cons_self
    show mergeK (putK kvs k v) more = kvs ++ ((k, v) :: more)
    rw [putK_new _ hk, merge_nd more _ n2 fun q hq => ?_, List.append_assoc]
    · rfl
    · rw [valV_snoc _ _ _ _ hk, if_neg (fun z => n1 (by have z' : k = q.1 := z.symm; show k ∈ _; rw [z']; exact List.mem_map.mpr ⟨q, hq, rfl⟩))]
      exact h q (List.mem_cons_of_mem _ hq)
theorem pkv_merge {ps : List P2} (nd : (ps.map (·.1)).Nodup) : mergeK [] (pkv ps) = pkv ps := by
  have e : (pkv ps).map (·.1) = (ps.map (·.1)).map (fun n => (.inr n : Key)) := by
    unfold pkv
    rw [List.map_map, List.map_map]
    rfl
  have z := merge_nd (pkv ps) [] (by rw [e]; exact List.pairwise_map.mpr (nd.imp fun h c => h (Sum.inr.inj c))) fun _ _ => rfl
  rw [z, List.nil_append]
theorem pkv_has (n : Str) : ∀ ps : List P2, (valV (pkv ps) (.inr n)).isSome = decide (n ∈ ps.map (·.1))
  | [] => rfl
  | p :: ps => by
    have ih := pkv_has n ps
    by_cases e : p.1 = n
    · have z : valV (pkv (p :: ps)) (.inr n) = some (.str p.2) := valV_pos (p := ((.inr p.1 : Key), V.str p.2)) (r := pkv ps) (by rw [e])
      rw [z, decide_eq_true (by rw [List.map_cons, e]; exact List.mem_cons_self)]
      rfl
    · have z : valV (pkv (p :: ps)) (.inr n) = valV (pkv ps) (.inr n) := valV_neg (p := ((.inr p.1 : Key), V.str p.2)) (r := pkv ps) (fun c => e (Sum.inr.inj c))
      rw [z, ih]
      refine decide_eq_decide.mpr ?_
      rw [List.map_cons, List.mem_cons]
      exact ⟨.inr, fun h => h.resolve_left fun c => e c.symm⟩
theorem pkv_paired {K : PySem.W.Frag} {S : Addr → Prop} {H : Hp} : ∀ {ps : List P2} {xs : List V}, DnA S H xs (ps.map paperD) → ∃ ts : List Addr, xs = ts.map V.ref ∧ Paired (fun (p : Addr) (kv : Key × V) => SqT K H p [kV kv.1, kv.2]) ts (pkv ps)
  | [], _, h => by
    cases h
    exact ⟨[], rfl, .nil⟩
  | p :: ps, _, h => by
    cases h with
    | cons h t =>
      obtain ⟨ts, rfl, pp⟩ := pkv_paired t
      obtain ⟨a, rfl, _, ha⟩ := paperD_ex h
      exact ⟨a :: ts, rfl, .cons (SqT.of ha) pp⟩
/-! ### what is amiss -/
noncomputable def liesM (rs : List Row) (f : Str → List Str) (n m : Str) : List Str := (orderF rs m).filter fun h => decide (n ∈ f h)
def amissO (n main : Str) : List Str → List Row
  | [] => [(n, ("gone" : Str), main)]
  | h :: t => t.map (fun x => (n, ("twice" : Str), x)) ++ (if h = main then [] else [(n, ("astray" : Str), h)])
noncomputable def amissP (rs : List Row) (f : Str → List Str) (p : P2) : List Row := amissO p.1 (mainM rs p.2) (liesM rs f p.1 p.2)
def strangeH (ps : List P2) (f : Str → List Str) (h : Str) : List Row := ((f h).filter fun n => !decide (n ∈ ps.map (·.1))).map fun n => (n, ("strange" : Str), h)
def strangeM (hs : List Str) (ps : List P2) (f : Str → List Str) : List Row := hs.flatMap (strangeH ps f)
noncomputable def amissA (rs : List Row) (ps : List P2) (f : Str → List Str) : List Row := strangeM (ruleHeadsM rs) ps f ++ ps.flatMap (amissP rs f)
noncomputable def amissF (rs : List Row) (ps : List P2) (f : Str → List Str) : List Row := sort3 (amissA rs ps f)
theorem heads7 {rs : List Row} (g : GoodR rs) : (ruleHeadsM rs).length ≤ 7 := by
  obtain ⟨hs, h6, hm⟩ := g.heads
  have z := nodup_le (m := ("rest" : Str) :: hs) (ruleHeads_nd rs) fun x hx => by
    rcases List.mem_append.mp ((riseS_mem _ _).mp hx) with z | z
    · obtain ⟨r, hr, e⟩ := List.mem_map.mp z
      rw [← e]
      exact List.mem_cons_of_mem _ (hm r hr)
    · rw [List.mem_singleton.mp z]
      exact List.mem_cons_self
  rw [List.length_cons] at z
  omega
theorem strange_len (ps : List P2) {f : Str → List Str} {N : Nat} : ∀ {hs : List Str}, (∀ h ∈ hs, (f h).length ≤ N) → (strangeM hs ps f).length ≤ N * hs.length
  | [], _ => Nat.zero_le _
  | h :: hs, k => by
    have ih := strange_len ps fun x hx => k x (List.mem_cons_of_mem _ hx)
    have z := k h List.mem_cons_self
    have y := List.length_filter_le (fun n => !decide (n ∈ ps.map (·.1))) (f h)
    unfold strangeM at ih ⊢
    rw [List.flatMap_cons, List.length_append, List.length_cons, Nat.mul_succ]
    unfold strangeH
    rw [List.length_map]
    unfold strangeH at ih
    omega
theorem amissO_len (n main : Str) (l : List Str) : (amissO n main l).length ≤ l.length + 1 := by
  cases l with
  | nil => exact Nat.le_refl _
  | cons h t =>
    unfold amissO
    rw [List.length_append, List.length_map, List.length_cons]
    split
    · show _ + 0 ≤ _
      omega
    · show _ + 1 ≤ _
      omega
theorem lies_len {rs : List Row} {m : Str} (ho : orderM rs m (orderF rs m)) (f : Str → List Str) (n : Str) : (liesM rs f n m).length ≤ (ruleHeadsM rs).length := by
  unfold liesM
  have z := List.length_filter_le (fun h => decide (n ∈ f h)) (orderF rs m)
  have y := orderM_len ho
  omega
/-- the law's own turn: astray ahead of twice -/
def amissL (n main : Str) : List Str → List Row
  | [] => [(n, ("gone" : Str), main)]
  | h :: t => (if h = main then [] else [(n, ("astray" : Str), h)]) ++ t.map (fun x => (n, ("twice" : Str), x))
theorem amissL_perm (n main : Str) (l : List Str) : (amissL n main l).Perm (amissO n main l) := by
  cases l with
  | nil => exact List.Perm.refl _
  | cons h t => exact List.perm_append_comm
/-! ### deeds -/
def mainsF (rs : List Row) (ps : List P2) (n : Str) : Str := ((ps.find? fun p => decide (p.1 = n)).map fun p => mainM rs p.2).getD ""
def deedM (mains : Str → Str) (t : Row) : Row := if t.2.1 = "gone" then (t.1, "", t.2.2) else if t.2.1 = "astray" then (t.1, t.2.2, mains t.1) else (t.1, t.2.2, "")
noncomputable def mendedF (rs : List Row) (ps : List P2) (f : Str → List Str) : List Row := sort3 ((amissF rs ps f).map (deedM (mainsF rs ps)))
theorem mains_at {rs : List Row} {ps : List P2} (nd : (ps.map (·.1)).Nodup) {p : P2} (hp : p ∈ ps) : mainsF rs ps p.1 = mainM rs p.2 := by
  unfold mainsF
  have e : ps.find? (fun q => decide (q.1 = p.1)) = some p := by
    induction ps with
    | nil => cases hp
    | cons q ps ih =>
      obtain ⟨n1, n2⟩ := List.nodup_cons.mp nd
      rcases List.mem_cons.mp hp with z | z
      · rw [z, List.find?_cons, decide_eq_true rfl]
      · have ne : ¬ q.1 = p.1 := fun c => n1 (by show q.1 ∈ _; rw [c]; exact List.mem_map.mpr ⟨p, z, rfl⟩)
        rw [List.find?_cons, decide_eq_false ne]
        exact ih n2 z
  rw [e]
  rfl
/-- the main heads of the papers, as a dict -/
def mkv (rs : List Row) (ps : List P2) : List (Key × V) := ps.map fun p => (.inr p.1, .str (mainM rs p.2))
theorem mkv_at {rs : List Row} {ps : List P2} (nd : (ps.map (·.1)).Nodup) {p : P2} (hp : p ∈ ps) : valV (mkv rs ps) (.inr p.1) = some (.str (mainsF rs ps p.1)) := by
  rw [mains_at nd hp]
  have k : ((.inr p.1 : Key), V.str (mainM rs p.2)) ∈ mkv rs ps := List.mem_map.mpr ⟨p, hp, rfl⟩
  refine valV_nd (q := ((.inr p.1 : Key), V.str (mainM rs p.2))) ?_ k
  have e : (mkv rs ps).map (·.1) = (ps.map (·.1)).map (fun n => (.inr n : Key)) := by
    unfold mkv
    rw [List.map_map, List.map_map]
    rfl
  rw [e]
  exact List.pairwise_map.mpr (nd.imp fun h c => h (Sum.inr.inj c))
theorem amiss_word {rs : List Row} {ps : List P2} {f : Str → List Str} {t : Row} (ht : t ∈ amissA rs ps f) : (t.2.1 = "strange" ∧ ¬ t.1 ∈ ps.map (·.1)) ∨ ∃ p ∈ ps, t.1 = p.1 ∧ ((t.2.1 = "gone" ∧ t.2.2 = mainM rs p.2) ∨ t.2.1 = "astray" ∨ t.2.1 = "twice") := by
  rcases List.mem_append.mp ht with z | z
  · obtain ⟨h, _, hz⟩ := List.mem_flatMap.mp z
    obtain ⟨n, hn, e⟩ := List.mem_map.mp hz
    subst e
    have y := (List.mem_filter.mp hn).2
    exact .inl ⟨rfl, by simpa using y⟩
  · obtain ⟨p, hp, hz⟩ := List.mem_flatMap.mp z
    refine .inr ⟨p, hp, ?_⟩
    unfold amissP at hz
    cases e : liesM rs f p.1 p.2 with
    | nil =>
      rw [e] at hz
      rw [List.mem_singleton.mp hz]
      exact ⟨rfl, .inl ⟨rfl, rfl⟩⟩
    | cons h l =>
      rw [e] at hz
      rcases List.mem_append.mp hz with y | y
      · obtain ⟨x, _, ex⟩ := List.mem_map.mp y
        rw [← ex]
        exact ⟨rfl, .inr (.inr rfl)⟩
      · split at y
        · cases y
        · rw [List.mem_singleton.mp y]
          exact ⟨rfl, .inr (.inl rfl)⟩
/-! ### the cabinet behind deeds -/
def takeOut (g : Str → List Str) (n b : Str) : Str → List Str := if b = "" then g else fun h => if h = b then (g b).filter (fun x => !decide (x = n)) else g h
def putIn (g : Str → List Str) (n e : Str) : Str → List Str := if e = "" then g else fun h => if h = e then riseS (g e ++ [n]) else g h
def stepD (g : Str → List Str) (d : Row) : Str → List Str := if d.2.1 = "" ∨ d.1 ∈ g d.2.1 then putIn (takeOut g d.1 d.2.1) d.1 d.2.2 else g
def doneF (f : Str → List Str) (ds : List Row) : Str → List Str := ds.foldl stepD f
/-- deeds from and to heads, or nowhere -/
def DeedsOk (hs : List Str) (ds : List Row) : Prop := ∀ d ∈ ds, (d.2.1 = "" ∨ d.2.1 ∈ hs) ∧ (d.2.2 = "" ∨ d.2.2 ∈ hs)
/-- the same names, each once, in whatever order -/
def SameN (hs : List Str) (g gl : Str → List Str) : Prop := ∀ h ∈ hs, (g h).Nodup ∧ ∀ x, x ∈ g h ↔ x ∈ gl h
theorem done_rs {hs : List Str} : ∀ (ds : List Row) {f : Str → List Str}, (∀ h ∈ hs, Rs (f h)) → ∀ h ∈ hs, Rs (doneF f ds h)
  | [], _, k => k
  | d :: ds, f, k => by
    refine done_rs ds fun h hh => ?_
    unfold stepD
    split
    · have k1 : ∀ h ∈ hs, Rs (takeOut f d.1 d.2.1 h) := fun h hh => by
        unfold takeOut
        split
        · exact k h hh
        · show Rs (if h = d.2.1 then _ else _)
          split
          · rename_i e
            exact List.Pairwise.filter _ (by rw [← e]; exact k h hh)
          · exact k h hh
      unfold putIn
      split
      · exact k1 h hh
      · show Rs (if h = d.2.2 then _ else _)
        split
        · exact riseS_rs _
        · exact k1 h hh
    · exact k h hh
theorem done_len {hs : List Str} : ∀ (ds : List Row) {f : Str → List Str} {N : Nat}, (∀ h ∈ hs, (f h).length ≤ N) → DeedsOk hs ds → ∀ h ∈ hs, (doneF f ds h).length ≤ N + ds.length
  | [], _, _, k, _ => k
  | d :: ds, f, N, k, ok => by
    intro h hh
    have z := done_len (hs := hs) ds (f := stepD f d) (N := N + 1) (fun h hh => ?_) (fun q hq => ok q (List.mem_cons_of_mem _ hq)) h hh
    · rw [List.length_cons]
      show (doneF (stepD f d) ds h).length ≤ _
      omega
    · have kh := k h hh
      obtain ⟨o1, o2⟩ := ok d List.mem_cons_self
      unfold stepD
      split
      · have k1 : ∀ x ∈ hs, (takeOut f d.1 d.2.1 x).length ≤ N := fun x hx => by
          unfold takeOut
          split
          · exact k x hx
          · show (if x = d.2.1 then _ else _ : List Str).length ≤ N
            split
            · rename_i e
              have y := List.length_filter_le (fun x => !decide (x = d.1)) (f d.2.1)
              have k0 := k x hx
              rw [e] at k0
              exact Nat.le_trans y k0
            · exact k x hx
        unfold putIn
        split
        · exact Nat.le_succ_of_le (k1 h hh)
        · show (if h = d.2.2 then _ else _ : List Str).length ≤ N + 1
          split
          · rename_i e
            have y := riseS_len (takeOut f d.1 d.2.1 d.2.2 ++ [d.1])
            rw [List.length_append] at y
            have k0 := k1 h hh
            rw [e] at k0
            have : ([d.1] : List Str).length = 1 := rfl
            omega
          · exact Nat.le_succ_of_le (k1 h hh)
      · omega
theorem same_out {hs : List Str} {g gl : Str → List Str} (sn : SameN hs g gl) {b n : Str} {j : Nat} (hb : b ∈ hs) (nb : b ≠ "") (hj : (g b)[j]? = some n) : SameN hs (fun h => if h = b then (g b).eraseIdx j else g h) (takeOut gl n b) := fun h hh => by
  unfold takeOut
  rw [if_neg nb]
  show (if h = b then _ else _ : List Str).Nodup ∧ ∀ x, x ∈ (if h = b then _ else _ : List Str) ↔ x ∈ (if h = b then _ else _ : List Str)
  by_cases c : h = b
  · rw [if_pos c, if_pos c]
    obtain ⟨nd, mem⟩ := sn b hb
    have pl := perm_less hj
    have nd2 := pl.nodup_iff.mpr nd
    obtain ⟨n1, n2⟩ := List.nodup_cons.mp nd2
    refine ⟨n2, fun x => ?_⟩
    rw [List.mem_filter, ← mem x, ← pl.mem_iff, List.mem_cons]
    constructor
    · intro z
      have ne : x ≠ n := fun e => n1 (by rw [← e]; exact z)
      exact ⟨.inr z, by simpa using ne⟩
    · rintro ⟨z, y⟩
      have ne : x ≠ n := by simpa using y
      exact z.resolve_left ne
  · rw [if_neg c, if_neg c]
    exact sn h hh
theorem same_in {hs : List Str} {g gl : Str → List Str} (sn : SameN hs g gl) {e n : Str} (he : e ∈ hs) (ne : e ≠ "") (hn : n ∈ g e) : SameN hs g (putIn gl n e) := fun h hh => by
  unfold putIn
  rw [if_neg ne]
  show _ ∧ ∀ x, _ ↔ x ∈ (if h = e then _ else _ : List Str)
  obtain ⟨nd, mem⟩ := sn h hh
  refine ⟨nd, fun x => ?_⟩
  by_cases c : h = e
  · rw [if_pos c, riseS_mem, List.mem_append, List.mem_singleton, mem x, c]
    refine ⟨.inl, fun z => z.elim id fun y => ?_⟩
    rw [y]
    exact ((sn e he).2 n).mp hn
  · rw [if_neg c]
    exact mem x
theorem same_add {hs : List Str} {g gl : Str → List Str} (sn : SameN hs g gl) {e n : Str} (he : e ∈ hs) (ne : e ≠ "") (hn : n ∉ g e) : SameN hs (fun h => if h = e then g e ++ [n] else g h) (putIn gl n e) := fun h hh => by
  unfold putIn
  rw [if_neg ne]
  show (if h = e then _ else _ : List Str).Nodup ∧ ∀ x, x ∈ (if h = e then _ else _ : List Str) ↔ x ∈ (if h = e then _ else _ : List Str)
  by_cases c : h = e
  · rw [if_pos c, if_pos c]
    obtain ⟨nd, mem⟩ := sn e he
    refine ⟨List.nodup_append.mpr ⟨nd, List.pairwise_singleton _ _, fun x hx y hy z => ?_⟩, fun x => ?_⟩
    · rw [List.mem_singleton.mp hy] at z
      exact hn (by rw [← z]; exact hx)
    · rw [riseS_mem, List.mem_append, List.mem_append, mem x]
  · rw [if_neg c, if_neg c]
    exact sn h hh
/-! ### what is promised -/
def spStrange : Sp := fun vs H Q _ => ∃ (v u : V) (ps : List P2) (hs : List Str) (f : Str → List Str), vs = [v, u] ∧ Dn N0 H v (papersD ps) ∧ GoodP ps ∧ Dn N0 H u (drawD hs f) ∧ hs.length ≤ 7 ∧ (∀ h ∈ hs, (f h).length ≤ 100) ∧
  ∀ p zs H', H p = none → Kp N0 H H' → H' p = some (.lst zs) → DnA (fun a => a = p) H' zs ((strangeM hs ps f).map rowD) → Q (.ref p) H'
def spAmissP (T : List Addr) : Sp := fun vs H Q _ => ∃ (v u : V) (rs : List Row) (f : Str → List Str) (n m : Str), vs = [v, u, .str n, .str m] ∧ Dn N0 H v (ruleD rs) ∧ Dn N0 H u (drawD (ruleHeadsM rs) f) ∧ GoodR rs ∧ Tbs T H ∧
  ∀ p zs H', H p = none → Kp N0 H H' → orderM rs m (orderF rs m) → H' p = some (.lst zs) → DnA (fun a => H a ≠ none) H' zs ((amissP rs f (n, m)).map rowD) → Q (.ref p) H'
def spAmiss (T : List Addr) : Sp := fun vs H Q _ => ∃ (v u c : V) (rs : List Row) (ps : List P2) (f : Str → List Str), vs = [v, u, c] ∧ Dn N0 H v (ruleD rs) ∧ Dn N0 H u (papersD ps) ∧ Dn N0 H c (drawD (ruleHeadsM rs) f) ∧ GoodR rs ∧ GoodP ps ∧ GoodC rs f ∧ Tbs T H ∧
  ∀ p ys H', H p = none → Kp N0 H H' → (amissF rs ps f).length ≤ 1000 → H' p = some (.lst ys) → DnA N0 H' ys ((amissF rs ps f).map rowD) → Q (.ref p) H'
def spMended (T : List Addr) : Sp := fun vs H Q _ => ∃ (v u c : V) (rs : List Row) (ps : List P2) (f : Str → List Str), vs = [v, u, c] ∧ Dn N0 H v (ruleD rs) ∧ Dn N0 H u (papersD ps) ∧ Dn N0 H c (drawD (ruleHeadsM rs) f) ∧ GoodR rs ∧ GoodP ps ∧ GoodC rs f ∧ Tbs T H ∧
  ∀ p ys H', H p = none → Kp N0 H H' → (mendedF rs ps f).length ≤ 1000 → H' p = some (.lst ys) → DnA N0 H' ys ((mendedF rs ps f).map rowD) → Q (.ref p) H'
def spDeed : Sp := fun vs H Q _ => ∃ (t d : Addr) (x : Row) (kvs : List (Key × V)) (mains : Str → Str), vs = [.ref t, .ref d] ∧ H t = some (.tup [.str x.1, .str x.2.1, .str x.2.2]) ∧ H d = some (.dK kvs) ∧ (x.2.1 = "astray" → valV kvs (.inr x.1) = some (.str (mains x.1))) ∧
  ∀ p H', H p = none → Kp N0 H H' → H' p = some (.tup [.str (deedM mains x).1, .str (deedM mains x).2.1, .str (deedM mains x).2.2]) → Q (.ref p) H'
def spCheckDeeds : Sp := fun vs H Q _ => ∃ (v u : V) (rs ds : List Row), vs = [v, u] ∧ Dn N0 H v (ruleD rs) ∧ rs.length ≤ 50 ∧ Dn N0 H u (.list (ds.map rowD)) ∧ DeedsOk (ruleHeadsM rs) ds ∧ ∀ H', Kp N0 H H' → Q .non H'
def spDoDeed : Sp := fun vs H Q _ => ∃ (H0 : Hp) (d t : Addr) (hs : List Str) (g gl : Str → List Str) (as : List Addr) (x : Row), vs = [.ref d, .ref t] ∧ Lies H0 H d hs g as ∧ hs.Nodup ∧ SameN hs g gl ∧ (∀ h ∈ hs, (g h).length ≤ 10000) ∧ H t = some (.tup [.str x.1, .str x.2.1, .str x.2.2]) ∧ (x.2.1 = "" ∨ x.2.1 ∈ hs) ∧ (x.2.2 = "" ∨ x.2.2 ∈ hs) ∧
  ∀ g' H', Lies H0 H' d hs g' as → SameN hs g' (stepD gl x) → (∀ h ∈ hs, (g' h).length ≤ (g h).length + 1) → Kp (fun a => a ∈ as) H H' → Q .non H'
def spDone (T : List Addr) : Sp := fun vs H Q _ => ∃ (v c u : V) (rs ds : List Row) (f : Str → List Str), vs = [v, c, u] ∧ Dn N0 H v (ruleD rs) ∧ Dn N0 H c (drawD (ruleHeadsM rs) f) ∧ Dn N0 H u (.list (ds.map rowD)) ∧ GoodR rs ∧ GoodC rs f ∧ DeedsOk (ruleHeadsM rs) ds ∧ ds.length ≤ 1000 ∧ Tbs T H ∧
  ∀ p xs H', H p = none → Kp N0 H H' → H' p = some (.lst xs) → xs.length = (ruleHeadsM rs).length → Dn N0 H' (.ref p) (drawD (ruleHeadsM rs) (doneF f ds)) → Q (.ref p) H'
end Fc
set_option maxHeartbeats 4000000
/-! sorted(a dict of texts): its keys. -/
namespace Fc
open PySem PySem.Spec PyProof.Rows L2
section
variable {X : Cx}
def rSortDK : List V → Hp → VK → Prop := fun vs H Q => ∃ (a : Addr) (kvs : List (Key × V)) (hs : List Str), vs = [.ref a] ∧ H a = some (.dK kvs) ∧ kvs.map (·.1) = hs.map (fun h => (.inr h : Key)) ∧ hs.Nodup ∧ hs.length ≤ 1000 ∧ ∀ p, H p = none → Q (.ref p) (upd H p (.lst ((riseS hs).map V.str)))
theorem cr_sortDK (hc : X.calm = true) : CallR X (.builtin "sorted") rSortDK := by
  intro pins s σ H vs us Q I r h
  obtain ⟨a, kvs, hs, rfl, ha, ek, nd, h1000, q⟩ := h
  obtain ⟨z, lo, xs, rk, hd⟩ := (show ObjOk X.prog X.w H s.heap a (.dK kvs) from I.hok a _ ha)
  obtain ⟨ep, hat⟩ := hd.dictAt
  have hl : kvs.length = xs.length := Paired.length rk
  have hkl : kvs.length = hs.length := by
    have e := congrArg List.length ek
    rw [List.length_map, List.length_map] at e
    exact e
  rw [Vals.ref1 r]
  refine Calls.call_function_entry kind_sorted plain_sorted entry_sorted (args_sorted1 _) ?_
  unfold Builtin.«sorted»
  refine wpAny_bind (m := checkCount "sorted" 1 1 _) (wpAny_pure (wpAny_bind (PySem.W.kdu_collect (A := X.A.in1) (PySem.W.kdl_dict (knd := mixKind X.prog X.w) (kvs := xs) (ep := ep) lo) (I.ok.hd hc) hat (by rw [← hl]; exact z) fun h' tk acc hk hacc => ?_)))
  have I1 : Inv X pins σ H { s with heap := h', toks := tk } := I.kept hk
  have hlen : acc.toList.length = hs.length := by rw [Array.length_toList, hacc.1, ← hl, hkl]
  have rv : Vals (hs.map V.str) acc.toList := by
    refine vals_of_at (by rw [List.length_map, hlen]) fun j x v h1 h2 => ?_
    obtain ⟨k, y, hky, hi⟩ := hacc.2 j v (by rw [← Array.getElem?_toList]; exact h2)
    have e1 : (kvs.map (·.1))[j]? = some k := by
      rw [KV.keys rk, List.getElem?_map, hky] <;> rfl
    rw [ek, List.getElem?_map] at e1
    rw [List.getElem?_map] at h1
    cases e : hs[j]? with
    | none =>
      rw [e] at h1
      cases h1
    | some g =>
      rw [e] at h1 e1
      have e2 := Option.some.inj e1
      have e3 := Option.some.inj h1
      subst e2 e3
      exact keyIs_rel (k := .inr g) hi
  generalize acc.toList = vs at hlen rv
  obtain ⟨e1, isS⟩ := vals_str rv
  have vz : vs.length ≤ sizeLine := by rw [hlen, sizeLine_eq]; omega
  refine wpAny_bind (wpAny_newList ?_ vz)
  have atL : (h'.push (seqObj "list" vs.toArray 0)).get? h'.objs.size = some (seqObj "list" vs.toArray 0) := Heap.get?_push_size _ rfl
  refine wpAny_bind (wpAny_holding (wpAny_call_entry slot_list_sort ⟨_, atL, rfl⟩ entry_list_sort (SrtO.list_sort_ord (swo_txt strOf) atL vz (fun h2 => txt_sortable h2 isS) fun out hs' hb => ⟨_, rfl, ?_⟩) (args_list_sort _)))
  obtain ⟨c, hcap⟩ := sortedHeap_at (vs := vs) (out := out.toArray) atL
  have ps : (out.map strOf).Perm hs := by
    rw [← e1]
    exact hb.perm.map strOf
  have rs : Rs (out.map strOf) := rs_of_srt (vs := vs) hs' (ps.nodup_iff.mpr nd)
  have er : out.map strOf = riseS hs := riseS_of rs fun x => ps.mem_iff
  have ol : out.length = hs.length := by rw [← hlen]; exact hb.perm.length_eq
  have hn : H h'.objs.size = none := I1.hok.fresh (Nat.le_refl _)
  have hlen2 : ((riseS hs).map V.str).length ≤ sizeLine := by rw [List.length_map, ← er, List.length_map, ol, sizeLine_eq]; omega
  have vals := vals_of_str (us := out) fun u hu => isS u (hb.perm.mem_iff.mp hu)
  rw [er] at vals
  have keep : ∀ b u, h'.get? b = some u → (sortedHeap (h'.push (seqObj "list" vs.toArray 0)) h'.objs.size vs out.toArray).get? b = some u := fun b u e => by
    have lt := Heap.lt_size e
    rw [sortedHeap_old (Nat.ne_of_lt lt) (by rw [size_push']; exact Nat.lt_succ_of_lt lt)]
    exact Heap.get?_push_of_some _ e
  refine wpAny_pure ⟨_, rfl, ?_⟩
  exact ⟨.ref h'.objs.size, _, I1.laid (t' := tk) keep (Nat.le_refl _) (show ObjOk X.prog X.w _ _ _ (.lst ((riseS hs).map V.str)) from ⟨hlen2, out, c, vals, hcap⟩), rfl, q _ hn⟩
end
end Fc
set_option maxHeartbeats 4000000
/-! What the law tells of what is amiss. -/
namespace Fc
open PySem PySem.Spec PyProof.Rows L2
section
variable {X : Cx} {K : PySem.W.Frag}
theorem cr_sortRDK (h : X.K = K := by rfl) : CallR X (.builtin "sorted") (rSortRD K) := by
  subst h
  exact cr_sortRD
end
noncomputable def amissPL (rs : List Row) (f : Str → List Str) (p : P2) : List Row := amissL p.1 (mainM rs p.2) (liesM rs f p.1 p.2)
noncomputable def amissB (rs : List Row) (ps : List P2) (f : Str → List Str) : List Row := ps.flatMap (amissPL rs f) ++ strangeM (ruleHeadsM rs) ps f
theorem perm_fm {α β : Type} {g g' : α → List β} : ∀ (l : List α), (∀ x ∈ l, (g x).Perm (g' x)) → (l.flatMap g).Perm (l.flatMap g')
  | [], _ => List.Perm.refl _
  | x :: l, h => by
    rw [List.flatMap_cons, List.flatMap_cons]
    exact (h x List.mem_cons_self).append (perm_fm l fun y hy => h y (List.mem_cons_of_mem _ hy))
theorem amissB_perm (rs : List Row) (ps : List P2) (f : Str → List Str) : (amissB rs ps f).Perm (amissA rs ps f) :=
  List.perm_append_comm.trans ((List.Perm.refl _).append (perm_fm ps fun p _ => amissL_perm _ _ _))
/-- the first i of them -/
def amissI (n main h : Str) (t : List Str) : Nat → List Row
  | 0 => []
  | i + 1 => (if h = main then [] else [(n, ("astray" : Str), h)]) ++ (t.take i).map (fun x => (n, ("twice" : Str), x))
theorem amissI_len (n main h : Str) (t : List Str) (i : Nat) : (amissI n main h t i).length ≤ i := by
  cases i with
  | zero => exact Nat.le_refl _
  | succ i =>
    unfold amissI
    rw [List.length_append, List.length_map, List.length_take]
    split
    · show 0 + _ ≤ _
      omega
    · show 1 + _ ≤ _
      omega
theorem amissI_all (n main h : Str) (t : List Str) : amissI n main h t (h :: t).length = amissL n main (h :: t) := by
  unfold amissL
  show (_ ++ (t.take t.length).map _) = _
  rw [List.take_length]
def spAmissL : Sp := fun vs H Q _ => ∃ (v u c : V) (rs : List Row) (ps : List P2) (f : Str → List Str), vs = [v, u, c] ∧ Dn N0 H v (ruleD rs) ∧ Dn N0 H u (papersD ps) ∧ Dn N0 H c (drawD (ruleHeadsM rs) f) ∧ GoodR rs ∧ GoodP ps ∧ (∀ h ∈ ruleHeadsM rs, (f h).length ≤ 100) ∧
  ∀ p ys H', H p = none → Kp N0 H H' → ys.length ≤ 1000 → H' p = some (.lst ys) → DnA N0 H' ys ((amissF rs ps f).map rowD) → Q (.ref p) H'
def spDoneL : Sp := fun vs H Q _ => ∃ (c u : V) (hs : List Str) (f : Str → List Str) (ds : List Row), vs = [c, u] ∧ Dn N0 H c (drawD hs f) ∧ Dn N0 H u (.list (ds.map rowD)) ∧ Rs hs ∧ hs.length ≤ 7 ∧ DeedsOk hs ds ∧ ds.length ≤ 100 ∧ (∀ h ∈ hs, (f h).length ≤ 100) ∧
  ∀ p H', H p = none → Kp N0 H H' → Dn N0 H' (.ref p) (drawD hs (doneF f ds)) → Q (.ref p) H'
theorem dkv_keys : ∀ {hs : List Str} {as : List Addr}, as.length = hs.length → (dkv hs as).map (·.1) = hs.map (fun h => (.inr h : Key))
  | [], [], _ => rfl
  | [], _ :: _, h => by cases h
  | _ :: _, [], h => by cases h
  | h :: hs, a :: as, l => by
    have ih := dkv_keys (hs := hs) (as := as) (Nat.succ.inj l)
    show (.inr h : Key) :: (dkv hs as).map (·.1) = (.inr h : Key) :: hs.map _
    rw [ih]
theorem doneF_snoc (f : Str → List Str) (ds : List Row) (d : Row) : doneF f (ds ++ [d]) = stepD (doneF f ds) d := by
  unfold doneF
  rw [List.foldl_append]
  rfl
theorem Lies.newQ {H0 H : Hp} {D q : Addr} {hs : List Str} {g : Str → List Str} {as : List Addr} (z : Lies H0 H D hs g as) (h : H q = none) : q ∉ as := fun m => by
  obtain ⟨j', hj', e'⟩ := List.getElem_of_mem m
  have y := z.lst j' q (hs[j']'(by have := z.len; omega)) (by rw [List.getElem?_eq_getElem hj', e']) (List.getElem?_eq_getElem _)
  rw [y] at h
  cases h
end Fc
set_option maxHeartbeats 4000000
/-! How large what is told can be. -/
namespace Fc
open PySem PySem.Spec PyProof.Rows L2
def leI (a b : I2) : Bool := !lexI b a
theorem leI_trans (a b c : I2) (h1 : leI a b = true) (h2 : leI b c = true) : leI a c = true := by
  unfold leI at h1 h2 ⊢
  rw [Bool.not_eq_true'] at h1 h2 ⊢
  cases z : lexI c a with
  | false => rfl
  | true =>
    rcases lexI_tri a b with q | q | q
    · rw [lexI_trans z q] at h2
      cases h2
    · rw [q] at z
      rw [z] at h2
      cases h2
    · rw [q] at h1
      cases h1
theorem leI_total (a b : I2) : (leI a b || leI b a) = true := by
  unfold leI
  cases z : lexI b a with
  | false => rfl
  | true => rw [lexI_asym z]; rfl
theorem order_ex {rs : List Row} (g : GoodR rs) (m : Str) : orderM rs m (orderF rs m) := by
  have so : SrtO.Srtd (fun v u => lexI v u) (((ruleHeadsM rs).map fun h => (((nOf rs m h : Nat) : Int), h)).mergeSort leI) := by
    have z := List.pairwise_mergeSort (le := leI) leI_trans leI_total ((ruleHeadsM rs).map fun h => (((nOf rs m h : Nat) : Int), h))
    exact z.imp fun {a b} h => by
      have y : (!lexI b a) = true := h
      simpa using y
  have o := order_of99 g (m := m) so (List.mergeSort_perm _ leI)
  rw [← orderF_eq o]
  exact o
def sz8 (z : Str) : Prop := z.cps.size ≤ 8
def Sm3 (t : Row) : Prop := sz8 t.1 ∧ sz8 t.2.1 ∧ sz8 t.2.2
theorem heads_sz {rs : List Row} (g : GoodR rs) : ∀ h ∈ ruleHeadsM rs, sz8 h := fun h hh => by
  have e : ∀ z : Str, z.length = z.cps.size := fun _ => rfl
  rcases List.mem_append.mp ((riseS_mem _ _).mp hh) with z | z
  · obtain ⟨r, hr, q⟩ := List.mem_map.mp z
    obtain ⟨l1, _, _⟩ := isRowM_len (g.row r hr)
    rw [e] at l1
    rw [← q]
    unfold sz8
    omega
  · rw [List.mem_singleton.mp z]
    unfold sz8
    decide +kernel
theorem word_sz {z : Str} (h : isWordM z = true) : sz8 z := by
  have e : z.length = z.cps.size := rfl
  have l := isWordM_len h
  unfold sz8
  omega
theorem lits_sz : sz8 "" ∧ sz8 "gone" ∧ sz8 "astray" ∧ sz8 "twice" ∧ sz8 "strange" := by
  unfold sz8
  decide +kernel
theorem amiss_sz {rs : List Row} {ps : List P2} {f : Str → List Str} (g : GoodR rs) (q : GoodP ps) (c : GoodC rs f) : ∀ t ∈ amissA rs ps f, Sm3 t := fun t ht => by
  obtain ⟨e0, e1, e2, e3, e4⟩ := lits_sz
  rcases List.mem_append.mp ht with z | z
  · obtain ⟨h, hh, hz⟩ := List.mem_flatMap.mp z
    obtain ⟨n, hn, e⟩ := List.mem_map.mp hz
    subst e
    exact ⟨word_sz (c.ok h hh n (List.mem_filter.mp hn).1), e4, heads_sz g h hh⟩
  · obtain ⟨p, hp, hz⟩ := List.mem_flatMap.mp z
    have w := word_sz (q.ok p hp).1
    have lm : ∀ x ∈ liesM rs f p.1 p.2, sz8 x := fun x hx => heads_sz g x ((orderM_mem (order_ex g p.2) x).mp (List.mem_filter.mp hx).1)
    unfold amissP at hz
    cases e : liesM rs f p.1 p.2 with
    | nil =>
      rw [e] at hz
      rw [List.mem_singleton.mp hz]
      exact ⟨w, e1, heads_sz g _ (main_in rs p.2)⟩
    | cons h l =>
      rw [e] at hz lm
      rcases List.mem_append.mp hz with y | y
      · obtain ⟨x, hx, ex⟩ := List.mem_map.mp y
        rw [← ex]
        exact ⟨w, e3, lm x (List.mem_cons_of_mem _ hx)⟩
      · split at y
        · cases y
        · rw [List.mem_singleton.mp y]
          exact ⟨w, e2, lm h List.mem_cons_self⟩
theorem mains_sz {rs : List Row} (g : GoodR rs) (ps : List P2) (n : Str) : sz8 (mainsF rs ps n) := by
  unfold mainsF
  cases e : ps.find? fun p => decide (p.1 = n) with
  | none => exact lits_sz.1
  | some p => exact heads_sz g _ (main_in rs p.2)
theorem deed_sz {mains : Str → Str} (k : ∀ n, sz8 (mains n)) {t : Row} (h : Sm3 t) : Sm3 (deedM mains t) := by
  unfold deedM
  split
  · exact ⟨h.1, lits_sz.1, h.2.2⟩
  · split
    · exact ⟨h.1, h.2.2, k _⟩
    · exact ⟨h.1, h.2.2, lits_sz.1⟩
theorem fm_len {α β : Type} {g : α → List β} {N : Nat} : ∀ (l : List α), (∀ x ∈ l, (g x).length ≤ N) → (l.flatMap g).length ≤ N * l.length
  | [], _ => Nat.zero_le _
  | x :: l, k => by
    have ih := fm_len l fun y hy => k y (List.mem_cons_of_mem _ hy)
    have z := k x List.mem_cons_self
    rw [List.flatMap_cons, List.length_append, List.length_cons, Nat.mul_succ]
    omega
theorem amissA_len {rs : List Row} {ps : List P2} {f : Str → List Str} (g : GoodR rs) (q : GoodP ps) (c : GoodC rs f) : (amissA rs ps f).length ≤ 796 := by
  have h7 := heads7 g
  have z1 := strange_len ps c.few
  have z2 := fm_len (g := amissP rs f) (N := 8) ps fun p _ => by
    have z := amissO_len p.1 (mainM rs p.2) (liesM rs f p.1 p.2)
    have y := lies_len (order_ex g p.2) f p.1
    show (amissO p.1 (mainM rs p.2) (liesM rs f p.1 p.2)).length ≤ 8
    omega
  have l12 := q.few
  unfold amissA
  rw [List.length_append]
  omega
theorem rows_wt : ∀ l : List Row, (∀ t ∈ l, Sm3 t) → PyData.depthAll (l.map rowD) ≤ 1 ∧ PyData.weightAll (l.map rowD) ≤ 100 * l.length
  | [], _ => ⟨by simp [PyData.depthAll], by simp [PyData.weightAll]⟩
  | r :: l, h => by
    obtain ⟨i1, i2⟩ := rows_wt l fun x hx => h x (List.mem_cons_of_mem _ hx)
    obtain ⟨l1, l2, l3⟩ := h r List.mem_cons_self
    unfold sz8 at l1 l2 l3
    simp only [List.map_cons, PyData.depthAll, PyData.weightAll, rowD, PyData.depth, PyData.weight, List.length_cons]
    omega
theorem strs_wt : ∀ l : List Str, (∀ z ∈ l, sz8 z) → PyData.weightAll (l.map PyData.str) ≤ 20 * l.length
  | [], _ => by simp [PyData.weightAll]
  | z :: l, h => by
    have ih := strs_wt l fun x hx => h x (List.mem_cons_of_mem _ hx)
    have w := h z List.mem_cons_self
    unfold sz8 at w
    simp only [List.map_cons, PyData.weightAll, PyData.weight, List.length_cons]
    omega
theorem draw_wt {f : Str → List Str} {N : Nat} : ∀ hs : List Str, (∀ h ∈ hs, sz8 h ∧ (f h).length ≤ N ∧ ∀ z ∈ f h, sz8 z) → PyData.weightAll (hs.map fun h => .tuple [.str h, .list ((f h).map PyData.str)]) ≤ (100 + 20 * N) * hs.length
  | [], _ => by simp [PyData.weightAll]
  | h :: hs, k => by
    have ih := draw_wt (f := f) (N := N) hs fun x hx => k x (List.mem_cons_of_mem _ hx)
    obtain ⟨w1, w2, w3⟩ := k h List.mem_cons_self
    have w := strs_wt (f h) w3
    have w4 : 20 * (f h).length ≤ 20 * N := Nat.mul_le_mul_left _ w2
    unfold sz8 at w1
    simp only [List.map_cons, PyData.weightAll, PyData.weight, List.length_cons, Nat.mul_succ]
    omega
theorem step_mem {f : Str → List Str} {d : Row} {x h : Str} (hx : x ∈ stepD f d h) : x ∈ f h ∨ x = d.1 := by
  unfold stepD at hx
  split at hx
  · have tk : ∀ y, x ∈ takeOut f d.1 d.2.1 y → x ∈ f y := fun y hy => by
      unfold takeOut at hy
      split at hy
      · exact hy
      · have hy2 : x ∈ (if y = d.2.1 then (f d.2.1).filter (fun x => !decide (x = d.1)) else f y) := hy
        split at hy2
        · rename_i e
          rw [e]
          exact (List.mem_filter.mp hy2).1
        · exact hy2
    unfold putIn at hx
    split at hx
    · exact .inl (tk h hx)
    · have hx2 : x ∈ (if h = d.2.2 then riseS (takeOut f d.1 d.2.1 d.2.2 ++ [d.1]) else takeOut f d.1 d.2.1 h) := hx
      split at hx2
      · rename_i e
        rcases List.mem_append.mp ((riseS_mem _ _).mp hx2) with z | z
        · rw [e]
          exact .inl (tk _ z)
        · exact .inr (List.mem_singleton.mp z)
      · exact .inl (tk h hx2)
  · exact .inl hx
theorem done_mem {x h : Str} : ∀ (ds : List Row) {f : Str → List Str}, x ∈ doneF f ds h → x ∈ f h ∨ ∃ d ∈ ds, x = d.1
  | [], _, hx => .inl hx
  | d :: ds, f, hx => by
    rcases done_mem ds (f := stepD f d) hx with z | ⟨q, hq, e⟩
    · rcases step_mem z with y | y
      · exact .inl y
      · exact .inr ⟨d, List.mem_cons_self, y⟩
    · exact .inr ⟨q, List.mem_cons_of_mem _ hq, e⟩
noncomputable def found9 (rs : List Row) (ps : List P2) (f : Str → List Str) (ds : List Row) : PyData := .list [.list ((amissF rs ps f).map rowD), .list ((mendedF rs ps f).map rowD), drawD (ruleHeadsM rs) (doneF f ds)]
theorem found9_small {rs : List Row} {ps : List P2} {f : Str → List Str} {ds : List Row} (g : GoodR rs) (q : GoodP ps) (c : GoodC rs f) (ok : DeedsOk (ruleHeadsM rs) ds) (l : ds.length ≤ 100) (hd : ∀ d ∈ ds, sz8 d.1) : PyData.depth (found9 rs ps f ds) < 5 ∧ PyData.weight (found9 rs ps f ds) ≤ 1000000 := by
  have h7 := heads7 g
  have la := amissA_len g q c
  have sa := amiss_sz g q c
  obtain ⟨a1, a2⟩ := rows_wt (amissF rs ps f) fun t ht => sa t ((sort3_mem _ _).mp ht)
  have l1 : (amissF rs ps f).length ≤ 796 := by
    show (sort3 _).length ≤ _
    rw [sort3_len]
    exact la
  obtain ⟨b1, b2⟩ := rows_wt (mendedF rs ps f) fun t ht => by
    obtain ⟨x, hx, e⟩ := List.mem_map.mp ((sort3_mem _ _).mp ht)
    rw [← e]
    exact deed_sz (mains_sz g ps) (sa x ((sort3_mem _ _).mp hx))
  have l2 : (mendedF rs ps f).length ≤ 796 := by
    show (sort3 _).length ≤ _
    rw [sort3_len, List.length_map]
    exact l1
  have dd := depthD (doneF f ds) (ruleHeadsM rs)
  have dw := draw_wt (f := doneF f ds) (N := 200) (ruleHeadsM rs) fun h hh => ⟨heads_sz g h hh, by
    have z := done_len ds c.few ok h hh
    omega, fun z hz => by
    rcases done_mem ds hz with y | ⟨d, hd2, e⟩
    · exact word_sz (c.ok h hh z y)
    · rw [e]
      exact hd d hd2⟩
  unfold found9
  simp only [drawD, PyData.depth, PyData.depthAll, PyData.weight, PyData.weightAll, List.length_cons, List.length_nil, List.length_map]
  generalize (amissF rs ps f).length = n1 at a2 l1 ⊢
  generalize (mendedF rs ps f).length = n2 at b2 l2 ⊢
  generalize (ruleHeadsM rs).length = n3 at dw h7 ⊢
  omega
/-- the deed, as the law tells it -/
theorem deed_law {rs : List Row} {ps : List P2} {f : Str → List Str} (nd : (ps.map (·.1)).Nodup) {t : Row} (ht : t ∈ amissA rs ps f) :
    (t.1, (if t.2.1 = "gone" then ("" : Str) else t.2.2), (if t.2.1 = "gone" ∨ t.2.1 = "astray" then mainsF rs ps t.1 else "")) = deedM (mainsF rs ps) t := by
  unfold deedM
  by_cases c : t.2.1 = "gone"
  · rw [if_pos c, if_pos (.inl c), if_pos c]
    rcases amiss_word ht with ⟨w, _⟩ | ⟨p, hp, e1, e2⟩
    · rw [c] at w
      exact absurd w (by decide)
    · rcases e2 with ⟨_, e3⟩ | e3 | e3
      · rw [e1, mains_at nd hp, e3]
      · rw [c] at e3
        exact absurd e3 (by decide)
      · rw [c] at e3
        exact absurd e3 (by decide)
  · rw [if_neg c, if_neg c]
    by_cases c2 : t.2.1 = "astray"
    · rw [if_pos (.inr c2), if_pos c2]
    · rw [if_neg c2, if_neg (fun z => z.elim c c2)]
theorem mains_has {rs : List Row} {ps : List P2} {f : Str → List Str} (nd : (ps.map (·.1)).Nodup) {t : Row} (ht : t ∈ amissA rs ps f) (c : t.2.1 = "gone" ∨ t.2.1 = "astray") : valV (mkv rs ps) (.inr t.1) = some (.str (mainsF rs ps t.1)) := by
  rcases amiss_word ht with ⟨w, _⟩ | ⟨p, hp, e1, e2⟩
  · rcases c with c | c
    · rw [c] at w
      exact absurd w (by decide)
    · rw [c] at w
      exact absurd w (by decide)
  · rw [e1]
    exact mkv_at nd hp
/-- rows lie in tuples, so not in lists -/
theorem rows_off {S : Addr → Prop} {H : Hp} (hS : ∀ a, S a → ∃ xs, H a = some (.lst xs)) : ∀ {xs : List V} {l : List Row}, DnA N0 H xs (l.map rowD) → DnA S H xs (l.map rowD)
  | _, [], h => by cases h; exact .nil
  | _, r :: l, h => by
    cases h with
    | cons h t =>
      obtain ⟨a, rfl, _, ha⟩ := rowD_ex h
      refine .cons (.tup (fun z => ?_) ha (DnA.strs [r.1, r.2.1, r.2.2])) (rows_off hS t)
      obtain ⟨ys, e⟩ := hS a z
      rw [e] at ha
      cases ha
end Fc
set_option maxHeartbeats 4000000
/-! One sheet taken out of the right cabinet, or laid elsewhere. -/
namespace Fc
open PySem PySem.Spec PyProof.Rows L2
/-- who lies where behind a deed -/
theorem step_iff {f : Str → List Str} {n b e x h : Str} (ok : b = "" ∨ n ∈ f b) : x ∈ stepD f (n, b, e) h ↔ (x ∈ f h ∧ ¬ (h = b ∧ b ≠ "" ∧ x = n)) ∨ (h = e ∧ e ≠ "" ∧ x = n) := by
  have tk : ∀ y, x ∈ takeOut f n b y ↔ x ∈ f y ∧ ¬ (y = b ∧ b ≠ "" ∧ x = n) := fun y => by
    unfold takeOut
    by_cases cb : b = ""
    · rw [if_pos cb]
      exact ⟨fun z => ⟨z, fun q => q.2.1 cb⟩, fun z => z.1⟩
    · rw [if_neg cb]
      show x ∈ (if y = b then (f b).filter (fun x => !decide (x = n)) else f y) ↔ _
      by_cases c : y = b
      · rw [if_pos c, List.mem_filter, c]
        constructor
        · rintro ⟨z1, z2⟩
          have z3 : x ≠ n := by simpa using z2
          exact ⟨z1, fun q => z3 q.2.2⟩
        · rintro ⟨z1, z2⟩
          have z3 : x ≠ n := fun q => z2 ⟨rfl, cb, q⟩
          exact ⟨z1, by simpa using z3⟩
      · rw [if_neg c]
        exact ⟨fun z => ⟨z, fun q => c q.1⟩, fun z => z.1⟩
  unfold stepD
  rw [if_pos ok]
  show x ∈ putIn (takeOut f n b) n e h ↔ _
  unfold putIn
  by_cases ce : e = ""
  · rw [if_pos ce, tk]
    exact ⟨.inl, fun z => z.elim id fun q => (q.2.1 ce).elim⟩
  · rw [if_neg ce]
    show x ∈ (if h = e then riseS (takeOut f n b e ++ [n]) else takeOut f n b h) ↔ _
    by_cases c : h = e
    · rw [if_pos c, riseS_mem, List.mem_append, List.mem_singleton, tk, c]
      exact ⟨fun z => z.elim .inl fun q => .inr ⟨rfl, ce, q⟩, fun z => z.elim .inl fun q => .inr q.2.2⟩
    · rw [if_neg c, tk]
      exact ⟨.inl, fun z => z.elim id fun q => (c q.1).elim⟩
theorem inD_iff {rs : List Row} {ps : List P2} {x h : Str} : x ∈ inDrawer rs ps h ↔ ∃ p ∈ ps, p.1 = x ∧ mainM rs p.2 = h := by
  unfold inDrawer
  rw [riseS_mem, List.mem_map]
  constructor
  · rintro ⟨p, hp, e⟩
    obtain ⟨h1, h2⟩ := List.mem_filter.mp hp
    exact ⟨p, h1, e, of_decide_eq_true h2⟩
  · rintro ⟨p, h1, e, h2⟩
    exact ⟨p, List.mem_filter.mpr ⟨h1, decide_eq_true h2⟩, e⟩
theorem nd_paper {ps : List P2} (nd : (ps.map (·.1)).Nodup) {p q : P2} (hp : p ∈ ps) (hq : q ∈ ps) (e : p.1 = q.1) : p = q := by
  obtain ⟨i, hi, ei⟩ := List.getElem_of_mem hp
  obtain ⟨j, hj, ej⟩ := List.getElem_of_mem hq
  have z := nd_at nd (i := i) (j := j) (x := p.1) (by rw [List.getElem?_map, List.getElem?_eq_getElem hi, ei]; rfl) (by rw [List.getElem?_map, List.getElem?_eq_getElem hj, ej, e]; rfl)
  subst z
  rw [← ei, ← ej]
theorem inD_paper {rs : List Row} {ps : List P2} (nd : (ps.map (·.1)).Nodup) {p : P2} (hp : p ∈ ps) {h : Str} : p.1 ∈ inDrawer rs ps h ↔ h = mainM rs p.2 := by
  rw [inD_iff]
  constructor
  · rintro ⟨q, hq, e, e2⟩
    rw [← nd_paper nd hq hp e]
    exact e2.symm
  · intro e
    exact ⟨p, hp, rfl, e.symm⟩
theorem isRowM_word {r : Row} (h : isRowM r = true) : isWordM r.1 = true := by
  unfold isRowM at h
  exact (Bool.and_eq_true_iff.mp (Bool.and_eq_true_iff.mp h).1).1
theorem heads_ne {rs : List Row} (g : GoodR rs) : ∀ h ∈ ruleHeadsM rs, h ≠ "" := fun h hh e => by
  rcases List.mem_append.mp ((riseS_mem _ _).mp hh) with z | z
  · obtain ⟨r, hr, q⟩ := List.mem_map.mp z
    have w := g.row r hr
    have w2 := isRowM_word w
    rw [q, e] at w2
    exact absurd w2 (by decide +kernel)
  · rw [List.mem_singleton.mp z] at e
    exact absurd e (by decide)
theorem fm_one {α β : Type} {g : α → List β} {p : α} : ∀ {l : List α}, l.Nodup → p ∈ l → (∀ q ∈ l, q ≠ p → g q = []) → l.flatMap g = g p
  | [], _, h, _ => by cases h
  | q :: l, nd, h, k => by
    obtain ⟨n1, n2⟩ := List.nodup_cons.mp nd
    rw [List.flatMap_cons]
    by_cases e : q = p
    · have z : l.flatMap g = [] := List.flatMap_eq_nil_iff.mpr fun x hx => k x (List.mem_cons_of_mem _ hx) fun c => n1 (by rw [e, ← c]; exact hx)
      rw [z, e, List.append_nil]
    · rw [k q List.mem_cons_self e, List.nil_append]
      refine fm_one n2 ?_ fun x hx => k x (List.mem_cons_of_mem _ hx)
      rcases List.mem_cons.mp h with z | z
      · exact (e z.symm).elim
      · exact z
theorem sort3_one (r : Row) : sort3 [r] = [r] := List.perm_singleton.mp (sort3_perm [r])
theorem filter_one {l : List Str} {x : Str} (nd : l.Nodup) (hx : x ∈ l) : l.filter (fun h => decide (h = x)) = [x] := by
  have z1 : ∀ y ∈ l.filter (fun h => decide (h = x)), y = x := fun y hy => of_decide_eq_true (List.mem_filter.mp hy).2
  have z2 := nd.filter fun h => decide (h = x)
  have z3 : x ∈ l.filter (fun h => decide (h = x)) := List.mem_filter.mpr ⟨hx, decide_eq_true rfl⟩
  generalize l.filter (fun h => decide (h = x)) = m at z1 z2 z3
  match m, z1, z2, z3 with
  | [], _, _, z3 => cases z3
  | [a], z1, _, _ => rw [z1 a List.mem_cons_self]
  | a :: b :: r, z1, z2, _ =>
    have e : a = b := (z1 a List.mem_cons_self).trans (z1 b (List.mem_cons_of_mem _ List.mem_cons_self)).symm
    exact absurd (List.mem_cons_self (a := b) (l := r)) (by rw [← e]; exact fun c => (List.nodup_cons.mp z2).1 (by rw [← e]; exact List.mem_cons_self))
section
variable {rs : List Row} {ps : List P2} {p : P2} {there : Str}
/-- the cabinet with one sheet elsewhere -/
noncomputable def oneF (rs : List Row) (ps : List P2) (p : P2) (there : Str) : Str → List Str := doneF (inDrawer rs ps) [(p.1, mainM rs p.2, there)]
theorem one_iff (hg : GoodR rs) (q : GoodP ps) (hp : p ∈ ps) {x h : Str} : x ∈ oneF rs ps p there h ↔ (x ∈ inDrawer rs ps h ∧ ¬ (h = mainM rs p.2 ∧ x = p.1)) ∨ (h = there ∧ there ≠ "" ∧ x = p.1) := by
  have mne := heads_ne hg _ (main_in rs p.2)
  show x ∈ stepD (inDrawer rs ps) (p.1, mainM rs p.2, there) h ↔ _
  rw [step_iff (.inr ((inD_paper q.nd hp).mpr rfl))]
  refine or_congr (and_congr Iff.rfl (not_congr ⟨fun z => ⟨z.1, z.2.2⟩, fun z => ⟨z.1, mne, z.2⟩⟩)) Iff.rfl
theorem one_self (hg : GoodR rs) (q : GoodP ps) (hp : p ∈ ps) {h : Str} : p.1 ∈ oneF rs ps p there h ↔ h = there ∧ there ≠ "" := by
  rw [one_iff hg q hp]
  constructor
  · rintro (⟨z1, z2⟩ | z)
    · exact (z2 ⟨(inD_paper q.nd hp).mp z1, rfl⟩).elim
    · exact ⟨z.1, z.2.1⟩
  · rintro ⟨z1, z2⟩
    exact .inr ⟨z1, z2, rfl⟩
theorem one_other (hg : GoodR rs) (q : GoodP ps) (hp : p ∈ ps) {r : P2} (hr : r ∈ ps) (ne : r.1 ≠ p.1) {h : Str} : r.1 ∈ oneF rs ps p there h ↔ h = mainM rs r.2 := by
  rw [one_iff hg q hp, ← inD_paper (rs := rs) q.nd hr (h := h)]
  exact ⟨fun z => z.elim (fun y => y.1) fun y => (ne y.2.2).elim, fun z => .inl ⟨z, fun y => ne y.2⟩⟩
theorem one_name (hg : GoodR rs) (q : GoodP ps) (hp : p ∈ ps) {x h : Str} (hx : x ∈ oneF rs ps p there h) : x ∈ ps.map (·.1) := by
  rcases (one_iff hg q hp).mp hx with ⟨z, _⟩ | ⟨_, _, z⟩
  · obtain ⟨r, hr, e, _⟩ := inD_iff.mp z
    exact List.mem_map.mpr ⟨r, hr, e⟩
  · exact List.mem_map.mpr ⟨p, hp, z.symm⟩
theorem inD_len (q : GoodP ps) (h : Str) : (inDrawer rs ps h).length ≤ 12 := by
  have z := riseS_len ((ps.filter fun p => decide (mainM rs p.2 = h)).map (·.1))
  rw [List.length_map] at z
  have y := List.length_filter_le (fun p : P2 => decide (mainM rs p.2 = h)) ps
  have l := q.few
  unfold inDrawer
  omega
theorem inD_good (q : GoodP ps) : GoodC rs (inDrawer rs ps) :=
  ⟨fun h _ x hx => by
    obtain ⟨r, hr, e, _⟩ := inD_iff.mp hx
    rw [← e]
    exact (q.ok r hr).1, fun h _ => riseS_rs _, fun h _ => Nat.le_trans (inD_len q h) (by decide)⟩
theorem one_ok (ht : there = "" ∨ there ∈ ruleHeadsM rs) : DeedsOk (ruleHeadsM rs) [(p.1, mainM rs p.2, there)] := fun d hd => by
  rw [List.mem_singleton.mp hd]
  exact ⟨.inr (main_in rs p.2), ht⟩
theorem one_good (hg : GoodR rs) (q : GoodP ps) (hp : p ∈ ps) (ht : there = "" ∨ there ∈ ruleHeadsM rs) : GoodC rs (oneF rs ps p there) := by
  refine ⟨fun h _ x hx => ?_, fun h hh => done_rs (hs := ruleHeadsM rs) _ (fun _ _ => riseS_rs _) h hh, fun h hh => ?_⟩
  · obtain ⟨r, hr, e⟩ := List.mem_map.mp (one_name hg q hp hx)
    rw [← e]
    exact (q.ok r hr).1
  · have z := done_len (hs := ruleHeadsM rs) [(p.1, mainM rs p.2, there)] (f := inDrawer rs ps) (N := 12) (fun h _ => inD_len q h) (one_ok ht) h hh
    exact Nat.le_trans z (by show 12 + 1 ≤ 100; decide)
/-- what is amiss: that sheet -/
def wrongR (rs : List Row) (p : P2) (there : Str) : Row := (p.1, (if there = "" then ("gone" : Str) else "astray"), (if there = "" then mainM rs p.2 else there))
theorem one_amiss (hg : GoodR rs) (q : GoodP ps) (hp : p ∈ ps) (ht : there = "" ∨ there ∈ ruleHeadsM rs) (hne : there ≠ mainM rs p.2) : amissF rs ps (oneF rs ps p there) = [wrongR rs p there] := by
  have e1 : strangeM (ruleHeadsM rs) ps (oneF rs ps p there) = [] := by
    refine List.flatMap_eq_nil_iff.mpr fun h _ => ?_
    unfold strangeH
    rw [List.map_eq_nil_iff, List.filter_eq_nil_iff]
    intro x hx c
    have z := one_name hg q hp hx
    rw [decide_eq_true z] at c
    cases c
  have e2 : ps.flatMap (amissP rs (oneF rs ps p there)) = amissP rs (oneF rs ps p there) p := by
    refine fm_one (List.Pairwise.of_map (·.1) (fun a b h e => h (congrArg (·.1) e)) q.nd) hp fun r hr ne => ?_
    have n1 : r.1 ≠ p.1 := fun e => ne (nd_paper q.nd hr hp e)
    have ho := order_ex hg r.2
    have el : liesM rs (oneF rs ps p there) r.1 r.2 = [mainM rs r.2] := by
      unfold liesM
      rw [show (fun h => decide (r.1 ∈ oneF rs ps p there h)) = fun h => decide (h = mainM rs r.2) from funext fun h => decide_eq_decide.mpr (one_other hg q hp hr n1)]
      exact filter_one (orderM_nd ho) ((orderM_mem ho _).mpr (main_in rs r.2))
    unfold amissP
    rw [el]
    show _ ++ (if mainM rs r.2 = mainM rs r.2 then [] else _) = []
    rw [if_pos rfl]
    rfl
  have e3 : amissP rs (oneF rs ps p there) p = [wrongR rs p there] := by
    have ho := order_ex hg p.2
    have ef : (fun h => decide (p.1 ∈ oneF rs ps p there h)) = fun h => decide (h = there ∧ there ≠ "") := funext fun h => decide_eq_decide.mpr (one_self hg q hp)
    unfold amissP wrongR
    by_cases c : there = ""
    · have el : liesM rs (oneF rs ps p there) p.1 p.2 = [] := by
        unfold liesM
        rw [ef, List.filter_eq_nil_iff]
        intro x _ z
        exact (of_decide_eq_true z).2 c
      rw [el, if_pos c, if_pos c]
      rfl
    · have el : liesM rs (oneF rs ps p there) p.1 p.2 = [there] := by
        unfold liesM
        rw [ef, show (fun h => decide (h = there ∧ there ≠ "")) = fun h => decide (h = there) from funext fun h => decide_eq_decide.mpr ⟨fun z => z.1, fun z => ⟨z, c⟩⟩]
        exact filter_one (orderM_nd ho) ((orderM_mem ho _).mpr (ht.resolve_left c))
      rw [el, if_neg c, if_neg c]
      show _ ++ (if there = mainM rs p.2 then [] else _) = _
      rw [if_neg hne]
      rfl
  unfold amissF amissA
  rw [e1, e2, e3, List.nil_append, sort3_one]
theorem one_mended (hg : GoodR rs) (q : GoodP ps) (hp : p ∈ ps) (ht : there = "" ∨ there ∈ ruleHeadsM rs) (hne : there ≠ mainM rs p.2) : mendedF rs ps (oneF rs ps p there) = [(p.1, there, mainM rs p.2)] := by
  unfold mendedF
  rw [one_amiss hg q hp ht hne]
  show sort3 [deedM (mainsF rs ps) (wrongR rs p there)] = _
  rw [sort3_one]
  unfold wrongR deedM
  by_cases c : there = ""
  · rw [if_pos c, if_pos c, if_pos rfl, c]
  · rw [if_neg c, if_neg c, if_neg (show ¬ ("astray" : Str) = "gone" by decide), if_pos rfl]
    show [(p.1, there, mainsF rs ps p.1)] = _
    rw [mains_at q.nd hp]
/-- and back -/
theorem one_back (hg : GoodR rs) (q : GoodP ps) (hp : p ∈ ps) (hne : there ≠ mainM rs p.2) : ∀ h ∈ ruleHeadsM rs, doneF (oneF rs ps p there) [(p.1, there, mainM rs p.2)] h = inDrawer rs ps h := fun h hh => by
  have mne := heads_ne hg _ (main_in rs p.2)
  have r1 : Rs (doneF (oneF rs ps p there) [(p.1, there, mainM rs p.2)] h) := done_rs (hs := ruleHeadsM rs) _ (fun h hh => done_rs (hs := ruleHeadsM rs) _ (fun _ _ => riseS_rs _) h hh) h hh
  refine Rs.uniq r1 (riseS_rs _) fun x => ?_
  show x ∈ stepD (oneF rs ps p there) (p.1, there, mainM rs p.2) h ↔ x ∈ inDrawer rs ps h
  have ok : there = "" ∨ p.1 ∈ oneF rs ps p there there := by
    by_cases c : there = ""
    · exact .inl c
    · exact .inr ((one_self hg q hp).mpr ⟨rfl, c⟩)
  rw [step_iff ok, one_iff hg q hp]
  constructor
  · rintro (⟨(⟨z, _⟩ | z), y⟩ | ⟨z1, _, z2⟩)
    · exact z
    · exact (y z).elim
    · rw [z2, z1]
      exact (inD_paper q.nd hp).mpr rfl
  · intro z
    by_cases c : x = p.1
    · rw [c] at z ⊢
      exact .inr ⟨(inD_paper q.nd hp).mp z, mne, rfl⟩
    · exact .inl ⟨.inl ⟨z, fun y => c y.2⟩, fun y => c y.2.2⟩
theorem one_seen (hg : GoodR rs) (q : GoodP ps) (hp : p ∈ ps) (ht : there = "" ∨ there ∈ ruleHeadsM rs) (hne : there ≠ mainM rs p.2) :
    (orderF rs p.2).find? (fun h => decide (p.1 ∈ oneF rs ps p there h)) = (if there = "" then none else some there) ∧ (upTo (fun h => decide (p.1 ∈ oneF rs ps p there h)) (orderF rs p.2))[0]? = some (mainM rs p.2) ∧ (there = "" → upTo (fun h => decide (p.1 ∈ oneF rs ps p there h)) (orderF rs p.2) = orderF rs p.2) := by
  have ho := order_ex hg p.2
  have h0 := order_first (q.ok p hp).2 ho
  have ef : (fun h => decide (p.1 ∈ oneF rs ps p there h)) = fun h => decide (h = there ∧ there ≠ "") := funext fun h => decide_eq_decide.mpr (one_self hg q hp)
  rw [ef]
  by_cases c : there = ""
  · have fl : ∀ h, decide (h = there ∧ there ≠ "") = false := fun h => decide_eq_false fun z => z.2 c
    have u := upTo_none (p := fun h => decide (h = there ∧ there ≠ "")) (l := orderF rs p.2) fun x _ => fl x
    refine ⟨?_, by rw [u]; exact h0, fun _ => u⟩
    rw [if_pos c]
    exact List.find?_eq_none.mpr fun x _ => by rw [fl x]; exact Bool.false_ne_true
  · rw [if_neg c, show (fun h => decide (h = there ∧ there ≠ "")) = fun h => decide (h = there) from funext fun h => decide_eq_decide.mpr ⟨fun z => z.1, fun z => ⟨z, c⟩⟩]
    obtain ⟨j, hj⟩ := List.getElem?_of_mem ((orderM_mem ho there).mpr (ht.resolve_left c))
    obtain ⟨u1, u2⟩ := find_head (orderM_nd ho) hj
    refine ⟨u2, ?_, fun z => (c z).elim⟩
    rw [u1]
    cases j with
    | zero =>
      rw [h0] at hj
      exact (hne (Option.some.inj hj).symm).elim
    | succ j =>
      have jl := (List.getElem?_eq_some_iff.mp hj).1
      rw [List.getElem?_append_left (by rw [List.length_take]; omega), List.getElem?_take, if_pos (Nat.succ_pos j)]
      exact h0
theorem one_seen2 (hg : GoodR rs) (q : GoodP ps) (hp : p ∈ ps) {r : P2} (hr : r ∈ ps) (ne : r.1 ≠ p.1) :
    (orderF rs r.2).find? (fun h => decide (r.1 ∈ oneF rs ps p there h)) = some (mainM rs r.2) ∧ upTo (fun h => decide (r.1 ∈ oneF rs ps p there h)) (orderF rs r.2) = [mainM rs r.2] := by
  have ho := order_ex hg r.2
  have h0 := order_first (q.ok r hr).2 ho
  rw [show (fun h => decide (r.1 ∈ oneF rs ps p there h)) = fun h => decide (h = mainM rs r.2) from funext fun h => decide_eq_decide.mpr (one_other hg q hp hr ne)]
  obtain ⟨u1, u2⟩ := find_head (orderM_nd ho) h0
  exact ⟨u2, u1⟩
end
theorem rows_shaped : ∀ l : List Row, (∀ t ∈ l, PyData.strOk t.1 = true ∧ PyData.strOk t.2.1 = true ∧ PyData.strOk t.2.2 = true) → PyData.canLayAll0 (l.map rowD) = true ∧ PyData.depthAll (l.map rowD) ≤ 1
  | [], _ => ⟨by simp [PyData.canLayAll0], by simp [PyData.depthAll]⟩
  | t :: l, h => by
    obtain ⟨i1, i2⟩ := rows_shaped l fun x hx => h x (List.mem_cons_of_mem _ hx)
    obtain ⟨a, b, c⟩ := h t List.mem_cons_self
    refine ⟨?_, ?_⟩
    · rw [List.map_cons, PyData.canLayAll0, i1, Bool.and_true]
      simp [rowD, PyData.canLay0, PyData.canLayAll0, a, b, c]
    · rw [List.map_cons, PyData.depthAll]
      simp only [rowD, PyData.depth, PyData.depthAll]
      omega
theorem row_shaped {t : Row} (a : PyData.strOk t.1 = true) (b : PyData.strOk t.2.1 = true) (c : PyData.strOk t.2.2 = true) : SeqAt.shaped (.list [rowD t]) = true := by
  unfold SeqAt.shaped
  rw [Bool.and_eq_true]
  obtain ⟨h1, h2⟩ := rows_shaped [t] fun x hx => by rw [List.mem_singleton.mp hx]; exact ⟨a, b, c⟩
  refine ⟨?_, decide_eq_true ?_⟩
  · rw [PyData.canLay0]
    exact h1
  · simp only [PyData.depth]
    simp only [List.map_cons, List.map_nil] at h2
    omega
def pickT (i : Nat) (a b : Str) : TE := fun σ H Q => ∃ x : Str, σ[i]? = some (some (.str x)) ∧ Q (.str (if x = "" then a else b)) H
def pickV (i j : Nat) : TE := fun σ H Q => ∃ x y : Str, σ[i]? = some (some (.str x)) ∧ σ[j]? = some (some (.str y)) ∧ Q (.str (if x = "" then y else x)) H
def pickN (i : Nat) : TE := fun σ H Q => ∃ x : Str, σ[i]? = some (some (.str x)) ∧ Q (if x = "" then .non else .str x) H
end Fc
set_option maxHeartbeats 4000000
/-! Rules as texts. -/
namespace Fc
open PySem PySem.Spec PyProof.Rows L2
def dashM (m : Str) : Str := if m = "" then "-" else m
def rowT (r : Row) : Str := (((r.1 ++ " ") ++ dashM r.2.1) ++ " ") ++ dashM r.2.2
def ruleT (rs : List Row) : Str := Txt.join "\n" (rs.map rowT)
theorem join3 (a b c : Str) : Txt.join " " [a, b, c] = (((a ++ " ") ++ b) ++ " ") ++ c := by
  have e : [a, b, c] = [a.cps.toList, b.cps.toList, c.cps.toList].map SX.S := by
    show [a, b, c] = [SX.S a.cps.toList, SX.S b.cps.toList, SX.S c.cps.toList]
    rw [← show a = SX.S a.cps.toList from oS_eq rfl, ← show b = SX.S b.cps.toList from oS_eq rfl, ← show c = SX.S c.cps.toList from oS_eq rfl]
  have e0 : (" " : Str) = SX.S [32] := rfl
  rw [e]
  conv => lhs; rw [e0]
  rw [SX.join_S]
  refine str_ext ?_
  show (oS (TL.joinL [32] [a.cps.toList, b.cps.toList, c.cps.toList])).cps.toList = _
  rw [oS_cps, add_cps, add_cps, add_cps, add_cps]
  show a.cps.toList ++ ([32] ++ (b.cps.toList ++ ([32] ++ c.cps.toList))) = (((a.cps.toList ++ [32]) ++ b.cps.toList) ++ [32]) ++ c.cps.toList
  simp only [List.append_assoc]
theorem join_row (r : Row) : Txt.join " " [r.1, dashM r.2.1, dashM r.2.2] = rowT r := join3 _ _ _
theorem word_sg {t : Str} (h : isWordM t = true) : (∀ c ∈ t.cps.toList, c ∈ abc.cps.toList) ∧ t ≠ "" := by
  rw [isWord_small] at h
  unfold isSmallM at h
  simp only [Bool.and_eq_true, Bool.not_eq_true', decide_eq_true_eq, decide_eq_false_iff_not] at h
  refine ⟨fun c hc => ?_, h.1.1⟩
  have z := List.all_eq_true.mp h.1.2 c hc
  exact of_decide_eq_true z
theorem a2h_abc : ∀ c ∈ a2h.cps.toList, c ∈ abc.cps.toList := by decide +kernel
theorem dash_sg {m : Str} (h : isMarksM m = true) : ∀ c ∈ (dashM m).cps.toList, c ∈ abc.cps.toList ∨ c = 45 := fun c hc => by
  unfold dashM at hc
  split at hc
  · have e : (("-" : Str)).cps.toList = [45] := by decide
    rw [e] at hc
    exact .inr (List.mem_singleton.mp hc)
  · exact .inl (a2h_abc c (isMarksM_sub h c hc))
theorem abc_plain : ∀ c ∈ abc.cps.toList, c ≠ 32 ∧ c ≠ 10 := by decide +kernel
theorem row_parts {r : Row} (h : isRowM r = true) : isWordM r.1 = true ∧ isMarksM r.2.1 = true ∧ isMarksM r.2.2 = true := by
  unfold isRowM at h
  simp only [Bool.and_eq_true] at h
  exact ⟨h.1.1, h.2.1.1, h.2.1.2⟩
theorem part_sg {r : Row} (h : isRowM r = true) : ∀ p ∈ [r.1, dashM r.2.1, dashM r.2.2], ∀ c ∈ p.cps.toList, c ≠ 32 ∧ c ≠ 10 := fun p hp c hc => by
  obtain ⟨h1, h2, h3⟩ := row_parts h
  have d : c ∈ abc.cps.toList ∨ c = 45 := by
    simp only [List.mem_cons, List.not_mem_nil, or_false] at hp
    rcases hp with e | e | e
    · rw [e] at hc
      exact .inl ((word_sg h1).1 c hc)
    · rw [e] at hc
      exact dash_sg h2 c hc
    · rw [e] at hc
      exact dash_sg h3 c hc
  rcases d with z | z
  · exact abc_plain c z
  · rw [z]
    exact ⟨by decide, by decide⟩
theorem row_split {r : Row} (h : isRowM r = true) : Txt.split (rowT r) " " = [r.1, dashM r.2.1, dashM r.2.2] := by
  rw [← join_row]
  exact TL.split_join (s := 32) (S := []) (by decide +kernel) (by decide +kernel) (by simp) fun p hp c => (part_sg h p hp 32 c).1 rfl
theorem rowT_sg {r : Row} (h : isRowM r = true) : (10 : Nat) ∉ (rowT r).cps.toList := fun hc => by
  have p := part_sg h
  unfold rowT at hc
  rw [add_cps, add_cps, add_cps, add_cps] at hc
  have e : ((" " : Str)).cps.toList = [32] := by decide
  rw [e] at hc
  simp only [List.mem_append, List.mem_singleton] at hc
  rcases hc with ((((z | z) | z) | z) | z)
  · exact (p r.1 (by simp) 10 z).2 rfl
  · cases z
  · exact (p (dashM r.2.1) (by simp) 10 z).2 rfl
  · cases z
  · exact (p (dashM r.2.2) (by simp) 10 z).2 rfl
theorem rule_split {rs : List Row} (h : ∀ r ∈ rs, isRowM r = true) (ne : rs ≠ []) : Txt.split (ruleT rs) "\n" = rs.map rowT := by
  unfold ruleT
  refine TL.split_join (s := 10) (S := []) (by decide +kernel) (by decide +kernel) (fun e => ne (List.map_eq_nil_iff.mp e)) fun p hp => ?_
  obtain ⟨r, hr, e⟩ := List.mem_map.mp hp
  rw [← e]
  exact rowT_sg (h r hr)
theorem dash_len {m : Str} (h : m.length ≤ 8) : (dashM m).length ≤ 8 := by
  unfold dashM
  split
  · decide
  · exact h
theorem rowT_len {r : Row} (h : isRowM r = true) : (rowT r).length ≤ 24 ∧ 1 ≤ (rowT r).length := by
  obtain ⟨l1, l2, l3⟩ := isRowM_len h
  have d2 := dash_len l2
  have d3 := dash_len l3
  have e : ((" " : Str)).cps.toList = [32] := by decide
  rw [len_cps] at l1 d2 d3 ⊢
  unfold rowT
  rw [add_cps, add_cps, add_cps, add_cps, e]
  simp only [List.length_append, List.length_singleton]
  omega
theorem joinL_len (s : Nat) : ∀ l : List (List Nat), (TL.joinL [s] l).length ≤ (l.map List.length).sum + l.length
  | [] => Nat.le_refl _
  | [p] => by show p.length ≤ p.length + 0 + 1; omega
  | p :: q :: r => by
    have ih := joinL_len s (q :: r)
    show (p ++ ([s] ++ TL.joinL [s] (q :: r))).length ≤ _
    rw [List.length_append, List.length_append]
    simp only [List.map_cons, List.sum_cons, List.length_cons, List.length_nil] at ih ⊢
    omega
theorem rows_sum {rs : List Row} (h : ∀ r ∈ rs, isRowM r = true) : ((rs.map rowT).map (·.length)).sum ≤ 24 * rs.length := by
  induction rs with
  | nil => exact Nat.le_refl _
  | cons r rs ih =>
    have i := ih fun x hx => h x (List.mem_cons_of_mem _ hx)
    have l := (rowT_len (h r List.mem_cons_self)).1
    rw [List.map_cons, List.map_cons, List.sum_cons, List.length_cons]
    omega
theorem ruleT_eq (rs : List Row) : (ruleT rs).cps.toList = TL.joinL [10] ((rs.map rowT).map fun z => z.cps.toList) := by
  unfold ruleT
  have e : rs.map rowT = ((rs.map rowT).map fun z => z.cps.toList).map SX.S := by
    rw [List.map_map]
    exact (List.map_id _).symm.trans (List.map_congr_left fun z _ => (oS_eq (z := z) rfl))
  have e0 : ("\n" : Str) = SX.S [10] := rfl
  have z := SX.join_S [10] ((rs.map rowT).map fun z => z.cps.toList)
  rw [← e, ← e0] at z
  rw [z]
theorem ruleT_len {rs : List Row} (h : ∀ r ∈ rs, isRowM r = true) : (ruleT rs).length ≤ 25 * rs.length := by
  rw [len_cps, ruleT_eq]
  have z := joinL_len 10 ((rs.map rowT).map fun z => z.cps.toList)
  have s := rows_sum h
  have e : (((rs.map rowT).map fun z => z.cps.toList).map List.length) = (rs.map rowT).map (·.length) := by
    rw [List.map_map]
    exact List.map_congr_left fun x _ => (len_cps x).symm
  rw [e, List.length_map, List.length_map] at z
  omega
theorem ruleT_pos {r : Row} {rs : List Row} (h : isRowM r = true) : 1 ≤ (ruleT (r :: rs)).length := by
  rw [len_cps, ruleT_eq]
  have l := (rowT_len h).2
  rw [len_cps] at l
  cases rs with
  | nil => exact l
  | cons q rs =>
    show 1 ≤ ((rowT r).cps.toList ++ ([10] ++ TL.joinL [10] _)).length
    rw [List.length_append]
    omega
theorem small_word {t : Str} (h : isWordM t = true) : isSmallM t = true := by
  rw [isWord_small, Bool.and_eq_true] at h
  exact h.1
theorem dash_small {m : Str} (h : isMarksM m = true) : (decide (dashM m = "-") || isSmallM (dashM m)) = true := by
  unfold dashM
  split
  · rfl
  · rename_i ne
    have e : isSmallM m = true := by
      unfold isSmallM
      rw [Bool.and_eq_true]
      refine ⟨by simpa using ne, List.all_eq_true.mpr fun c hc => decide_eq_true (a2h_abc c (isMarksM_sub h c hc))⟩
    rw [e, Bool.or_true]
theorem dash_back {m : Str} (h : isMarksM m = true) : (if dashM m = "-" then ("" : Str) else dashM m) = m := by
  unfold dashM
  by_cases e : m = ""
  · rw [if_pos e, if_pos rfl, e]
  · rw [if_neg e, if_neg]
    intro z
    have c : (45 : Nat) ∈ a2h.cps.toList := isMarksM_sub h 45 (by rw [z]; decide)
    exact absurd c (by decide)
theorem ruleT_ok {rs : List Row} (h : ∀ r ∈ rs, isRowM r = true) : (ruleT rs).cps.size ≤ 25 * rs.length := ruleT_len h
theorem ruleD_small {rs : List Row} (g : GoodR rs) : PyData.depth (ruleD rs) < 3 ∧ PyData.weight (ruleD rs) ≤ 1000000 := by
  have few := g.few
  have key : ∀ l : List Row, (∀ r ∈ l, isRowM r = true) → PyData.depthAll (l.map rowD) ≤ 1 ∧ PyData.weightAll (l.map rowD) ≤ 100 * l.length := by
    intro l
    induction l with
    | nil => exact fun _ => ⟨by simp [PyData.depthAll], by simp [PyData.weightAll]⟩
    | cons r l ih =>
      intro h
      obtain ⟨i1, i2⟩ := ih fun x hx => h x (List.mem_cons_of_mem _ hx)
      obtain ⟨l1, l2, l3⟩ := isRowM_len (h r List.mem_cons_self)
      have e : ∀ z : Str, z.length = z.cps.size := fun _ => rfl
      rw [e] at l1 l2 l3
      simp only [List.map_cons, PyData.depthAll, PyData.weightAll, rowD, PyData.depth, PyData.weight, List.length_cons]
      omega
  obtain ⟨a, b⟩ := key rs g.row
  unfold ruleD
  simp only [PyData.depth, PyData.weight]
  omega
section
variable {X : Cx}
theorem pe_conv {e : Expr} {t t' : TE} (h : PE X e t) (c : ∀ σ H Q, t' σ H Q → t σ H Q) : PE X e t' :=
  ⟨fun pins s σ H Q I h' => h.run pins s σ H Q I (c σ H Q h')⟩
end
/-- what stands for marks in a text, of the name in slot i -/
def dashT (i : Nat) : TE := fun σ H Q => ∃ m : Str, σ[i]? = some (some (.str m)) ∧ m.length ≤ 1000 ∧ ∀ H', Kp N0 H H' → Q (.str (dashM m)) H'
theorem dash_tru {K : PySem.W.Frag} {H : Hp} {m : Str} (hm : m.length ≤ 1000) : ∃ k, TruV K (.str m) H k ∧ ((k = true ∧ dashM m = m) ∨ (k = false ∧ dashM m = "-")) := by
  refine ⟨_, ⟨by rw [sizeLine_eq]; omega, rfl⟩, ?_⟩
  unfold dashM
  by_cases e : m = ""
  · rw [if_pos e]
    subst e
    exact .inr ⟨rfl, rfl⟩
  · rw [if_neg e]
    have ne : m.length ≠ 0 := fun z => e (str_ext (by
      have y : m.cps.toList.length = 0 := by rw [← len_cps]; exact z
      rw [List.length_eq_zero_iff.mp y]
      rfl))
    exact .inl ⟨by simpa using ne, rfl⟩
theorem dash_pick (m : Str) : atI [V.str "-", V.str m] (if (!decide (V.str m = V.str "")) = true then 1 else 0) = some (V.str (dashM m)) := by
  unfold dashM
  by_cases e : m = ""
  · subst e
    rfl
  · rw [if_neg e, if_pos (by simpa using e)]
    rfl
/-! ### what is promised -/
def spWrittenRow : Sp := fun vs H Q _ => ∃ (v : V) (r : Row), vs = [v] ∧ Dn N0 H v (rowD r) ∧ isRowM r = true ∧ ∀ H', Kp N0 H H' → Q (.str (rowT r)) H'
def spWritten (T : List Addr) : Sp := fun vs H Q _ => ∃ (v : V) (rs : List Row), vs = [v] ∧ Dn N0 H v (ruleD rs) ∧ GoodR rs ∧ Tbs T H ∧ ∀ H', Kp N0 H H' → Q (.str (ruleT rs)) H'
def spTextL : Sp := fun vs H Q _ => ∃ (v : V) (rs : List Row), vs = [v] ∧ Dn N0 H v (ruleD rs) ∧ GoodR rs ∧ ∀ H', Kp N0 H H' → Q (.str (ruleT rs)) H'
def spMarksWord (T : List Addr) : Sp := fun vs H Q _ => ∃ t : Str, vs = [.str t] ∧ Tbs T H ∧ ∀ H', Kp N0 H H' → Q (.bl (decide (t = "-") || isSmallM t)) H'
def spReadMarks : Sp := fun vs H Q _ => ∃ t : Str, vs = [.str t] ∧ ∀ H', Kp N0 H H' → Q (.str (if t = "-" then "" else t)) H'
def spReadRow (T : List Addr) : Sp := fun vs H Q _ => ∃ (n : Int) (r : Row), vs = [.int n, .str (rowT r)] ∧ isRowM r = true ∧ Tbs T H ∧ ∀ t H', H t = none → Kp N0 H H' → H' t = some (.tup [.str r.1, .str r.2.1, .str r.2.2]) → Q (.ref t) H'
def spReadRule (T : List Addr) : Sp := fun vs H Q _ => ∃ (rs : List Row), vs = [.str (ruleT rs)] ∧ GoodR rs ∧ Tbs T H ∧ ∀ p H', H p = none → Kp N0 H H' → Dn N0 H' (.ref p) (ruleD rs) → Q (.ref p) H'
end Fc
set_option maxHeartbeats 4000000
/-! Found by heads. -/
namespace Fc
open PySem PySem.Spec PyProof.Rows L2
section
variable {X : Cx} {tg e : Expr} {a b : TI}
theorem pi_or (h1 : PI X tg e a) (h2 : PI X tg e b) : PI X tg e (fun σ H Q => a σ H Q ∨ b σ H Q) := ⟨fun pins s σ H R I h => h.elim (fun z => h1.run pins s σ H R I z) fun z => h2.run pins s σ H R I z⟩
end
def spHasAll (T : List Addr) : Sp := fun vs H Q _ => ∃ (a b : Addr) (hs ss : List Str), vs = [.ref a, .ref b] ∧ H a = some (.lst (hs.map V.str)) ∧ (H b = some (.lst (ss.map V.str)) ∨ H b = some (.tup (ss.map V.str))) ∧ Tbs T H ∧ ∀ H', Kp N0 H H' → Q (.bl (ss.all fun x => decide (x ∈ hs))) H'
/-- the first of the fewest heads that none of the others has all of -/
def lackedM (oss : List (List Str)) (s : List Str) : Bool := !oss.any fun o => s.all fun x => decide (x ∈ o)
def fewerM (hs : List Str) : List (List Str) := (List.range hs.length).flatMap fun k => combs k hs
def aloneM (hs : List Str) (oss : List (List Str)) : List Str := ((fewerM hs).find? (lackedM oss)).getD hs
def spAlone (T : List Addr) : Sp := fun vs H Q _ => ∃ (a b : Addr) (hs : List Str) (bs : List Addr) (oss : List (List Str)), vs = [.ref a, .ref b] ∧ H a = some (.lst (hs.map V.str)) ∧ hs.length ≤ 13 ∧ H b = some (.lst (bs.map V.ref)) ∧ bs.length = oss.length ∧ (∀ (j : Nat) (c : Addr) (o : List Str), bs[j]? = some c → oss[j]? = some o → H c = some (.lst (o.map V.str))) ∧ Tbs T H ∧
  ∀ p H', H p = none → Kp N0 H H' → H' p = some (.lst ((aloneM hs oss).map V.str)) → Q (.ref p) H'
theorem any_range {α : Type} (P : α → Bool) (d : α) (l : List α) : (List.range l.length).any (fun i => P (l.getD i d)) = l.any P := by
  have e : (List.range l.length).map (fun k => l.getD k d) = l := by
    refine List.ext_getElem (by simp) fun i h1 h2 => ?_
    simp [List.getD, h2]
  have z : ((List.range l.length).map fun k => l.getD k d).any P = l.any P := by rw [e]
  rw [List.any_map] at z
  exact z
theorem fewer_at {hs : List Str} {i j : Nat} {s : List Str} (hi : i < hs.length) (h : (combs i hs)[j]? = some s) : ∃ B, fewerM hs = (((List.range i).flatMap fun k => combs k hs) ++ (combs i hs).take j) ++ s :: B := by
  have e1 : List.range hs.length = List.range i ++ (i :: (List.range hs.length).drop (i + 1)) := by
    conv => lhs; rw [← List.take_append_drop i (List.range hs.length)]
    rw [List.take_range, Nat.min_eq_left (by omega)]
    congr 1
    rw [List.drop_eq_getElem_cons (by rw [List.length_range]; omega), List.getElem_range]
  have e2 : combs i hs = (combs i hs).take j ++ (s :: (combs i hs).drop (j + 1)) := by
    obtain ⟨hl, he⟩ := List.getElem?_eq_some_iff.mp h
    conv => lhs; rw [← List.take_append_drop j (combs i hs)]
    rw [List.drop_eq_getElem_cons hl, he]
  unfold fewerM
  rw [e1, List.flatMap_append, List.flatMap_cons]
  conv => enter [1, B, 1, 2, 1]; rw [e2]
  exact ⟨(combs i hs).drop (j + 1) ++ ((List.range hs.length).drop (i + 1)).flatMap (fun k => combs k hs), by simp only [List.append_assoc, List.cons_append]⟩
theorem all_range {α : Type} (P : α → Bool) (d : α) (l : List α) : (List.range l.length).all (fun i => P (l.getD i d)) = l.all P := by
  have e : (List.range l.length).map (fun k => l.getD k d) = l := by
    refine List.ext_getElem (by simp) fun i h1 h2 => ?_
    simp [List.getD, h2]
  have z : ((List.range l.length).map fun k => l.getD k d).all P = l.all P := by rw [e]
  rw [List.all_map] at z
  exact z
end Fc
set_option maxHeartbeats 4000000
/-! Pairs of a number and a list of texts in order. -/
namespace Fc
open PySem PySem.Spec PyProof.Rows L2
/-- one list of texts stands ahead of another -/
def lexT : List Str → List Str → Bool
  | _, [] => false
  | [], _ :: _ => true
  | x :: xs, y :: ys => if x = y then lexT xs ys else ltS x y
theorem lexT_irr : ∀ l : List Str, lexT l l = false
  | [] => rfl
  | x :: l => by
    unfold lexT
    rw [if_pos rfl]
    exact lexT_irr l
theorem lexT_tri : ∀ a b : List Str, lexT a b = true ∨ a = b ∨ lexT b a = true
  | [], [] => .inr (.inl rfl)
  | [], _ :: _ => .inl rfl
  | _ :: _, [] => .inr (.inr rfl)
  | x :: a, y :: b => by
    unfold lexT
    by_cases e : x = y
    · subst e
      rw [if_pos rfl, if_pos rfl]
      rcases lexT_tri a b with z | z | z
      · exact .inl z
      · exact .inr (.inl (by rw [z]))
      · exact .inr (.inr z)
    · rw [if_neg e, if_neg (fun z => e z.symm)]
      rcases ltS_tri x y with z | z | z
      · exact .inl z
      · exact (e z).elim
      · exact .inr (.inr z)
theorem lexT_trans : ∀ {a b c : List Str}, lexT a b = true → lexT b c = true → lexT a c = true
  | _, [], _, h, _ => by unfold lexT at h; cases h
  | _, _ :: _, [], _, k => by unfold lexT at k; cases k
  | [], _ :: _, _ :: _, _, _ => rfl
  | x :: a, y :: b, z :: c, h, k => by
    unfold lexT at h k ⊢
    by_cases e1 : x = y
    · subst e1
      rw [if_pos rfl] at h
      by_cases e2 : x = z
      · rw [if_pos e2] at k ⊢
        exact lexT_trans h k
      · rw [if_neg e2] at k ⊢
        exact k
    · rw [if_neg e1] at h
      by_cases e2 : y = z
      · subst e2
        rw [if_neg e1]
        exact h
      · rw [if_neg e2] at k
        have t := ltS_trans h k
        rw [if_neg]
        · exact t
        · intro e
          subst e
          have q := ltS_asym h
          rw [k] at q
          cases q
abbrev NT := Int × List Str
def lexN (p q : NT) : Bool := if p.1 = q.1 then lexT p.2 q.2 else decide (p.1 < q.1)
theorem lexN_irr (p : NT) : lexN p p = false := by
  unfold lexN
  rw [if_pos rfl]
  exact lexT_irr _
theorem lexN_tri (p q : NT) : lexN p q = true ∨ p = q ∨ lexN q p = true := by
  obtain ⟨p1, p2⟩ := p
  obtain ⟨q1, q2⟩ := q
  unfold lexN
  by_cases e : p1 = q1
  · subst e
    rw [if_pos rfl, if_pos rfl]
    rcases lexT_tri p2 q2 with z | z | z
    · exact .inl z
    · exact .inr (.inl (by rw [z]))
    · exact .inr (.inr z)
  · rw [if_neg e, if_neg (fun z => e z.symm)]
    rcases Int.lt_trichotomy p1 q1 with z | z | z
    · exact .inl (decide_eq_true z)
    · exact (e z).elim
    · exact .inr (.inr (decide_eq_true z))
theorem lexN_trans {p q r : NT} (h : lexN p q = true) (k : lexN q r = true) : lexN p r = true := by
  obtain ⟨p1, p2⟩ := p
  obtain ⟨q1, q2⟩ := q
  obtain ⟨r1, r2⟩ := r
  unfold lexN at h k ⊢
  dsimp only at h k ⊢
  by_cases e1 : p1 = q1
  · subst e1
    rw [if_pos rfl] at h
    by_cases e2 : p1 = r1
    · rw [if_pos e2] at k ⊢
      exact lexT_trans h k
    · rw [if_neg e2] at k ⊢
      exact k
  · rw [if_neg e1] at h
    have h' := of_decide_eq_true h
    by_cases e2 : q1 = r1
    · subst e2
      rw [if_neg e1]
      exact h
    · rw [if_neg e2] at k
      have k' := of_decide_eq_true k
      rw [if_neg (by omega)]
      exact decide_eq_true (by omega)
theorem lexN_asym {p q : NT} (h : lexN p q = true) : lexN q p = false := by
  cases z : lexN q p with
  | false => rfl
  | true =>
    have t := lexN_trans h z
    rw [lexN_irr] at t
    cases t
theorem swo_lexN {α : Type} (k : α → NT) : SrtO.Swo fun v u => lexN (k v) (k u) := by
  refine ⟨fun x y h => lexN_asym h, fun x y z h1 h2 => ?_⟩
  show lexN (k z) (k x) = false
  cases c : lexN (k z) (k x) with
  | false => rfl
  | true =>
    have h1' : lexN (k y) (k x) = false := h1
    have h2' : lexN (k z) (k y) = false := h2
    rcases lexN_tri (k x) (k y) with q | q | q
    · have t := lexN_trans c q
      rw [t] at h2'
      cases h2'
    · rw [q] at c
      rw [c] at h2'
      cases h2'
    · rw [q] at h1'
      cases h1'
theorem srtdN_uniq {l m : List NT} (hl : SrtO.Srtd (fun v u => lexN v u) l) (hm : SrtO.Srtd (fun v u => lexN v u) m) (p : l.Perm m) : l = m := by
  refine List.Perm.eq_of_pairwise (le := fun a b => lexN b a = false) (fun a b _ _ h1 h2 => ?_) hl hm p
  rcases lexN_tri a b with z | z | z
  · rw [z] at h2
    cases h2
  · exact z
  · rw [z] at h1
    cases h1
/-! ### how the program compares them -/
/-- at the address a: a list of these texts -/
def TextsL (h : Heap) (v : Value) (l : List Str) : Prop := ∃ (a : Addr) (its : Array Value), v = .ref a ∧ h.IsList a its ∧ its.size = l.length ∧ ∀ (j : Nat) (x : Value), its[j]? = some x → ∃ y t, l[j]? = some y ∧ x = .str y t
theorem firstLt_lex {x y : List Str} (hl : x.length = y.length) : PySem.SeqAt.firstLt (fun j => decide (x.getD j "" = y.getD j "")) (fun j => ltS (x.getD j "") (y.getD j "")) false (List.range x.length) = lexT x y := by
  have key : ∀ (k i : Nat), i + k = x.length → PySem.SeqAt.firstLt (fun j => decide (x.getD j "" = y.getD j "")) (fun j => ltS (x.getD j "") (y.getD j "")) false ((List.range x.length).drop i) = lexT (x.drop i) (y.drop i) := by
    intro k
    induction k with
    | zero =>
      intro i e
      rw [List.drop_eq_nil_of_le (by rw [List.length_range]; omega), List.drop_eq_nil_of_le (by omega : x.length ≤ i), List.drop_eq_nil_of_le (by omega : y.length ≤ i)]
      rfl
    | succ k ih =>
      intro i e
      have hx : i < x.length := by omega
      have hy : i < y.length := by omega
      rw [List.drop_eq_getElem_cons (by rw [List.length_range]; omega : i < (List.range x.length).length), List.getElem_range, List.drop_eq_getElem_cons hx, List.drop_eq_getElem_cons hy]
      have ex : x.getD i "" = x[i] := by simp [List.getD, hx]
      have ey : y.getD i "" = y[i] := by simp [List.getD, hy]
      unfold lexT PySem.SeqAt.firstLt
      rw [ih (i + 1) (by omega), ex, ey]
      by_cases q : x[i] = y[i]
      · rw [if_pos (decide_eq_true q), if_pos q]
      · rw [if_neg (by simpa using q), if_neg q]
  exact key x.length 0 (by omega)
section
variable {prog : Program} {w : World} {A : Around} {s : Shared}
theorem TextsL.item {h : Heap} {a : Addr} {its : Array Value} {l : List Str} (e : its.size = l.length) (hx : ∀ (j : Nat) (x : Value), its[j]? = some x → ∃ y t, l[j]? = some y ∧ x = .str y t) {j : Nat} (hj : j < its.size) : ∃ t, its[j] = .str (l.getD j "") t := by
  obtain ⟨y, t, h1, h2⟩ := hx j its[j] (Array.getElem?_eq_getElem hj)
  exact ⟨t, by rw [h2]; simp [List.getD, h1]⟩
theorem texts_eq {v u : Value} {x y : List Str} (h1 : TextsL s.heap v x) (h2 : TextsL s.heap u y) (hl : x.length = y.length) (hu : A.units < cLine) : PySem.SeqAt.EqAt A s v u (decide (x = y)) := by
  obtain ⟨a, its, rfl, ha, ea, xa⟩ := h1
  obtain ⟨b, jts, rfl, hb, eb, xb⟩ := h2
  by_cases q : a = b
  · subst q
    have ei : its = jts := by
      obtain ⟨o, h1, _, n, h2⟩ := ha
      obtain ⟨o', h3, _, n', h4⟩ := hb
      rw [h1] at h3
      cases h3
      rw [h2] at h4
      cases h4
      rfl
    subst ei
    have exy : x = y := by
      refine List.ext_getElem hl fun j p1 p2 => ?_
      obtain ⟨t, e1⟩ := TextsL.item (a := a) (h := s.heap) ea xa (j := j) (by omega)
      obtain ⟨u, e2⟩ := TextsL.item (a := a) (h := s.heap) eb xb (j := j) (by omega)
      rw [e1] at e2
      have e3 := (Value.str.inj e2).1
      simpa [List.getD, p1, p2] using e3
    rw [decide_eq_true exy]
    exact PySem.SeqAt.EqAt.same _
  · have z := PySem.SeqAt.EqAt.of_refs q (PySem.SeqAt.RcAt.lists (A := A) (e := fun j => (x.getD j "" == y.getD j "")) ha hb (by omega) hu fun j p1 p2 => by
      obtain ⟨t, e1⟩ := TextsL.item (a := a) (h := s.heap) ea xa p1
      obtain ⟨u, e2⟩ := TextsL.item (a := b) (h := s.heap) eb xb p2
      rw [e1, e2]
      exact PySem.SeqAt.EqAt.str_str _ t _ u)
    have e : (List.range its.size).all (fun j => (x.getD j "" == y.getD j "")) = decide (x = y) := by
      rw [ea]
      rw [Bool.eq_iff_iff, List.all_eq_true, decide_eq_true_eq]
      refine ⟨fun k => List.ext_getElem hl fun j p1 p2 => ?_, fun k j _ => by rw [k]; exact beq_self_eq_true _⟩
      have z := beq_iff_eq.mp (k j (List.mem_range.mpr p1))
      simpa [List.getD, p1, p2] using z
    rw [e] at z
    exact z
theorem texts_lt {v u : Value} {x y : List Str} (h1 : TextsL s.heap v x) (h2 : TextsL s.heap u y) (hl : x.length = y.length) (hu : A.units < cLine) : PySem.SeqAt.RcLt A s v u (lexT x y) := by
  obtain ⟨a, its, rfl, ha, ea, xa⟩ := h1
  obtain ⟨b, jts, rfl, hb, eb, xb⟩ := h2
  have z := PySem.SeqAt.RcLt.lists (A := A) (e := fun j => decide (x.getD j "" = y.getD j "")) (r := fun j => ltS (x.getD j "") (y.getD j "")) ha hb hu (fun j p1 p2 => by
      obtain ⟨t, e1⟩ := TextsL.item (a := a) (h := s.heap) ea xa p1
      obtain ⟨u, e2⟩ := TextsL.item (a := b) (h := s.heap) eb xb p2
      rw [e1, e2]
      have k := PySem.SeqAt.EqAt.str_str (A := A.in1) (s := s) (x.getD j "") t (y.getD j "") u
      have ek : (x.getD j "" == y.getD j "") = decide (x.getD j "" = y.getD j "") := by
        rw [Bool.eq_iff_iff, beq_iff_eq, decide_eq_true_eq]
      rw [ek] at k
      exact k) (fun j p1 p2 _ => by
      obtain ⟨t, e1⟩ := TextsL.item (a := a) (h := s.heap) ea xa p1
      obtain ⟨u, e2⟩ := TextsL.item (a := b) (h := s.heap) eb xb p2
      rw [e1, e2]
      exact fun prog w E Q h => PyProof.Rows.lt_str h)
  have e1 : min its.size jts.size = x.length := by omega
  have e2 : decide (its.size < jts.size) = false := decide_eq_false (by omega)
  rw [e1, e2, firstLt_lex hl] at z
  exact z
/-- v: a tuple of the number and a list of the texts, as many -/
def NumT (h : Heap) (v : Value) (p : NT) : Prop := ∃ a o t u n, v = .ref a ∧ h.get? a = some o ∧ o.cls = .type "tuple" ∧ o.data = .seq #[.int p.1 t, u] n ∧ TextsL h u p.2 ∧ p.1 = p.2.length
theorem num_heads {h : Heap} (k : Value → NT) (vs : List Value) (hp : ∀ v ∈ vs, NumT h v (k v)) : ∃ fs : List Value, PySem.W.KatTups h vs fs ∧ fs.length = vs.length ∧ ∀ f ∈ fs, ∃ x t, f = Value.int x t := by
  induction vs with
  | nil => exact ⟨[], PySem.W.KatTups.nil, rfl, fun _ hm => nomatch hm⟩
  | cons v vs ih =>
    obtain ⟨fs, h1, h2, h3⟩ := ih fun v' hm => hp v' (List.mem_cons_of_mem _ hm)
    obtain ⟨a, o, t, u, n, e, ho, hc, hd, _⟩ := hp v List.mem_cons_self
    rw [e]
    refine ⟨.int (k v).1 t :: fs, PySem.W.KatTups.cons ho hc hd rfl h1, congrArg (· + 1) h2, fun f hm => ?_⟩
    rcases List.mem_cons.mp hm with z | z
    · exact ⟨_, t, z⟩
    · exact h3 f z
theorem num_cmp {vs : List Value} {k : Value → NT} (hu : A.units < cLine) (hp : ∀ v ∈ vs, NumT s.heap v (k v)) : SrtO.Cmp prog w A s (tuples' true) (fun p => p.1 ∈ vs) (SrtO.lt2 fun v u => lexN (k v) (k u)) := by
  intro p q hm hm'
  have h1 := hp _ hm
  have h2 := hp _ hm'
  show wpAny (model prog w) A (keyLt' (tuples' true) p.1 q.1) (fun r s' => s' = s ∧ r = lexN (k p.1) (k q.1)) (fun _ _ => False) s
  generalize k p.1 = x at h1 ⊢
  generalize k q.1 = y at h2 ⊢
  obtain ⟨x1, x2⟩ := x
  obtain ⟨y1, y2⟩ := y
  obtain ⟨a, o, t, u, n, e, ho, hc, hd, tu, en⟩ := h1
  obtain ⟨b, r, i, j, m, e', ho', hc', hd', tj, em⟩ := h2
  rw [e, e']
  refine PySem.W.kat_lt ho hd ho' hd' (PySem.W.kat_cons (SeqAt.EqAt.int_int x1 t y1 i prog w _ _ (PySem.W.kat_go (fun e1 => ?_) (fun e1 => ?_))))
  · have ex : x1 = y1 := by simpa using e1
    have el : x2.length = y2.length := by
      have z1 : x1 = (x2.length : Int) := en
      have z2 : y1 = (y2.length : Int) := em
      omega
    refine PySem.W.kat_yes (PySem.W.kat_cons (texts_eq tu tj el hu prog w _ _ (PySem.W.kat_go (fun e2 => ?_) (fun e2 => ?_))))
    · have ey : x2 = y2 := of_decide_eq_true e2
      refine PySem.W.kat_yes (PySem.W.kat_nil ⟨rfl, ?_⟩)
      subst ex ey
      exact (lexN_irr _).symm
    · refine PySem.W.kat_no (PySem.W.kat_one _ _ (texts_lt tu tj el hu prog w _ _ ?_))
      refine ⟨rfl, ?_⟩
      unfold lexN
      rw [if_pos ex]
  · have ex : ¬ x1 = y1 := by simpa using e1
    refine PySem.W.kat_no (oneLt_int ⟨rfl, ?_⟩)
    unfold lexN
    rw [if_neg ex]
end
end Fc
set_option maxHeartbeats 4000000
/-! The least of texts; list(d.values()); sorted pairs of a number and a list of texts. -/
namespace Fc
open PySem PySem.Spec PyProof.Rows L2
/-! ### the least text -/
def leastS (l : List Str) : Str := (riseS l).headD ""
theorem least_is {l : List Str} {m : Str} (hm : m ∈ l) (h : ∀ x ∈ l, ltS x m = false) : m = leastS l := by
  have z := (riseS_mem m l).mpr hm
  have rs := riseS_rs l
  unfold leastS
  cases e : riseS l with
  | nil => rw [e] at z; cases z
  | cons y ys =>
    rw [e] at z rs
    have hy : y ∈ l := (riseS_mem y l).mp (by rw [e]; exact List.mem_cons_self)
    rcases List.mem_cons.mp z with q | q
    · exact q
    · have a := (List.pairwise_cons.mp rs).1 m q
      rw [h y hy] at a
      cases a
theorem minD_str (x : Str) : ∀ xs : List Str, PySem.W.minD (.str x) (xs.map PyData.str) = .str (xs.foldl (fun a y => if ltS y a then y else a) x) := by
  intro xs
  unfold PySem.W.minD
  induction xs generalizing x with
  | nil => rfl
  | cons y r ih =>
    rw [List.map_cons, List.foldl_cons, List.foldl_cons, ← ih]
    have e : PySem.W.dataLt (.str y) (.str x) = ltS y x := PySem.W.dataLt_str y x
    rw [e]
    congr 1
    cases ltS y x <;> rfl
theorem fold_least : ∀ (xs : List Str) (x : Str), (xs.foldl (fun a y => if ltS y a then y else a) x) ∈ x :: xs ∧ ∀ z ∈ x :: xs, ltS z (xs.foldl (fun a y => if ltS y a then y else a) x) = false
  | [], x => ⟨List.mem_cons_self, fun z hz => by rw [List.mem_singleton.mp hz]; exact ltS_irr _⟩
  | y :: r, x => by
    rw [List.foldl_cons]
    obtain ⟨h1, h2⟩ := fold_least r (if ltS y x then y else x)
    generalize hm : (r.foldl (fun a y => if ltS y a then y else a) (if ltS y x then y else x)) = m at h1 h2 ⊢
    have hx : ltS x m = false ∧ ltS y m = false := by
      have z := h2 _ List.mem_cons_self
      cases c : ltS y x with
      | true =>
        rw [c, if_pos rfl] at z
        refine ⟨?_, z⟩
        cases q : ltS x m with
        | false => rfl
        | true => rw [ltS_trans c q] at z; cases z
      | false =>
        rw [c, if_neg Bool.false_ne_true] at z
        refine ⟨z, ?_⟩
        cases q : ltS y m with
        | false => rfl
        | true =>
          rcases ltS_tri x y with t | t | t
          · rw [ltS_trans t q] at z; cases z
          · rw [t, q] at z; cases z
          · rw [t] at c; cases c
    refine ⟨?_, fun z hz => ?_⟩
    · rcases List.mem_cons.mp h1 with e | e
      · rw [e]
        cases ltS y x with
        | true => exact List.mem_cons_of_mem _ List.mem_cons_self
        | false => exact List.mem_cons_self
      · exact List.mem_cons_of_mem _ (List.mem_cons_of_mem _ e)
    · rcases List.mem_cons.mp hz with e | e
      · rw [e]; exact hx.1
      · rcases List.mem_cons.mp e with e | e
        · rw [e]; exact hx.2
        · exact h2 z (List.mem_cons_of_mem _ e)
section
variable {X : Cx} {K : PySem.W.Frag}
/-- min(list of texts) -/
def rMinS (K : PySem.W.Frag) : List V → Hp → VK → Prop := fun vs H Q => ∃ (a : Addr) (xs : List Str), vs = [.ref a] ∧ SqL K H a (xs.map V.str) ∧ xs ≠ [] ∧ Q (.str (leastS xs)) H
theorem cr_minS (hc : X.calm = true) (hu : X.A.units + 10 < cLine) : CallR X (.builtin "min") (rMinS X.K) := by
  intro pins s σ H vs us Q I r h
  obtain ⟨a, xs, rfl, hs, hne, q⟩ := h
  obtain ⟨its, rv, hl, _⟩ := I.list hs
  rw [Vals.ref1 r]
  cases xs with
  | nil => exact (hne rfl).elim
  | cons x xs =>
    obtain ⟨as, ra⟩ := Dp.readsAll I ((x :: xs).map PyData.str) _ its (DnA.strs (S := N0) (H := H) (x :: xs)).dp rv
    have al : PySem.W.AlikeAll ((x :: xs).map PyData.str) := by
      refine ⟨fun p hp t ht => ?_, fun p hp => ?_⟩
      · obtain ⟨_, _, rfl⟩ := List.mem_map.mp hp
        obtain ⟨_, _, rfl⟩ := List.mem_map.mp ht
        rfl
      · obtain ⟨_, _, rfl⟩ := List.mem_map.mp hp
        exact fun z => nomatch z
    have dz : ∀ l : List Str, PyData.depthAll (l.map PyData.str) ≤ 1 := fun l => by
      induction l with
      | nil => simp [PyData.depthAll]
      | cons y l ih => simp only [List.map_cons, PyData.depthAll, PyData.depth]; omega
    refine PySem.W.min_list_data (I.ok.hd hc) hl.isList ra al (by have := dz (x :: xs); rw [List.map_cons] at this; omega) fun i v h' tk bs hv rd hk => ?_
    rw [minD_str] at rd
    obtain ⟨h1, h2⟩ := fold_least xs x
    rw [least_is h1 h2] at rd
    cases rd with
    | str _ t => exact ⟨.str (leastS (x :: xs)), H, I.kept hk, ⟨t, rfl⟩, q⟩
end
/-! ### list(d.values()) -/
section
variable {X : Cx} {e : Expr} {te : TE} {p apos cpos pos : Pos}
def tListVals (te : TE) : TE := fun σ H Q => te σ H fun x H1 => ∃ (d : Addr) (kvs : List (Key × V)), x = .ref d ∧ H1 d = some (.dK kvs) ∧ ∀ q, H1 q = none → Q (.ref q) (upd H1 q (.lst (kvs.map (·.2))))
theorem pe_listVals (hc : X.calm = true) (he : PE X e te) (hg : Gl X "list") (hm : X.mg "list" = none) (hv : bootBuiltins "list" = some (.type "list")) (hbase : attributeBase e "values" X.env (eval e X.env) = eval e X.env := by rfl) (hline : (apos.endLine == cpos.line) = true := by rfl)
    (hs : starEach [.Call (.Attribute e "values" apos) [] [] cpos] X.env = (false, eval (.Call (.Attribute e "values" apos) [] [] cpos) X.env) :: starEach [] X.env := by rfl) :
    PE X (.Call (.Name "list" p) [.Call (.Attribute e "values" apos) [] [] cpos] [] pos) (tListVals te) := by
  refine ⟨fun pins s σ H Q I hq => wpAny_Call_Name_kw (ld_blt I hg hm hv (PyProof.Rows.callWith_type1 ?_ hs rfl))⟩
  rw [hs]
  refine Calls.spliced_cons ?_
  refine wpAny_Call_method (T := "dict") (id := "dict.values") hbase rfl hline F.plainAttrs_dict F.slot_dict_values F.type_dict_values (thn (he.run pins s σ H _ I hq) fun u s1 hh => ?_)
  obtain ⟨x, H1, I1, rx, d, kvs, ex, hd, q⟩ := hh
  subst ex
  obtain rfl : u = Value.ref d := rx
  obtain ⟨hz, hs0, vs, kv, hdo⟩ := I1.hok d _ hd
  obtain ⟨ep, hat⟩ := hdo.dictAt
  have lk : kvs.length = vs.length := Paired.length kv
  have I2 : Inv X pins σ H1 { s1 with heap := s1.heap.push { cls := .type "dict_values", data := .fields #[.ref d] } } := I1.kept (t' := s1.toks) fun b ob q => Heap.get?_push_of_some _ q
  refine ⟨hdo.typeIs, hdo.mapOf.noDict, ?_⟩
  refine method_meetsIn F.slot_dict_values F.entry_dict_values rfl (PySem.evalArgs_none ⟨rfl, hdo.typeIs, F.args_dict_values_1 _, _, meets_dict_values (mixKind X.prog X.w) d hs0, ⟨vs, hdo⟩, ?_⟩)
  refine Calls.spliced_nil ?_
  have lv : ∀ b, b = s1.heap.objs.size → True := fun _ _ => trivial
  refine PySem.W.kdl_call (PySem.W.kdl_values (knd := mixKind X.prog X.w) (kvs := vs) (ep := ep) (r := s1.heap.objs.size) (d := d)) (I1.ok.hd hc) ⟨⟨_, Heap.get?_push_size _ rfl, rfl, rfl⟩, hat.push _⟩ (by omega) fun h' tk acc c hk hL hacc => ?_
  have nS : H1 (s1.heap.objs.size + 1) = none := I1.hok.fresh (Nat.le_succ _)
  have rv : Vals (kvs.map (·.2)) acc.toList := by
    refine vals_of_at (by rw [List.length_map, lk]; exact hacc.1.symm) fun j x v h1 h2 => ?_
    obtain ⟨k, hkj⟩ := hacc.2 j v (by rw [← Array.getElem?_toList]; exact h2)
    obtain ⟨y, h3, h4⟩ := KV.at' kv hkj
    rw [List.getElem?_map, h3] at h1
    have e := Option.some.inj h1
    subst e
    exact h4
  have eS : (s1.heap.push ({ cls := .type "dict_values", data := .fields #[.ref d] } : Obj)).objs.size = s1.heap.objs.size + 1 := Heap.size_push _ _
  rw [show ({ s1 with heap := s1.heap.push ({ cls := .type "dict_values", data := .fields #[.ref d] } : Obj) } : Shared).heap.objs.size = s1.heap.objs.size + 1 from eS] at hL ⊢
  have lz : (kvs.map (·.2)).length ≤ sizeLine := by rw [List.length_map]; exact hz
  refine ⟨.ref (s1.heap.objs.size + 1), upd H1 (s1.heap.objs.size + 1) (.lst (kvs.map (·.2))), I1.laid (t' := tk) (a := s1.heap.objs.size + 1) (fun b o z => hk b o (Heap.get?_push_of_some _ z)) (Nat.le_succ _) ⟨lz, acc.toList, c, rv, ?_⟩, rfl, q _ nS⟩
  rw [Array.toArray_toList]
  exact hL
end
/-! ### sorted(pairs of a number and a list of texts) -/
/-- which pair a value is -/
def keyN (H : Hp) : V → NT
  | .ref t => match H t with
    | some (.tup [.int i, .ref a]) => match H a with
      | some (.lst xs) => (i, xs.map fun x => match x with | .str y => y | _ => "")
      | _ => (0, [])
    | _ => (0, [])
  | _ => (0, [])
/-- x is a pair of a number and a list, as long -/
def NumV (H : Hp) (x : V) (p : NT) : Prop := ∃ t a, x = V.ref t ∧ H t = some (.tup [.int p.1, .ref a]) ∧ H a = some (.lst (p.2.map V.str)) ∧ p.1 = p.2.length
theorem strs_back (l : List Str) : (l.map V.str).map (fun x => match x with | .str y => y | _ => ("" : Str)) = l := by
  induction l with
  | nil => rfl
  | cons x l ih =>
    rw [List.map_cons, List.map_cons, ih]
theorem NumV.key {H : Hp} {x : V} {p : NT} (h : NumV H x p) : keyN H x = p := by
  obtain ⟨t, a, rfl, h1, h2, _⟩ := h
  unfold keyN
  simp only [h1, h2]
  exact Prod.ext rfl (strs_back p.2)
section
variable {X : Cx} {K : PySem.W.Frag}
theorem texts_of {pins : List (Addr × Obj)} {σ : L2.St} {H : Hp} {s : Shared} {a : Addr} {l : List Str} (I : Inv X pins σ H s) (h : H a = some (.lst (l.map V.str))) : TextsL s.heap (.ref a) l := by
  obtain ⟨its, rv, pl, _⟩ := I.list (SqL.of h)
  refine ⟨a, its.toArray, rfl, pl.isList, ?_, fun j x hx => ?_⟩
  · have z := rv.length
    rw [List.length_map] at z
    exact z.symm
  · have hx' : its[j]? = some x := by simpa using hx
    have lj : j < its.length := (List.getElem?_eq_some_iff.mp hx').1
    have ll : j < l.length := by
      have z := rv.length
      rw [List.length_map] at z
      omega
    obtain ⟨u, hu, ru⟩ := rv.get (i := j) (x := V.str l[j]) (by rw [List.getElem?_map, List.getElem?_eq_getElem ll]; rfl)
    rw [hx'] at hu
    cases hu
    obtain ⟨t, rfl⟩ := ru
    exact ⟨l[j], t, List.getElem?_eq_getElem ll, rfl⟩
theorem num_sortable {prog : Program} {w : World} {A : Around} {s : Shared} {a : Addr} {vs : List Value} {k : Value → NT} (hu : A.units < cLine) (h0 : 0 < vs.length) (hp : ∀ h', (∀ b o, b ≠ a → s.heap.get? b = some o → h'.get? b = some o) → ∀ v ∈ vs, NumT h' v (k v)) : SrtO.SortableO prog w A s a vs fun v u => lexN (k v) (k u) := by
  intro h' keep
  have hp' := hp h' keep
  obtain ⟨fs, h1, h2, h3⟩ := num_heads k vs hp'
  refine ⟨tuples' true, fun Q E hq => PySem.W.kat_kind (T := .type "int") h1 (by omega) (fun f hm => ?_) (by rfl) ?_, num_cmp hu hp'⟩
  · obtain ⟨x, t, rfl⟩ := h3 f hm
    exact PySem.W.Looks.now
  · have e : (Value.type "int" != Value.type "tuple") = true := by first | decide +kernel | rfl | decide
    rw [e]
    exact hq
def rSortNT (K : PySem.W.Frag) : List V → Hp → VK → Prop := fun vs H Q => ∃ (a : Addr) (xs : List V), vs = [.ref a] ∧ SqL K H a xs ∧ (∀ x ∈ xs, ∃ p, NumV H x p) ∧
  ∀ ys p, SrtO.Srtd (fun v u => lexN v u) (ys.map (keyN H)) → ys.Perm xs → H p = none → Q (.ref p) (upd H p (.lst ys))
theorem cr_sortNT (hu : X.A.units + 10 < cLine) : CallR X (.builtin "sorted") (rSortNT X.K) := by
  intro pins s σ H vs us Q I r h
  obtain ⟨a, xs, rfl, hs, hx, q⟩ := h
  obtain ⟨its, rv, hl, hz⟩ := I.list hs
  rw [Vals.ref1 r]
  obtain ⟨e1, e2⟩ := refs_back rv fun x m => by
    obtain ⟨p, t, _, e, _⟩ := hx x m
    exact ⟨t, e⟩
  have old : ∀ v ∈ its, NumT s.heap v (keyN H (backV v)) := fun v hv => by
    obtain ⟨t, rfl⟩ := e2 v hv
    have hm : V.ref t ∈ xs := by
      rw [e1]
      exact List.mem_map.mpr ⟨_, hv, rfl⟩
    obtain ⟨p, hp⟩ := hx _ hm
    have ek : keyN H (backV (.ref t)) = p := hp.key
    rw [ek]
    obtain ⟨t', b, e, ht, hb, en⟩ := hp
    cases e
    obtain ⟨_, its2, r2, o, ho, hc, n, hd⟩ := I.hok _ _ ht
    cases its2 with
    | nil => cases r2
    | cons i1 its2 =>
    cases r2 with
    | cons g1 r2 =>
    cases its2 with
    | nil => cases r2
    | cons i2 its2 =>
    cases r2 with
    | cons g2 r2 =>
    cases r2
    obtain ⟨t1, rfl⟩ := g1
    obtain rfl := g2
    exact ⟨t, o, t1, .ref b, n, rfl, ho, hc, hd, texts_of I hb, en⟩
  refine SrtO.sorted_ord (swo_lexN fun u => keyN H (backV u)) hl.isList (by rw [← rv.length]; exact hz) (fun h2 h₁ b hb kk => ?_) fun out hs hb => ?_
  · refine num_sortable (s := { s with heap := h₁ }) (k := fun u => keyN H (backV u)) (by show X.A.units + 1 + 1 < cLine; omega) (by omega) fun h' keep v hm => ?_
    have keep2 : ∀ c o, s.heap.get? c = some o → h'.get? c = some o := fun c o e => keep c o (kk c o e).1 (kk c o e).2
    obtain ⟨t, o, t1, u, n, e, ho, hc, hd, ⟨b1, js, eu, ⟨o1, ho1, hc1, n1, hd1⟩, ez, ex⟩, en⟩ := old v hm
    exact ⟨t, o, t1, u, n, e, keep2 _ _ ho, hc, hd, ⟨b1, js, eu, ⟨o1, keep2 _ _ ho1, hc1, n1, hd1⟩, ez, ex⟩, en⟩
  · have h3 : ∀ u ∈ out, ∃ a, u = Value.ref a := fun u hu => e2 u (hb.perm.mem_iff.mp hu)
    obtain ⟨n, hn⟩ := sortedAll_at s.heap its out.toArray
    have pm : (out.map backV).Perm xs := by
      rw [e1]
      exact hb.perm.map backV
    have so : SrtO.Srtd (fun v u => lexN v u) ((out.map backV).map (keyN H)) := List.pairwise_map.mpr (SrtO.srtd_map (lt := fun v u => lexN (keyN H v) (keyN H u)) hs)
    refine ⟨.ref _, upd H (s.heap.objs.size + 1) (.lst (out.map backV)), I.laid (t' := s.toks) (fun _ _ => sortedAll_old) (Nat.le_succ _) ⟨?_, out, n, vals_back h3, hn⟩, rfl, q _ _ so pm (I.hok.fresh (Nat.le_succ _))⟩
    rw [pm.length_eq]
    exact hz
end
end Fc
set_option maxHeartbeats 4000000
/-! Refusals with an own __init__ that calls super().__init__. -/
namespace Fc
open PySem PySem.Spec PyProof.Rows L2
abbrev veI : String := "ValueError.__init__"
section
variable {prog : Program} {w : World} {A : Around} {E : Value → Shared → Prop} {h : Heap} {g : Array GenState} {d : Drawn} {t : Nat} {os : OsState}
/-- the bound __init__ of ValueError, called -/
theorem mw_call {nm qn : Str} {C N u e t0 : Addr} {bs bm : List Value} {hd : Bool} {sn : List Str} {sub : List Value} {ab : Bool} {col : Option Bool} {dd : Option Addr} {k0 k1 k2 k3 k5 : Option Value} {us : List Value} {Q : Value → Shared → Prop}
    (oC : h.get? C = some (excClassObj nm qn C N bs bm hd sn sub ab col dd k0 k1 k2 k3 k5 "ValueError.__new__")) (oe : h.get? e = some (PySem.HandSPX.excO C t0)) (ou : h.get? u = some (PySem.W.kxs_mw veI e)) (few : us.length ≤ sizeLine)
    (k : ∀ h2 t1, (∀ b o, b ≠ e → h.get? b = some o → h2.get? b = some o) → h2.get? e = some (PySem.HandSPX.excO C t1) → Q .none ⟨h2, g, d, t, os⟩) :
    wpAny (model prog w) A (call (.ref u) us) Q E ⟨h, g, d, t, os⟩ := by
  refine wpAny_call (codeAny_of_tree ?_)
  show wpAny (model prog w) A.in1 (callAny (.ref u) ⟨us, []⟩) _ _ ⟨h, g, d, t, os⟩
  simp only [callAny]
  refine wpAny_bind (wpAny_load ou ?_)
  have isMw : (Value.type "method-wrapper" == Value.type "method" || Value.type "method-wrapper" == Value.type "builtin_function_or_method" || Value.type "method-wrapper" == Value.type "method-wrapper") = true := by decide
  simp only [PySem.W.kxs_mw, isMw, if_true]
  refine PySem.W.KFB.if_so (by decide) ?_
  refine wpAny_bind (PySem.W.check_bound_init PySem.F.excBase_ValueError.toExcCallFacts oC oe rfl ?_)
  refine wpAny_bind (wpAny_pure (wpAny_pure ⟨plainId_quiet PySem.F.excBase_ValueError.init.plain _, codeAny_builtin PySem.F.excBase_ValueError.initEntry ?_⟩))
  exact PySem.W.exc_init_tree (cls := .ref C) (t0 := t0) (dv := none) (c2 := .none) (c3 := .none) (b4 := .bool false) oe few fun h2 kb e2 _ => k h2 h.objs.size kb e2
end
/-- what the written part must say of a class whose __init__ stands at f -/
structure SupC (K : PySem.W.Frag) (file : Str) (C f cc cda : Addr) (ar : Arg) : Prop where
  ox : OexC K C
  fn : ∃ oc od fd osl, K.lookup f = some ⟨oc, od, .func fd, osl⟩ ∧ (fd.params.posonlyargs ++ fd.params.args).head? = some ar
  code : ∃ oc od vs osl fi tf, K.lookup cda = some ⟨oc, od, .fields vs, osl⟩ ∧ vs[2]? = some (.str fi tf) ∧ (file == fi) = true
  cell : ∃ oc od osl, K.lookup cc = some ⟨oc, od, .cell (some (.ref C)), osl⟩
  cls : ∃ cd, PySem.W.clsIn K C = some cd
  own : PySem.W.mroIn K C (.ref C) = some true
  any : PySem.W.nsIn K cStatics "thirdparty.any" = some none
  sup : PySem.W.ks_superIn K C C "__init__" = some (some (.builtin veI))
  isVE : PySem.W.subIn K (.ref C) (.type "ValueError") = some true
theorem clsIn_obj {K : PySem.W.Frag} {h : Heap} {D : Addr} {cd : ClassData} (X : K.In h) (e : PySem.W.clsIn K D = some cd) : ∃ o, h.get? D = some o ∧ o.data = .cls cd := by
  unfold PySem.W.clsIn at e
  split at e
  · rename_i c d cd' sl ho
    cases e
    exact ⟨_, X _ _ ho, rfl⟩
  · cases e
section
variable {X : Cx} {pins : List (Addr × Obj)} {σ : L2.St} {H : Hp} {s : Shared} {C f cc cda a : Addr} {ar : Arg} {e1 : Expr} {ta : TA} {p0 p1 p2 p3 p4 : Pos} {body : List Stmt}
/-- super().__init__(e1) -/
theorem sup_run (T : SupC X.K X.prog.main.file C f cc cda ar) (I : Inv X pins σ H s) (hks : X.env.kindOf "super" = some .globalImplicit) (hkc : X.env.kindOf "__class__" = some .free) (hfu : X.env.func = some f) (hco : X.env.code = .ref cda)
    (htop : (X.prog.main.scope.names.lookup ("super" : Str)).isSome = false) (hcl : X.env.cells.lookup ("__class__" : Str) = some cc) (hN : X.N[0]? = some ar.arg) (hσ : σ[0]? = some (some (.ref a))) (hloc : X.env.kindOf ar.arg = some .local) (msup : X.mg "super" = none)
    (he : H a = some (exo a C none)) {D : Hp → Prop} (ha : PA X [e1] ta) (h : ta σ H fun vs H1 => H1 a = some (exo a C none) ∧ vs.length ≤ 1000 ∧ D H1) (hse : starEach [e1] X.env = (false, eval e1 X.env) :: starEach [] X.env := by rfl)
    {pl : Sem Bool} (hev : eval (.Call (.Attribute (.Call (.Name "super" p0) [] [] p1) "__init__" p2) [e1] [] p3) X.env = (do
      let ov ← attributeBase (.Call (.Name "super" p0) [] [] p1) "__init__" X.env (eval (.Call (.Name "super" p0) [] [] p1) X.env)
      standAt p2.atName
      let (f, first) ← holding [ov] (getMethod ov "__init__" pl)
      callWith p3 f first (backTo p3 (starEach [e1] X.env)) []))
    (hi : interactive X.env = false) (hs : swapsWith (.Call (.Attribute (.Call (.Name "super" p0) [] [] p1) "__init__" p2) [e1] [] p3) none p4.line X.env = pure false := by rfl) :
    _root_.PySem.wpAt (model X.prog X.w) X.A (.func body X.env) (exec (.Expr (.Call (.Attribute (.Call (.Name "super" p0) [] [] p1) "__init__" p2) [e1] [] p3) p4) X.env) (fun fl s2 => fl = .next ∧ ∃ H1, Inv X pins σ H1 s2 ∧ D H1) X.xe s := by
  obtain ⟨oc, od, fd, osl, kf, hp⟩ := T.fn
  obtain ⟨oc2, od2, vs2, osl2, fi, tf, kc, hvs, hfile⟩ := T.code
  obtain ⟨oc3, od3, osl3, kl⟩ := T.cell
  obtain ⟨cdC, hcd⟩ := T.cls
  have KI := I.kIn
  obtain ⟨oD, hD1, hD2⟩ := clsIn_obj KI hcd
  obtain ⟨t1, ho⟩ := exo_at I.hok he
  obtain ⟨mb, hb1, hb2⟩ := I.mod.blt
  obtain ⟨m, hns, hlook⟩ := I.loc
  obtain ⟨u0, ru0, look0⟩ := hlook 0 ar.arg (.ref a) hN hσ (.inl hloc)
  have eu0 : u0 = Value.ref a := ru0
  subst eu0
  have hm0 : m ar.arg = some (.ref a) := by
    rcases look0 with ⟨_, z⟩ | ⟨z, _⟩
    · exact z
    · rw [hloc] at z
      rcases z with z | z <;> cases z
  have neC : a ≠ C := fun z => by
    rw [z] at ho
    rw [hD1] at ho
    cases ho
    cases hD2
  refine ks_wpAt_Expr_any (ks_wpAt_MethodCall (Q := fun _ s2 => Flow.next = Flow.next ∧ ∃ H1, Inv X pins σ H1 s2 ∧ D H1) ?_ hev) hi hs
  refine ks_wpAt_super_base hks hkc (by decide) hfu (KI _ _ kf) rfl hp hco (KI _ _ kc) rfl hvs hfile htop ?_
  refine PySem.W.ks_loadName_global I.ok.kind hks (Calls.loadGlobal_builtin (by rw [I.ok.glob]; exact I.mod.glob.keeps I.bk) msup (by rw [I.ok.blt]; exact hb1.keeps I.bk) ((hb2 "super" (by decide)).trans PyProof.Rows.Boot.«super») ⟨rfl, ?_⟩)
  refine wpAny_loadName_free I.ok.kind hkc hcl ⟨_, KI _ _ kl, rfl⟩ ?_
  refine wpAny_loadName_local I.ok.kind hloc hns hm0 ?_
  obtain ⟨hp0, g, dr, tk, os⟩ := s
  refine ks_wpAny_isType_cls hD1 hD2 ⟨rfl, ?_⟩
  refine ks_wpAny_call_super (prog := X.prog) (w := X.w) hD1 hD2 ho rfl (fun c z => by cases z) (PySem.W.looks_mroIn KI T.own) (fun h1 so1 k1 => ?_)
  have I1 : Inv X pins σ H ⟨h1, g, dr, tk, os⟩ := I.kept (t' := tk) k1
  have K1 := I1.kIn
  obtain ⟨bm, hsup⟩ : ∃ l, PySem.W.alongIn X.K "__init__" ((cdC.mro.dropWhile (· != .ref C)).drop 1) = some (some (.builtin veI)) := by
    have z := T.sup
    unfold PySem.W.ks_superIn at z
    rw [hcd] at z
    exact ⟨(), z⟩
  have isI : PySem.W.Looks (model X.prog X.w) h1 (isInstance (.ref a) (.type "ValueError")) true :=
    (show PySem.W.Looks (model X.prog X.w) h1 (typeOf (.ref a)) (.ref C) from fun A Q E s k q => wpAny_typeOf_ref (k _ _ (k1 _ _ ho)) q).andThen (PySem.W.looks_subIn K1 T.isVE)
  refine PySem.W.kxs_getMethod PySem.W.kxs_ValueError so1 (PySem.W.looks_opaque K1 T.any) (l₀ := cdC.mro) (fun A Q E s k q => wpAny_bind ((PySem.W.looks_clsIn K1 hcd) A _ E s k (wpAny_pure q))) rfl K1 hsup isI neC (by decide) ?_
  have k2 : ∀ b o, h1.get? b = some o → (h1.push (PySem.W.kxs_mw veI a)).get? b = some o := fun b o e => Heap.get?_push_of_some _ e
  have gq : (h1.push (PySem.W.kxs_mw veI a)).get? h1.objs.size = some (PySem.W.kxs_mw veI a) := Heap.get?_push_at rfl rfl
  have I2 : Inv X pins σ H ⟨h1.push (PySem.W.kxs_mw veI a), g, dr, tk + 1, os⟩ := I1.kept (t' := tk + 1) k2
  have big : h1.objs.size ≤ h1.objs.size := Nat.le_refl _
  have nL : h1.objs.size ≠ X.env.locals := Nat.ne_of_gt I1.lt
  have I3 : Inv X ((h1.objs.size, PySem.W.kxs_mw veI a) :: pins) σ H ⟨h1.push (PySem.W.kxs_mw veI a), g, dr, tk + 1, os⟩ := I2.pins_of fun p hp => by
    rcases List.mem_cons.mp hp with e | e
    · subst e
      exact ⟨gq, I1.hok.fresh big, nL, I1.nofs big, fun v z => by cases z⟩
    · exact I2.pin p (List.mem_append_right _ e)
  show wpAny _ _ (callWith p3 (.ref h1.objs.size) [] (backTo p3 (starEach [e1] X.env)) []) _ _ _
  rw [hse]
  refine PySem.W.kxs_callWith (i := veI) (x := a) rfl (PySem.Calls.evalArgs_plain ?_)
  refine thn ((hse ▸ ha.run p3 ((h1.objs.size, PySem.W.kxs_mw veI a) :: pins) ⟨h1.push (PySem.W.kxs_mw veI a), g, dr, tk + 1, os⟩ σ H _ I3 h)) fun us s4 ⟨vs, H4, I4, r4, e4, l4, q4⟩ => ?_
  have g4 := (I4.pin (h1.objs.size, PySem.W.kxs_mw veI a) (List.mem_append_right _ List.mem_cons_self)).1
  refine ⟨g4, ?_⟩
  obtain ⟨t4, o4⟩ := exo_at I4.hok e4
  obtain ⟨nm, q, N, bs, bm, sn, sub, ab, col, dd, j0, j1, j2, j3, j5, hC, hbm⟩ := T.ox.cls
  obtain ⟨hp4, g', dr', tk', os'⟩ := s4
  refine mw_call (I4.kIn _ _ hC) o4 g4 (by show us.length ≤ sizeLine; rw [← r4.length, sizeLine_eq]; omega) fun h5 t5 k5 o5 => ⟨rfl, H4, ?_, q4⟩
  have J := I4.write (t' := tk') (x := a) (e := a) (o := exo a C none) (by rw [e4]; exact True.intro) (.inl rfl) k5 ⟨_, o5⟩ (exo_ok o5)
  have eu : upd H4 a (exo a C none) = H4 := by
    funext b
    by_cases hb : b = a
    · rw [hb, upd_same, e4]
    · rw [upd_ne hb]
  rw [eu] at J
  exact J.pins_of fun p hp => J.pin p (List.mem_append_right _ (List.mem_cons_of_mem _ hp))
end
/-! ### the def -/
/-- what such an __init__ promises -/
def SmallV (y : V) : Prop := (∃ z : Str, y = .str z ∧ z.length ≤ 1000) ∨ ∃ i : Int, y = .int i ∧ i.natAbs.log2 < 1920
def spIni (C : Addr) (fld : Str) : Sp := fun vs H Q _ => ∃ (a : Addr) (y : V), vs = [.ref a, y] ∧ SmallV y ∧ H a = some (exo a C none) ∧ ∀ dx, H dx = none → dx ≠ a → Q .non (upd (upd H dx (exd dx [(fld, y)])) a (exo a C (some dx)))
/-- the text that it is made with can be put together -/
def Msg (par : Str) (e1 : Expr) : Prop := ∀ X : Cx, X.N[1]? = some par → X.env.scope.names.lookup par = some .local → ∃ ta : TA, PA X [e1] ta ∧ starEach [e1] X.env = (false, eval e1 X.env) :: starEach [] X.env ∧
  ∀ (σ : L2.St) (H : Hp) (y : V), σ[1]? = some (some y) → SmallV y → ∀ R : List V → Hp → Prop, (∀ vs, vs.length = 1 → R vs H) → ta σ H R
structure IniD where
  cls : Str
  par : Str
  fld : Str
  qual : Str
  params : Arguments
  scope : Scope
  e1 : Expr
  p : List Pos
def IniD.pos (d : IniD) (i : Nat) : Pos := d.p.getD i ⟨0, 0, 0, 0⟩
def IniD.s1 (d : IniD) : Stmt := .Expr (.Call (.Attribute (.Call (.Name "super" (d.pos 0)) [] [] (d.pos 1)) "__init__" (d.pos 2)) [d.e1] [] (d.pos 3)) (d.pos 4)
def IniD.s2 (d : IniD) : Stmt := .Assign [.Attribute (.Name "self" (d.pos 5)) d.fld (d.pos 6)] (.Name d.par (d.pos 7)) (d.pos 8)
def IniD.body (d : IniD) : List Stmt := [d.s1, d.s2]
def IniD.nf (d : IniD) (cc cda : Addr) : NdefX.NF := ⟨"__init__", d.qual, d.params, d.body, d.scope, [(("__class__" : Str), cc)], cda⟩
section
variable {P : Program} {w : World} {K : PySem.W.Frag} {mg : Str → Option Value} {base : Heap}
theorem fn_ini {d : IniD} {C f cc cda : Addr} {ar : Arg} {fd : FuncData} {oc : Value} {od : Option Addr} {osl : Array (Option Value)} (T : SupC K P.main.file C f cc cda ar) (har : ar.arg = "self") (lk : K.lookup f = some ⟨oc, od, .func fd, osl⟩)
    (h1 : fd.qualname = d.qual) (h2 : fd.scope = d.scope) (h3 : fd.globals = mainGlobals) (h4 : fd.closure = [(("__class__" : Str), cc)]) (h5 : fd.builtins = builtinsNs) (h6 : fd.body = .stmts d.body) (h7 : fd.code = .ref cda) (hcd : PySem.W.codeIn K (.ref cda) d.qual = true)
    (S : NdefX.NScope [("self" : Str), d.par, "__class__"] [("self" : Str), d.par] [("__class__" : Str)] d.scope) (hsup : d.scope.names.lookup ("super" : Str) = some .globalImplicit) (hmsg : Msg d.par d.e1) (hno : PySem.W.findIn K (.ref C) d.fld = some none) (msup : mg "super" = none)
    (hdb1 : (d.par == ("__debug__" : Str)) = false) (hdb2 : (d.par == ("__classdict__" : Str)) = false) (htop : (P.main.scope.names.lookup ("super" : Str)).isSome = false) (hev : ∀ env : Env, ∃ pl : Sem Bool, eval (.Call (.Attribute (.Call (.Name "super" (d.pos 0)) [] [] (d.pos 1)) "__init__" (d.pos 2)) [d.e1] [] (d.pos 3)) env = (do
      let ov ← attributeBase (.Call (.Name "super" (d.pos 0)) [] [] (d.pos 1)) "__init__" env (eval (.Call (.Name "super" (d.pos 0)) [] [] (d.pos 1)) env)
      standAt (d.pos 2).atName
      let (f, first) ← holding [ov] (getMethod ov "__init__" pl)
      callWith (d.pos 3) f first (backTo (d.pos 3) (starEach [d.e1] env)) []))
    (hs1 : ∀ env : Env, swapsWith (.Call (.Attribute (.Call (.Name "super" (d.pos 0)) [] [] (d.pos 1)) "__init__" (d.pos 2)) [d.e1] [] (d.pos 3)) none (d.pos 4).line env = pure false)
    (hs2 : ∀ env : Env, swapsWith (.Name d.par (d.pos 7)) (some (.Attribute (.Name "self" (d.pos 5)) d.fld (d.pos 6))) (d.pos 8).line env = pure false) : FnOk P w K mg base CX0 0 f fd [("self" : Str), d.par] (spIni C d.fld) := by
  refine ⟨fun vs H Q E h => by obtain ⟨a, y, rfl, _⟩ := h; rfl, fun A outer s H args us vs Q E hr e0 hbind r h => ?_⟩
  obtain ⟨a, y, rfl, sy, ea, kq⟩ := h
  obtain ⟨cells, cdt, cvs, csl, fi, tf, kc, hvs, hfile⟩ := T.code
  obtain ⟨oc3, od3, osl3, kl⟩ := T.cell
  have KX : K.In s.heap := e0.mod.kin.keeps fun b o e => (e0.bs b o e).1
  have lim : s.heap.NoLimit := e0.mod.nolimit.keeps fun b o e => (e0.bs b o e).1
  have hl : us.length = 2 := r.length.symm
  have eEnv : callEnv fd s.heap.objs.size f = NdefX.envF (d.nf cc cda) f s.heap.objs.size := by
    unfold callEnv
    rw [h1, h2, h3, h4, h5, h7]
    rfl
  have hCell : NdefX.CellsAt (d.nf cc cda).cl [("__class__" : Str)] [some (.ref C)] s.heap H := by
    refine ⟨rfl, fun y c e => ?_, fun x y c e1 e2 => ?_, fun i y hi => ?_⟩
    · have e' : List.lookup y [(("__class__" : Str), cc)] = some c := e
      have ec : c = cc := by
        rw [List.lookup_cons] at e'
        split at e'
        · exact (Option.some.inj e').symm
        · cases e'
      subst ec
      exact ⟨(e0.bs _ _ (e0.mod.kin _ _ kl)).2, _, _, KX _ _ kl, rfl⟩
    · have z : ∀ {x : Str}, List.lookup x [(("__class__" : Str), cc)] = some c → x = ("__class__" : Str) := fun {x} e => by
        rw [List.lookup_cons] at e
        split at e
        · rename_i q
          exact beq_iff_eq.mp q
        · cases e
      rw [z e1, z e2]
    · cases i with
      | zero =>
        have ey : ("__class__" : Str) = y := by simpa using hi
        subst ey
        exact ⟨cc, rfl, fun v hv => by
          have ev : V.ref C = v := by simpa using hv
          subst ev
          exact ⟨.ref C, rfl, _, KX _ _ kl, rfl⟩⟩
      | succ i => simp at hi
  refine ks_codeAny_call_defAt (body := d.body) hr.depth (KX _ _ lk) rfl lim (by rw [h1, h7]; exact PySem.W.codeRec_of KX hcd) h6 hbind (by rw [h2]; exact S.nocell) (fun x hx => by rw [h2]; exact S.par x.1 (List.of_mem_zip hx).1) (fun h₁ hns kp => ?_) (by rw [h2]; exact S.co) (by rw [h2]; exact S.gen) (by rw [h2]; exact S.kind)
  rw [eEnv]
  have I := NdefX.inv_startN (CX := CX0) (P := P) (w := w) (F := d.nf cc cda) (f := f) (A := A) (E := E) (us := us) (tk := s.toks + ([("self" : Str), d.par].zip us).length) S hr.hd e0 (vs := [.ref a, y]) rfl r hCell hns kp
  generalize hX : NdefX.ncx CX0 P w K mg base [("self" : Str), d.par, "__class__"] (d.nf cc cda) f A outer s H E = X at I
  have kSelf : X.env.kindOf "self" = some .local := by rw [← hX]; exact S.par "self" List.mem_cons_self
  have kPar : X.env.scope.names.lookup d.par = some .local := by rw [← hX]; exact S.par d.par (List.mem_cons_of_mem _ List.mem_cons_self)
  obtain ⟨ta, pa, hse, hta⟩ := hmsg X (by rw [← hX]; rfl) kPar
  obtain ⟨pl1, hev1⟩ := hev X.env
  have run1 := sup_run (X := X) (f := f) (cc := cc) (cda := cda) (ar := ar) (a := a) (C := C) (body := d.body) (p0 := d.pos 0) (p1 := d.pos 1) (p2 := d.pos 2) (p3 := d.pos 3) (p4 := d.pos 4) (D := fun H1 => H1 = H)
    (by rw [← hX]; exact T) I (by rw [← hX]; exact hsup) (by rw [← hX]; exact S.frk "__class__" List.mem_cons_self) (by rw [← hX]; rfl) (by rw [← hX]; rfl) (by rw [← hX]; exact htop) (by rw [← hX]; rfl) (by rw [har, ← hX]; rfl) rfl (by rw [har]; exact kSelf) (by rw [← hX]; exact msup) ea pa
    (hta (NdefX.startF [("self" : Str), d.par, "__class__"] [.ref a, y] [some (.ref C)]) H y rfl sy _ fun vs lv => ⟨ea, by omega, rfl⟩) hse hev1 I.quiet (hs1 _)
  subst hX
  refine ks_wpAt_execs_cons (ks_wpAt_mono (show _root_.PySem.wpAt (model P w) (A.deeper (NdefX.envF (d.nf cc cda) f s.heap.objs.size)) (.func d.body (NdefX.envF (d.nf cc cda) f s.heap.objs.size)) (exec d.s1 (NdefX.envF (d.nf cc cda) f s.heap.objs.size)) _ _ _ from run1) (fun fl s2 hfl => ?_) (fun _ _ x => x))
  obtain ⟨rfl, H1, I1, eH⟩ := hfl
  subst eH
  have fin : ∀ {σ' : L2.St} {H' : Hp} {s3 : Shared}, Inv (NdefX.ncx CX0 P w K mg base [("self" : Str), d.par, "__class__"] (d.nf cc cda) f A outer s H1 E) [] σ' H' s3 → Q .non H' → CE outer P w H1 s Q .none s3 := fun {σ' H' s3} J q => ⟨.non, H', J.os, J.bare, J.base, J.hok, rfl, q⟩
  refine ks_wpAt_execs_cons (PyProof.Rows.wpAt_of_any ?_)
  have r2 := (ps_ost (X := NdefX.ncx CX0 P w K mg base [("self" : Str), d.par, "__class__"] (d.nf cc cda) f A outer s H1 E) (f := d.fld) (p' := d.pos 6) (pos := d.pos 8) (pe_var (pos := d.pos 5) (i := 0) rfl (.inl (S.par _ List.mem_cons_self))) (pe_var (pos := d.pos 7) (i := 1) rfl (.inl (S.par d.par (List.mem_cons_of_mem _ List.mem_cons_self))) hdb1 hdb2) (hs2 _)).run [] s2 _ _ { nx := fun _ H2 => Q .non H2, rt := fun _ _ => False } I1 ?_
  · refine wpAny_mono r2 (fun fl s3 h3 => ?_) (fun _ _ x => x)
    cases fl with
    | next =>
      obtain ⟨σ', H', J, q⟩ := h3
      exact PyProof.Rows.wpAt_of_any (wpAny_execs_nil (fin J q))
    | brk =>
      obtain ⟨σ', H', J, q⟩ := h3
      exact q.elim
    | cont =>
      obtain ⟨σ', H', J, q⟩ := h3
      exact q.elim
    | ret u =>
      obtain ⟨v, σ', H', J, rv, q⟩ := h3
      exact q.elim
  · exact ⟨_, rfl, _, rfl, a, C, rfl, T.ox, hno, .inl ⟨ea, kq⟩⟩
end
end Fc
set_option maxHeartbeats 4000000
/-! Defs that refuse; what is caught, handed on and asked. -/
namespace Fc
open PySem PySem.Spec PyProof.Rows L2
section
variable {X : Cx}
/-- what is wanted of one argument -/
def One1 (R : V → Hp → Prop) : List V → Hp → Prop
  | [y], H => R y H
  | _, _ => False
theorem one1_is {R : V → Hp → Prop} : ∀ {vs : List V} {H : Hp}, One1 R vs H → ∃ y, vs = [y] ∧ R y H
  | [y], _, h => ⟨y, rfl, h⟩
/-- the reading of C(e): the refusal's dict is new -/
def tRef (C : Addr) (fld : Str) (te : TE) : L2.St → Hp → XK → Prop := fun σ H Q => te σ H fun y H1 => SmallV y ∧ ∀ d, H1 d = none → Q (.ref C) (some d) (upd H1 d (.xd [(fld, y)]))
theorem pmk_ini {x par fld : Str} {C fI : Addr} {e : Expr} {te : TE} {fd : FuncData} {p pos : Pos} (T : OexC X.K C) (hI : PySem.W.findIn X.K (.ref C) "__init__" = some (some (.ref fI))) (tI : PySem.W.typeIn X.K (.ref fI) = some (.type "function"))
    (F1 : FnOk X.prog X.w X.K X.mg X.base CX0 0 fI fd [("self" : Str), par] (spIni C fld)) (hr : Room 1 X.A) (hb : Binds X.K fd [("self" : Str), par] []) (hg : Gl X x) (hm : X.mg x = some (.ref C)) (he : PE X e te)
    (hst : starEach [e] X.env = (false, eval e X.env) :: starEach [] X.env := by rfl) (hdb : (x == ("__debug__" : Str)) = false := by decide) : L2N.PMk X (.Call (.Name x p) [e] [] pos) (tRef C fld te) := by
  intro pins s σ H Q I h
  obtain ⟨nm, qn, N, bs, bm, sn, sub, ab, col, dd, j0, j1, j2, j3, j5, kC, vb⟩ := T.cls
  have ha : PA X [e] (tCons te tNil) := pa_cons he pa_nil hst
  refine wpAny_Call_Name_kw (ld_glob I hg hm ?_ hdb)
  refine PySem.W.callWith_K (h₀ := X.base) I.ok.mod.kin T.kC (thn (ha.run pos pins s σ H (One1 fun y H1 => SmallV y ∧ ∀ d, H1 d = none → Q (.ref C) (some d) (upd H1 d (.xd [(fld, y)]))) I h) fun us s1 hh => ?_) hst (by rfl)
  obtain ⟨vs, H1, I1, r1, q1⟩ := hh
  obtain ⟨y, rfl, sy, q1⟩ := one1_is q1
  refine ⟨I1.kIn, ?_⟩
  show wpAny _ _ (call (.ref C) us) _ _ _
  obtain ⟨hp, g, dr, tk, os⟩ := s1
  generalize ht : hp.objs.size = t0
  have na : H1 (t0 + 1) = none := I1.hok.fresh (by rw [← ht]; exact Nat.le_succ _)
  generalize hh2 : (hp.push (PySem.W.kdv_tup us)).push (PySem.HandSPX.excO C t0) = h2
  have up2 : ∀ b o, hp.get? b = some o → h2.get? b = some o := fun b o z => by
    rw [← hh2]
    exact Heap.get?_push_of_some _ (Heap.get?_push_of_some _ z)
  have at2 : h2.get? (t0 + 1) = some (PySem.HandSPX.excO C t0) := by
    rw [← hh2, ← ht]
    heap_get
  have I2 : Inv X pins σ (upd H1 (t0 + 1) (exo (t0 + 1) C none)) ⟨h2, g, dr, tk, os⟩ := I1.laid (t' := tk) up2 (by show hp.objs.size ≤ t0 + 1; omega) (exo_ok at2)
  have q0 : spIni C fld [.ref (t0 + 1), y] (upd H1 (t0 + 1) (exo (t0 + 1) C none)) (fun v H2 => v = .non ∧ ∃ (d : Addr) (fs : List (Str × V)), H2 (t0 + 1) = some (exo (t0 + 1) C (some d)) ∧ H2 d = some (exd d fs) ∧ H1 d = none ∧ Q (.ref C) (some d) (upd (del H2 (t0 + 1)) d (.xd fs))) (fun _ _ _ => False) := by
    refine ⟨t0 + 1, y, rfl, sy, upd_same, fun dx n1 n2 => ⟨rfl, dx, [(fld, y)], upd_same, by rw [upd_ne n2, upd_same], by rw [upd_ne n2] at n1; exact n1, ?_⟩⟩
    have nd : H1 dx = none := by
      rw [upd_ne n2] at n1
      exact n1
    have e2 : upd (del (upd (upd (upd H1 (t0 + 1) (exo (t0 + 1) C none)) dx (exd dx [(fld, y)])) (t0 + 1) (exo (t0 + 1) C (some dx))) (t0 + 1)) dx (.xd [(fld, y)]) = upd H1 dx (.xd [(fld, y)]) := by
      funext b
      by_cases b1 : b = dx
      · rw [b1, upd_same, upd_same]
      · rw [upd_ne b1, upd_ne b1]
        by_cases b2 : b = t0 + 1
        · rw [b2, del_same, na]
        · rw [del_ne b2, upd_ne b2, upd_ne b1, upd_ne b2]
    rw [e2]
    exact q1 dx nd
  have rv : Vals [V.ref (t0 + 1), y] (Value.ref (t0 + 1) :: us) := .cons rfl r1
  have lu : us.length = 1 := r1.length.symm
  have hbd := hb ⟨h2, g, dr, tk, os⟩ (Value.ref (t0 + 1) :: us) I2.kIn (by rw [List.append_nil, List.length_cons, lu]; rfl)
  rw [List.append_nil] at hbd
  have call1 := F1.run (X.A.under (.builtin "type.__call__" ⟨.ref C :: us, []⟩)) X.stack _ _ ⟨Value.ref (t0 + 1) :: us, []⟩ _ _ _ _ (hr.make C us []) (I2.env0.make C us []) hbd rv q0
  subst hh2
  subst ht
  refine wpAny_call (PySem.HandSPX.call_own F.excBase_ValueError (fun Y => PySem.HandSPX.refsVE_contains Y bm vb) (I1.kIn _ _ kC) (PySem.W.looks_findIn I1.kIn hI) (fun self => PySem.W.bind_fn I1.kIn self tI) (by rw [lu]; decide) (codeAny_mono call1 fun r s3 hq => ?_))
  cases r with
  | error er => exact hq.elim
  | ok fl =>
    cases fl with
    | next => exact hq.elim
    | brk => exact hq.elim
    | cont => exact hq.elim
    | ret u =>
      obtain ⟨v, H2, os2, bare2, un2, hok2, rv2, ev, d, fs, ea, ed, nd, q2⟩ := hq
      subst ev
      obtain ⟨h3, g3, d3, t3, os3⟩ := s3
      obtain ⟨tt, G, J, keepG, noG, atE, noE⟩ := mk_end0 (d2 := d3) (t2 := t3) I1 (Nat.le_succ _) up2 un2 hok2 os2 bare2 ea ed nd
      exact ⟨rv2, hp.objs.size + 1, _, _, ⟨G, g3, d3, t3, os3⟩, _, .ref C, some d, rfl, J, keepG, noG, atE, ⟨rfl, rfl, fun ws z => by cases z; rfl⟩, rfl, rfl, noE, rfl, bare2, raises_own T.exC T.tyC, q2⟩
end
/-! ### a def that may refuse -/
structure CalX (P : Program) (w : World) (K : PySem.W.Frag) (mg : Str → Option Value) (base : Heap) (k : Nat) (x : Str) (sp : Sp) : Prop where
  ex : ∃ (f : Addr) (fd : FuncData) (ps : List Str), FnOk P w K mg base (L2N.CX P w) k f fd ps sp ∧ mg x = some (.ref f) ∧ PySem.W.keepIn K (.ref f) = true ∧ Binds K fd ps []
section
variable {P : Program} {w : World} {K : PySem.W.Frag} {mg : Str → Option Value} {base : Heap}
theorem cal_mkX {x : Str} {st : Stmt} {N ps : List Str} {k : Nat} {sp : Sp} (D : DefAt K mg x st) (S : FnScope N ps (defScope st)) (len : ∀ vs H Q E, sp vs H Q E → vs.length = ps.length)
    (hb : ∀ (kV doc pm : Value) (an : Option Addr) (cdv ct : Value) (us : List Value), us.length = ps.length → bindArgs (PySem.W.fnOf x x (defArgs st) (defBody st) (defScope st) .none kV doc pm an cdv ct) ⟨us, []⟩ = pure (ps.zip us))
    (hbody : ∀ (A : Around) (outer : List Env) (s : Shared) (H : Hp) (vs : List V) (Q : VK) (E : XK), Room k (A.deeper (envOfC x (defScope st) s.heap.objs.size (He.ga K x) (.ref (cO K x)))) → sp vs H Q E →
      L2N.Takes (cxOf (L2N.CX P w) P w K mg base N x (defScope st) (He.ga K x) (.ref (cO K x)) A outer s H E) (fun cls d _ H => E cls d H) →
      ∃ t, PSs (cxOf (L2N.CX P w) P w K mg base N x (defScope st) (He.ga K x) (.ref (cO K x)) A outer s H E) (defBody st) t ∧ t { nx := fun _ H' => Q .non H', rt := Q } (start N vs) H) : CalX P w K mg base (k + 1) x sp := by
  obtain ⟨fd, F⟩ := D.fn
  exact ⟨_, fd, ps, fn_mk F S len fun A outer s H vs Q E hr hsp => hbody A outer s H vs Q E hr hsp (L2N.takes_of rfl rfl rfl rfl), D.mgf, F.kp, F.bindsN hb⟩
end
section
variable {X : Cx} {k j : Nat} {x : Str} {sp : Sp} {p pos : Pos} {e : Expr} {es : List Expr} {t : TA} {W : WX}
/-- such a def called -/
theorem pe_cX (c : CalX X.prog X.w X.K X.mg X.base k x sp) (hr : Room j X.A) (hk : k ≤ j) (hg : Gl X x) (tk : L2N.Takes X W) (ha : PA X (e :: es) t) (hdb : (x == ("__debug__" : Str)) = false := by decide)
    (he : starEach (e :: es) X.env = (false, eval e X.env) :: starEach es X.env := by rfl) (hpl : (backTo pos (starEach es X.env)).any (·.1) = false := by rfl) :
    PE X (.Call (.Name x p) (e :: es) [] pos) (tCallS sp (WE W) t) := by
  obtain ⟨f, fd, ps, F, hm, hkp, hb⟩ := c.ex
  exact pe_callS (F.mono hk) hr hg hm hkp hb (fun σ => L2N.passAt tk σ) ha hdb he hpl
end
/-! ### a def that is handed what is handled -/
structure FnE (P : Program) (w : World) (K : PySem.W.Frag) (mg : Str → Option Value) (base : Heap) (k : Nat) (x : Str) (sp : Addr × Obj → Sp) : Prop where
  ex : ∃ (f : Addr) (fd : FuncData) (ps : List Str), mg x = some (.ref f) ∧ PySem.W.keepIn K (.ref f) = true ∧ Binds K fd ps [] ∧ (∀ z vs H Q E, sp z vs H Q E → vs.length = ps.length) ∧
    ∀ (A : Around) (outer : List Env) (s : Shared) (H : Hp) (as : Args) (us : List Value) (vs : List V) (Q : VK) (E : XK) (z : Addr × Obj), L2H.RoomH k A → L2H.Hot1 A z → L2H.PinOk outer H s z → Env0 P w K mg base A outer s H → BindsTo s fd as (ps.zip us) → Vals vs us → sp z vs H Q E →
      codeAny (model P w) A (.call (.ref f) as) (CR CX0 outer P w H s Q E) s
section
variable {P : Program} {w : World} {K : PySem.W.Frag} {mg : Str → Option Value} {base : Heap}
theorem fnE_mk {x : Str} {st : Stmt} {N ps : List Str} {k : Nat} {sp : Addr × Obj → Sp} (D : DefAt K mg x st) (S : FnScope N ps (defScope st)) (len : ∀ z vs H Q E, sp z vs H Q E → vs.length = ps.length)
    (hb : ∀ (kV doc pm : Value) (an : Option Addr) (cdv ct : Value) (us : List Value), us.length = ps.length → bindArgs (PySem.W.fnOf x x (defArgs st) (defBody st) (defScope st) .none kV doc pm an cdv ct) ⟨us, []⟩ = pure (ps.zip us))
    (hbody : ∀ (A : Around) (outer : List Env) (s : Shared) (H : Hp) (vs : List V) (Q : VK) (E : XK) (z : Addr × Obj), L2H.Hot1 A z → L2H.RoomH k (A.deeper (envOfC x (defScope st) s.heap.objs.size (He.ga K x) (.ref (cO K x)))) → sp z vs H Q E →
      ∃ t, PSs (L2H.cxH CX0 P w K mg base N x (defScope st) (He.ga K x) (.ref (cO K x)) A outer s H E z) (defBody st) t ∧ t { nx := fun _ H' => Q .non H', rt := Q } (L2.start N vs) H) : FnE P w K mg base (k + 1) x sp := by
  obtain ⟨fd, F⟩ := D.fn
  have hBinds := F.bindsN hb
  have hkp := F.kp
  obtain ⟨oc, od, dV, kV, doc, pm, an, cdv, ct, osl, rfl, lk, hcd, _, _⟩ := F.ex
  obtain ⟨c, rfl⟩ := He.codeIn_ref hcd
  have ec : cO K x = c := He.codeOf_eq (p := (x, none)) lk rfl
  refine ⟨_, _, ps, D.mgf, hkp, hBinds, len, fun A outer s H as us vs Q E z room hot pin e0 hbt r hsp => ?_⟩
  obtain ⟨t, ht, hq⟩ : ∃ t, PSs (L2H.cxH CX0 P w K mg base N x (defScope st) (He.ga K x) (.ref c) A outer s H E z) (defBody st) t ∧ t { nx := fun _ H' => Q .non H', rt := Q } (L2.start N vs) H := by
    have b := hbody A outer s H vs Q E z hot
    rw [ec] at b
    exact b (room.deeper _) hsp
  have KS : K.In s.heap := e0.mod.kin.keeps fun b o e => (e0.bs b o e).1
  have parKind : ∀ y ∈ ps.zip us, (defScope st).names.lookup y.1 = some .local ∨ ((defScope st).names.lookup y.1 = some .cell ∧ ((cellsFrom (s.heap.objs.size + 1) (defScope st).names []).lookup y.1).isSome = true) := fun y hy =>
    (S.par y.1 (List.of_mem_zip (a := y.1) (b := y.2) hy).1).imp id fun q => ⟨q, PySem.W.cellsFrom_some _ _ _ (.inl q)⟩
  refine codeAny_call_function room.depth (KS _ _ lk) rfl S.co S.gen rfl (PySem.W.codeRec_of KS hcd) (hbt _ _ _ _ (wpAny_newFunctionEnv_cells S.kind parKind fun env ee s1 inC => ?_))
  subst ee
  refine ⟨(e0.mod.nolimit.keeps fun b o e => (e0.bs b o e).1).keeps inC.toInCall.keep, codeAny_func ?_⟩
  have I := L2H.inv_startH (CX := CX0) (P := P) (w := w) (E := E) S pin e0 (len _ _ _ _ _ hsp) r inC
  have ends : ∀ {σ' : L2.St} {H' : Hp} {s' : Shared} {v : V} {u : Value}, Inv (L2H.cxH CX0 P w K mg base N x (defScope st) (He.ga K x) (.ref c) A outer s H E z) [] σ' H' s' → RelV v u → Q v H' → CE outer P w H s Q u s' := fun J rv q => ⟨_, _, J.os, J.bare, J.base, J.hok, rv, q⟩
  refine wpAny_mono (ht.run [] s1 _ H _ I hq) (fun fl s' hs => ?_) fun _ _ hs => hs
  cases fl with
  | next => exact hs.elim fun σ' h => h.elim fun H' h => ends (v := V.non) (u := Value.none) h.1 rfl h.2
  | ret u => exact hs.elim fun v h => h.elim fun σ' h => h.elim fun H' h => ends h.1 h.2.1 h.2.2
  | brk => exact hs.elim fun σ' h => h.elim fun H' h => h.2.elim
  | cont => exact hs.elim fun σ' h => h.elim fun H' h => h.2.elim
end
section
variable {X : Cx} {k j : Nat} {x : Str} {sp : Addr × Obj → Sp} {p pos : Pos} {e : Expr} {es : List Expr} {t : TA} {z : Addr × Obj}
theorem pe_cE (c : FnE X.prog X.w X.K X.mg X.base k x sp) (hr : L2H.RoomH j X.A) (hk : k ≤ j) (hot : L2H.Hot1 X.A z) (hz : z ∈ X.pn) (hg : Gl X x) (ha : PA X (e :: es) t) (hdb : (x == ("__debug__" : Str)) = false := by decide)
    (he : starEach (e :: es) X.env = (false, eval e X.env) :: starEach es X.env := by rfl) (hpl : (backTo pos (starEach es X.env)).any (·.1) = false := by rfl) :
    PE X (.Call (.Name x p) (e :: es) [] pos) (fun σ H Q => t σ H fun vs H1 => sp z vs H1 Q C8.E0) := by
  obtain ⟨f, fd, ps, hm, hkp, hb, len, run⟩ := c.ex
  refine ⟨fun pins s σ H Q I h => wpAny_Call_Name_kw (ld_glob I hg hm ?_ hdb)⟩
  refine PySem.W.callWith_K (h₀ := X.base) I.ok.mod.kin hkp (thn (ha.run pos pins s σ H _ I h) fun us s1 hh => ?_) he hpl
  obtain ⟨vs, H1, I1, r, q⟩ := hh
  have lv : us.length = ps.length := r.length.symm.trans (len _ _ _ _ _ q)
  have bd := hb s1 us I1.kIn (by rw [List.append_nil]; exact lv)
  rw [List.append_nil] at bd
  have pz := I1.pin z (List.mem_append_left _ hz)
  have pin : L2H.PinOk X.stack H1 s1 z := ⟨pz.1, pz.2.1, fun m => (List.mem_cons.mp (I1.stkSub z.1 m)).elim pz.2.2.1 pz.2.2.2.1, pz.2.2.2.2⟩
  refine ⟨I1.kIn, wpAny_call (codeAny_mono (run X.A X.stack s1 H1 ⟨us, []⟩ us vs Q C8.E0 z (hr.mono hk) hot pin I1.env0 bd r q) fun r s' hq => ?_)⟩
  cases r with
  | error er => exact hq.elim
  | ok fl =>
    cases fl with
    | ret u => exact I1.after hq
    | next => exact hq.elim
    | brk => exact hq.elim
    | cont => exact hq.elim
/-- isinstance(e, c) of what is handled -/
structure AskE (K : PySem.W.Frag) (D : Addr) : Prop where
  cl : (PySem.W.clsIn K D).isSome = true
  ga : PySem.W.findIn K (.ref D) "__getattribute__" = some (some (.builtin "BaseException.__getattribute__"))
  gt : PySem.W.findIn K (.ref D) "__getattr__" = some none
  sb : PySem.W.subIn K (.ref D) (.type "BaseException") = some true
  at_ : PySem.W.findIn K (.ref D) "__class__" = some (some (.builtin "object.__class__"))
  gs : PySem.W.specialIn K (.builtin "object.__class__") "__get__" = some (some (.builtin "getset_descriptor.__get__"))
  tk : PySem.W.takesIn K (.builtin "object.__class__") = some true
  ob : PySem.W.mroIn K D (.type "object") = some true
def DictOk (H : Hp) (o : Obj) : Prop := o.dict = none ∨ ∃ (dd : Addr) (fs : List (Str × V)), o.dict = some dd ∧ H dd = some (.xd fs)
def rAskE (K : PySem.W.Frag) (D : Addr) (z : Addr × Obj) : List V → Hp → VK → Prop := fun xs H Q => ∃ (c : V) (cv : Value) (b : Bool), xs = [.ref z.1, c] ∧ (∀ u, RelV c u → u = cv) ∧ PySem.W.kitOne K (.ref D) cv = some b ∧ DictOk H z.2 ∧ Q (.bl b) H
theorem call_askE {D : Addr} (T : AskE X.K D) (hz : z ∈ X.pn) (hc : z.2.cls = .ref D) (hf : ∃ vs, z.2.data = .fields vs) : CallR X (.builtin "isinstance") (rAskE X.K D z) := by
  intro pins s σ H xs us Q I r h
  obtain ⟨c, cv, b, rfl, hcv, e, hd, q⟩ := h
  obtain ⟨hget, _⟩ := I.pin z (List.mem_append_left _ hz)
  cases r with
  | cons rx rr =>
    cases rr with
    | cons rt rr =>
      cases rr
      have ec := hcv _ rt
      subst ec
      obtain rfl := rx
      obtain ⟨vs, hv⟩ := hf
      have nc : PySem.W.notCls z.2 = true := by
        unfold PySem.W.notCls
        rw [hv]
      rcases hd with hd | ⟨dd, fs, hd, hx⟩
      · have J : PySem.W.InstAt s.heap z.1 z.2 D none := ⟨hget, hc, nc, by rw [hd]; trivial⟩
        exact PySem.W.kia_one (PySem.W.kitx_exc T.cl T.ga T.gt T.sb T.at_ T.gs T.tk T.ob) I.kIn J e (fun z => nomatch z) fun tk => ⟨.bl b, H, I.kept (t' := tk) fun _ _ z => z, rfl, q⟩
      · obtain ⟨m, ⟨o, _, _, ho, _⟩, _⟩ : ObjOk X.prog X.w H s.heap dd (.xd fs) := I.hok dd _ hx
        have J : PySem.W.InstAt s.heap z.1 z.2 D (some o) := ⟨hget, hc, nc, by rw [hd]; exact ho⟩
        exact PySem.W.kia_one (PySem.W.kitx_exc T.cl T.ga T.gt T.sb T.at_ T.gs T.tk T.ob) I.kIn J e (fun z => nomatch z) fun tk => ⟨.bl b, H, I.kept (t' := tk) fun _ _ z => z, rfl, q⟩
end
end Fc
set_option maxHeartbeats 4000000
/-! Found by heads: what is promised. -/
namespace Fc
open PySem PySem.Spec PyProof.Rows L2
def othP (ps : List P2) (nm : Str) : List P2 := ps.filter fun p => !decide (p.1 = nm)
def osF (rs : List Row) (ps : List P2) (nm : Str) : List (List Str) := (othP ps nm).map fun p => headsM rs p.2
/-- one has all of some -/
def hasA (o s : List Str) : Bool := s.all fun x => decide (x ∈ o)
def hideF (rs : List Row) (ps : List P2) (nm m : Str) : List Str := ((othP ps nm).filter fun p => hasA (headsM rs p.2) (headsM rs m)).map (·.1)
/-- a class that refuses with a field -/
structure RefC (P : Program) (w : World) (K : PySem.W.Frag) (mg : Str → Option Value) (base : Heap) (x fld : Str) : Prop where
  gm : mg x = some (.ref (He.ga K x))
  ox : OexC K (He.ga K x)
  ini : ∃ (fI : Addr) (fd : FuncData) (par : Str), PySem.W.findIn K (.ref (He.ga K x)) "__init__" = some (some (.ref fI)) ∧ PySem.W.typeIn K (.ref fI) = some (.type "function") ∧ FnOk P w K mg base CX0 0 fI fd [("self" : Str), par] (spIni (He.ga K x) fld) ∧ Binds K fd [("self" : Str), par] []
theorem pmk_ref {X : Cx} {x fld : Str} {e : Expr} {te : TE} {p pos : Pos} (R : RefC X.prog X.w X.K X.mg X.base x fld) (hr : Room 1 X.A) (hg : Gl X x) (he : PE X e te)
    (hst : starEach [e] X.env = (false, eval e X.env) :: starEach [] X.env := by rfl) (hdb : (x == ("__debug__" : Str)) = false := by decide) : L2N.PMk X (.Call (.Name x p) [e] [] pos) (tRef (He.ga X.K x) fld te) := by
  obtain ⟨fI, fd, par, h1, h2, h3, h4⟩ := R.ini
  exact pmk_ini R.ox h1 h2 h3 hr h4 hg R.gm he hst hdb
def spFound (K : PySem.W.Frag) (T : List Addr) : Sp := fun vs H Q E => ∃ (v u : V) (rs : List Row) (ps : List P2) (nm m : Str), vs = [v, u, .str nm] ∧ Dn N0 H v (ruleD rs) ∧ Dn N0 H u (papersD ps) ∧ GoodR rs ∧ GoodP ps ∧ (nm, m) ∈ ps ∧ Tbs T H ∧
  (hideF rs ps nm m = [] → ∀ p H', H p = none → Kp N0 H H' → H' p = some (.lst ((aloneM (headsM rs m) (osF rs ps nm)).map V.str)) → Q (.ref p) H') ∧
  (hideF rs ps nm m ≠ [] → ∀ d H', Kp N0 H H' → H' d = some (.xd [(("name" : Str), .str (leastS (hideF rs ps nm m)))]) → E (.ref (He.ga K "NotFound")) (some d) H')
theorem pkv_at {ps : List P2} {nm m : Str} (nd : (ps.map (·.1)).Nodup) (h : (nm, m) ∈ ps) : valV (pkv ps) (.inr nm) = some (.str m) := by
  induction ps with
  | nil => cases h
  | cons p ps ih =>
    rw [List.map_cons] at nd
    obtain ⟨n1, n2⟩ := List.nodup_cons.mp nd
    rcases List.mem_cons.mp h with e | e
    · subst e
      exact valV_pos (p := ((.inr nm : Key), V.str m)) (r := pkv ps) rfl
    · have ne : ¬ p.1 = nm := fun z => n1 (List.mem_map.mpr ⟨_, e, z.symm⟩)
      have z : valV (pkv (p :: ps)) (.inr nm) = valV (pkv ps) (.inr nm) := valV_neg (p := ((.inr p.1 : Key), V.str p.2)) (r := pkv ps) (fun c => ne (Sum.inr.inj c))
      rw [z]
      exact ih n2 e
theorem oth_take {ps : List P2} {nm : Str} {i : Nat} {p : P2} (h : ps[i]? = some p) : othP (ps.take (i + 1)) nm = othP (ps.take i) nm ++ if p.1 = nm then [] else [p] := by
  have tk : ps.take (i + 1) = ps.take i ++ [p] := by rw [← (List.getElem?_eq_some_iff.mp h).2, List.take_append_getElem]
  unfold othP
  rw [tk, List.filter_append]
  congr 1
  by_cases e : p.1 = nm
  · rw [if_pos e, List.filter_cons, if_neg (by simpa using e)]
    rfl
  · rw [if_neg e, List.filter_cons, if_pos (by simpa using e)]
    rfl
theorem dkv_vals : ∀ {hs : List Str} {as : List Addr}, as.length = hs.length → (dkv hs as).map (·.2) = as.map V.ref
  | [], [], _ => rfl
  | [], _ :: _, h => by cases h
  | _ :: _, [], h => by cases h
  | h :: hs, a :: as, l => by
    have i := dkv_vals (hs := hs) (as := as) (Nat.succ.inj l)
    show V.ref a :: (dkv hs as).map (·.2) = _
    rw [i]
    rfl
theorem leastS_mem {l : List Str} (h : l ≠ []) : leastS l ∈ l := by
  unfold leastS
  cases e : riseS l with
  | nil =>
    cases l with
    | nil => exact (h rfl).elim
    | cons x l =>
      have z := (riseS_mem x (x :: l)).mpr List.mem_cons_self
      rw [e] at z
      cases z
  | cons y ys => exact (riseS_mem y l).mp (by rw [e]; exact List.mem_cons_self)
theorem oth_sub (ps : List P2) (nm : Str) : (othP ps nm).Sublist ps := List.filter_sublist
theorem oth_nd {ps : List P2} {nm : Str} (nd : (ps.map (·.1)).Nodup) : ((othP ps nm).map (·.1)).Nodup := nd.sublist ((oth_sub ps nm).map _)
end Fc
set_option maxHeartbeats 4000000
/-! All sets of heads, in order. -/
namespace Fc
open PySem PySem.Spec PyProof.Rows L2
abbrev lD (s : List Str) : PyData := .list (s.map PyData.str)
def subsS : List (List Str) → List Str → List (List Str)
  | S, [] => S
  | S, c :: xs => subsS (S ++ S.map (· ++ [c])) xs
theorem subsS_snoc : ∀ (xs : List Str) (S : List (List Str)) (c : Str), subsS S (xs ++ [c]) = subsS S xs ++ (subsS S xs).map (· ++ [c])
  | [], _, _ => rfl
  | _ :: xs, S, c => subsS_snoc xs _ c
theorem subsS_len : ∀ (xs : List Str) (S : List (List Str)), (subsS S xs).length = S.length * 2 ^ xs.length
  | [], S => by simp [subsS]
  | c :: xs, S => by
    show (subsS (S ++ S.map (· ++ [c])) xs).length = _
    rw [subsS_len xs, List.length_append, List.length_map, List.length_cons, Nat.pow_succ, ← Nat.two_mul, Nat.mul_comm 2 S.length, Nat.mul_assoc, Nat.mul_comm 2]
theorem snoc_cases {α : Type} {xs : List α} {n : Nat} (h : xs.length = n + 1) : ∃ ys c, xs = ys ++ [c] ∧ ys.length = n := by
  have ne : xs ≠ [] := fun e => by rw [e] at h; cases h
  refine ⟨xs.dropLast, xs.getLast ne, (List.dropLast_concat_getLast ne).symm, ?_⟩
  rw [List.length_dropLast]
  omega
theorem subsS_mem (xs : List Str) : ∀ l, l ∈ subsS [[]] xs ↔ l.Sublist xs := by
  have key : ∀ (n : Nat) (xs : List Str), xs.length = n → ∀ l, l ∈ subsS [[]] xs ↔ l.Sublist xs := by
    intro n
    induction n with
    | zero =>
      intro xs h l
      rw [List.length_eq_zero_iff.mp h]
      show l ∈ [[]] ↔ _
      rw [List.mem_singleton, List.sublist_nil]
    | succ n ih =>
      intro xs h l
      obtain ⟨ys, c, rfl, hy⟩ := snoc_cases h
      rw [subsS_snoc, List.mem_append, List.mem_map, ih ys hy l]
      constructor
      · rintro (z | ⟨u, hu, rfl⟩)
        · exact z.trans (List.sublist_append_left _ _)
        · exact ((ih ys hy u).mp hu).append (List.Sublist.refl _)
      · intro z
        obtain ⟨a, b, rfl, ha, hb⟩ := List.sublist_append_iff.mp z
        cases hb with
        | cons _ hb =>
          rw [List.sublist_nil.mp hb, List.append_nil]
          exact .inl ha
        | cons_cons _ hb =>
          rw [List.sublist_nil.mp hb]
          exact .inr ⟨a, (ih ys hy a).mpr ha, rfl⟩
  exact key _ xs rfl
theorem subsS_nd : ∀ {xs : List Str}, xs.Nodup → (subsS [[]] xs).Nodup := fun {xs} h => by
  have key : ∀ (n : Nat) (xs : List Str), xs.length = n → xs.Nodup → (subsS [[]] xs).Nodup := by
    intro n
    induction n with
    | zero =>
      intro xs h _
      rw [List.length_eq_zero_iff.mp h]
      show ([[]] : List (List Str)).Nodup
      exact List.pairwise_singleton _ _
    | succ n ih =>
      intro xs h nd
      obtain ⟨ys, c, rfl, hy⟩ := snoc_cases h
      obtain ⟨n1, n2, n3⟩ := List.nodup_append.mp nd
      have i := ih ys hy n1
      rw [subsS_snoc]
      refine List.nodup_append.mpr ⟨i, List.pairwise_map.mpr (i.imp fun z e => z (List.append_cancel_right e)), fun a ha b hb e => ?_⟩
      obtain ⟨d, _, ed⟩ := List.mem_map.mp hb
      have ca : c ∈ a := by
        rw [e, ← ed]
        exact List.mem_append_right _ List.mem_cons_self
      exact n3 c (((subsS_mem _ a).mp ha).subset ca) c List.mem_cons_self rfl
  exact key _ xs rfl h
theorem subsS_take {xs : List Str} {i : Nat} {c : Str} (h : xs[i]? = some c) : subsS [[]] (xs.take (i + 1)) = subsS [[]] (xs.take i) ++ (subsS [[]] (xs.take i)).map (· ++ [c]) := by
  rw [← subsS_snoc, ← (List.getElem?_eq_some_iff.mp h).2, List.take_append_getElem]
/-! ### the shortest first -/
def choicesT (xs : List Str) : List (List Str) := (List.range (xs.length + 1)).flatMap fun k => combs k xs
theorem choicesT_mem (xs l : List Str) : l ∈ choicesT xs ↔ l.Sublist xs := by
  unfold choicesT
  rw [List.mem_flatMap]
  constructor
  · rintro ⟨k, _, h⟩
    exact ((combs_mem k xs l).mp h).1
  · intro h
    exact ⟨l.length, List.mem_range.mpr (Nat.lt_succ_of_le h.length_le), (combs_mem _ xs l).mpr ⟨h, rfl⟩⟩
theorem combs_ltT : ∀ (r : Nat) (xs : List Str), Rs xs → (combs r xs).Pairwise (fun a b => lexT a b = true)
  | 0, xs, _ => by
    have e : combs 0 xs = [[]] := by cases xs <;> rfl
    rw [e]
    exact List.pairwise_singleton _ _
  | r + 1, [], _ => List.Pairwise.nil
  | r + 1, x :: xs, h => by
    obtain ⟨h1, h2⟩ := List.pairwise_cons.mp h
    show ((combs r xs).map (x :: ·) ++ combs (r + 1) xs).Pairwise _
    refine List.pairwise_append.mpr ⟨List.pairwise_map.mpr ((combs_ltT r xs h2).imp fun {a b} z => ?_), combs_ltT (r + 1) xs h2, fun a ha b hb => ?_⟩
    · unfold lexT
      rw [if_pos rfl]
      exact z
    · obtain ⟨a', _, ea⟩ := List.mem_map.mp ha
      obtain ⟨sb, lb⟩ := (combs_mem (r + 1) xs b).mp hb
      cases b with
      | nil => cases lb
      | cons y b =>
        rw [← ea]
        have lt := h1 y (sb.subset List.mem_cons_self)
        unfold lexT
        rw [if_neg (fun e => by rw [e, ltS_irr] at lt; cases lt)]
        exact lt
def kT (s : List Str) : NT := ((s.length : Nat), s)
theorem choicesT_lex {xs : List Str} (h : Rs xs) : (choicesT xs).Pairwise fun a b => lexN (kT a) (kT b) = true := by
  unfold choicesT
  have key : ∀ L : List Nat, L.Pairwise (· < ·) → (L.flatMap fun k => combs k xs).Pairwise fun a b => lexN (kT a) (kT b) = true := by
    intro L
    induction L with
    | nil => exact fun _ => List.Pairwise.nil
    | cons k L ih =>
      intro hl
      obtain ⟨h1, h2⟩ := List.pairwise_cons.mp hl
      rw [List.flatMap_cons]
      refine List.pairwise_append.mpr ⟨?_, ih h2, fun a ha b hb => ?_⟩
      · refine List.Pairwise.imp_of_mem (fun {a b} ha hb z => ?_) (combs_ltT k xs h)
        have la := ((combs_mem k xs a).mp ha).2
        have lb := ((combs_mem k xs b).mp hb).2
        unfold lexN kT
        rw [if_pos (by show (a.length : Int) = b.length; omega)]
        exact z
      · obtain ⟨j, hj, hb⟩ := List.mem_flatMap.mp hb
        have lt := h1 j hj
        have la := ((combs_mem k xs a).mp ha).2
        have lb := ((combs_mem j xs b).mp hb).2
        unfold lexN kT
        rw [if_neg (by show ¬ (a.length : Int) = b.length; omega)]
        exact decide_eq_true (by show (a.length : Int) < b.length; omega)
  exact key _ List.pairwise_lt_range
/-- all sets, sorted by their size and texts -/
theorem setsT_sorted {xs : List Str} {ys : List NT} (h : Rs xs) (so : SrtO.Srtd (fun v u => lexN v u) ys) (pm : ys.Perm ((subsS [[]] xs).map kT)) : ys = (choicesT xs).map kT := by
  have cl := choicesT_lex h
  have cs : SrtO.Srtd (fun v u => lexN v u) ((choicesT xs).map kT) := List.pairwise_map.mpr (cl.imp fun z => lexN_asym z)
  have cn : ((choicesT xs).map kT).Nodup := List.pairwise_map.mpr (cl.imp fun {a b} z e => by rw [e, lexN_irr] at z; cases z)
  have sn : ((subsS [[]] xs).map kT).Nodup := List.pairwise_map.mpr ((subsS_nd h.nodup).imp fun z e => z (congrArg Prod.snd e))
  refine srtdN_uniq so cs (pm.trans ((List.perm_ext_iff_of_nodup sn cn).mpr fun x => ?_))
  rw [List.mem_map, List.mem_map]
  exact ⟨fun ⟨s, hs, e⟩ => ⟨s, (choicesT_mem _ _).mpr ((subsS_mem _ _).mp hs), e⟩, fun ⟨s, hs, e⟩ => ⟨s, (subsS_mem _ _).mpr ((choicesT_mem _ _).mp hs), e⟩⟩
section
variable {X : Cx} {K : PySem.W.Frag}
theorem call_len_seqK (hK : X.K = K := by rfl) : CallR X (.builtin "len") (fun xs H Q => ∃ p ys, xs = [.ref p] ∧ (SqL K H p ys ∨ SqT K H p ys) ∧ Q (.int ys.length) H) := by
  subst hK
  exact call_len_seq
end
section
variable {X : Cx} {K : PySem.W.Frag}
theorem op_eqDK (hu : X.A.units + 64 < cLine) (hK : X.K = K := by rfl) : OpR X (compareOp .Eq) (rEqD K) := by
  subst hK
  exact op_eqD hu
end
/-! ### where the inner ones stand in the text -/
theorem blkOk_sc {N sN : List Str} {sc scope : Scope} {own : List (Str × Nat)} (sc' : Scope) (e : sc = sc') (eN : N = sN) (h : blkC sN sc' scope own = true) : BlkOk N sc scope own := by
  rw [e, eN]
  exact blkOk_by h
/-- the scope of a comprehension as its block has it -/
def relS (sc outer : Scope) : Scope := { sc with names := sc.names.map fun (n, k) => if (k == NameKind.free && outer.kind == .function && outer.names.lookup n == some .cell) then (n, NameKind.cell) else (n, k) }
def eCmpL : Expr → Expr
  | .Compare l _ _ _ => l
  | e => e
def sIfT : Stmt → Expr
  | .If t _ _ _ => t
  | _ => .Constant .none 0 ⟨0, 0, 0, 0⟩
def sForB : Stmt → List Stmt
  | .For _ _ b _ _ => b
  | _ => []
def sSetV : Stmt → Expr
  | .Assign _ v _ => v
  | _ => .Constant .none 0 ⟨0, 0, 0, 0⟩
def eLcS : Expr → Scope
  | .ListComp _ _ s _ => s
  | _ => ⟨.function, [], false, false, []⟩
def stAt (l : List Stmt) (i : Nat) : Stmt := l.getD i (.Pass ⟨0, 0, 0, 0⟩)
theorem lD_ex {S : Addr → Prop} {H : Hp} {x : V} {s : List Str} (h : Dn S H x (lD s)) : ∃ c, x = .ref c ∧ ¬ S c ∧ H c = some (.lst (s.map V.str)) := by
  obtain ⟨c, ys, rfl, ns, e, h⟩ := h.lst_ex
  have q : ys = s.map V.str := DnA.strs_eq (xs := s) h
  rw [q] at e
  exact ⟨c, rfl, ns, e⟩
theorem lD_in {S : Addr → Prop} {H : Hp} {c : Addr} {s : List Str} (ns : ¬ S c) (h : H c = some (.lst (s.map V.str))) : Dn S H (.ref c) (lD s) := .lst ns h (DnA.strs s)
abbrev nD (s : List Str) : PyData := .tuple [.int (s.length : Nat), lD s]
theorem nD_ex {S : Addr → Prop} {H : Hp} {x : V} {s : List Str} (h : Dn S H x (nD s)) : ∃ t b, x = .ref t ∧ ¬ S b ∧ H t = some (.tup [.int (s.length : Nat), .ref b]) ∧ H b = some (.lst (s.map V.str)) := by
  obtain ⟨t, xs, rfl, ns, e, h⟩ := h.tup_ex
  cases h with
  | cons h1 h2 =>
    cases h2 with
    | cons h3 h4 =>
      cases h4
      obtain ⟨c, rfl, nc, ac⟩ := lD_ex h3
      cases h1
      exact ⟨t, c, rfl, nc, e, ac⟩
theorem nD_num {S : Addr → Prop} {H : Hp} {x : V} {s : List Str} (h : Dn S H x (nD s)) : NumV H x (kT s) := by
  obtain ⟨t, b, e, _, h1, h2⟩ := nD_ex h
  exact ⟨t, b, e, h1, h2, rfl⟩
theorem nD_keys {S : Addr → Prop} {H : Hp} : ∀ {xs : List V} {L : List (List Str)}, DnA S H xs (L.map nD) → xs.map (keyN H) = L.map kT ∧ ∀ x ∈ xs, ∃ s, Dn S H x (nD s) ∧ keyN H x = kT s
  | _, [], h => by
    cases h
    exact ⟨rfl, fun x z => nomatch z⟩
  | _, s :: L, h => by
    cases h with
    | cons h t =>
      obtain ⟨i1, i2⟩ := nD_keys t
      have e := (nD_num h).key
      refine ⟨by rw [List.map_cons, List.map_cons, i1, e], fun x hx => ?_⟩
      rcases List.mem_cons.mp hx with z | z
      · rw [z]
        exact ⟨s, h, e⟩
      · exact i2 x z
def spSets : Sp := fun vs H Q _ => ∃ (a : Addr) (hs : List Str), vs = [.ref a] ∧ H a = some (.lst (hs.map V.str)) ∧ Rs hs ∧ hs.length ≤ 7 ∧ ∀ p xs H', Kp N0 H H' → H' p = some (.lst xs) → DnA N0 H' xs ((choicesT hs).map lD) → Q (.ref p) H'
/-! ### what is due -/
theorem combs_full : ∀ xs : List Str, combs xs.length xs = [xs]
  | [] => rfl
  | x :: xs => by
    show (combs xs.length xs).map (x :: ·) ++ combs (xs.length + 1) xs = [x :: xs]
    rw [combs_full xs]
    have e : combs (xs.length + 1) xs = [] := by
      cases q : combs (xs.length + 1) xs with
      | nil => rfl
      | cons y l =>
        have z := (combs_mem (xs.length + 1) xs y).mp (by rw [q]; exact List.mem_cons_self)
        have := z.1.length_le
        omega
    rw [e]
    rfl
theorem choicesT_eq (xs : List Str) : choicesT xs = fewerM xs ++ [xs] := by
  unfold choicesT fewerM
  rw [List.range_succ, List.flatMap_append]
  congr 1
  show combs xs.length xs ++ [] = _
  rw [List.append_nil, combs_full]
def foundD (rs : List Row) (ps : List P2) (nm m : Str) : PyData := if hideF rs ps nm m = [] then lD (aloneM (headsM rs m) (osF rs ps nm)) else .tuple [.str "NotFound", .str (leastS (hideF rs ps nm m))]
def dueF (rs : List Row) (ps : List P2) (nm m : Str) : PyData := (((choicesT (headsM rs m)).find? (lackedM (osF rs ps nm))).map lD).getD (.tuple [.str "NotFound", .str (leastS (hideF rs ps nm m))])
theorem lacked_hide (rs : List Row) (ps : List P2) (nm m : Str) : lackedM (osF rs ps nm) (headsM rs m) = decide (hideF rs ps nm m = []) := by
  unfold lackedM osF hideF
  rw [Bool.eq_iff_iff, decide_eq_true_eq, Bool.not_eq_true', List.map_eq_nil_iff, List.filter_eq_nil_iff, List.any_eq_false]
  constructor
  · intro h p hp
    exact h _ (List.mem_map.mpr ⟨p, hp, rfl⟩)
  · intro h o ho
    obtain ⟨p, hp, e⟩ := List.mem_map.mp ho
    rw [← e]
    exact h p hp
theorem lacked_mono {oss : List (List Str)} {s hs : List Str} (h : ∀ x ∈ s, x ∈ hs) (l : lackedM oss s = true) : lackedM oss hs = true := by
  unfold lackedM at l ⊢
  rw [Bool.not_eq_true', List.any_eq_false] at l ⊢
  intro o ho c
  refine l o ho ?_
  rw [List.all_eq_true] at c ⊢
  exact fun x hx => c x (h x hx)
theorem due_found (rs : List Row) (ps : List P2) (nm m : Str) : dueF rs ps nm m = foundD rs ps nm m := by
  unfold dueF foundD
  rw [choicesT_eq, List.find?_append]
  have lh := lacked_hide rs ps nm m
  by_cases e : hideF rs ps nm m = []
  · rw [if_pos e]
    rw [decide_eq_true e] at lh
    have z : ([headsM rs m]).find? (lackedM (osF rs ps nm)) = some (headsM rs m) := by rw [List.find?_cons, lh]
    rw [z]
    unfold aloneM
    cases (fewerM (headsM rs m)).find? (lackedM (osF rs ps nm)) <;> rfl
  · rw [if_neg e]
    rw [decide_eq_false e] at lh
    have z : ([headsM rs m]).find? (lackedM (osF rs ps nm)) = none := by rw [List.find?_cons, lh]; rfl
    have y : (fewerM (headsM rs m)).find? (lackedM (osF rs ps nm)) = none := List.find?_eq_none.mpr fun s hs c => by
      have sm : s ∈ choicesT (headsM rs m) := by
        rw [choicesT_eq]
        exact List.mem_append_left _ hs
      have w := lacked_mono (fun x hx => ((choicesT_mem _ _).mp sm).subset hx) c
      rw [lh] at w
      cases w
    rw [y, z]
    rfl
def spDue05 : Sp := fun vs H Q _ => ∃ (v u : V) (rs : List Row) (ps : List P2) (nm m : Str), vs = [v, u, .str nm] ∧ Dn N0 H v (ruleD rs) ∧ Dn N0 H u (papersD ps) ∧ GoodR rs ∧ GoodP ps ∧ (nm, m) ∈ ps ∧ ∀ x H', Kp N0 H H' → Dn N0 H' x (dueF rs ps nm m) → Q x H'
theorem heads_rule {rs : List Row} {m x : Str} (h : x ∈ headsM rs m) : x ∈ ruleHeadsM rs := by
  have z := (riseS_mem _ _).mp h
  refine (riseS_mem _ _).mpr ?_
  unfold turnM at z
  by_cases e : (heldM rs m).isEmpty = true
  · rw [if_pos e] at z
    exact List.mem_append_right _ z
  · rw [if_neg e] at z
    unfold heldM at z
    obtain ⟨r, hr, e2⟩ := List.mem_map.mp z
    exact List.mem_append_left _ (List.mem_map.mpr ⟨r, (List.mem_filter.mp hr).1, e2⟩)
theorem headsM_rs (rs : List Row) (m : Str) : Rs (headsM rs m) := riseS_rs _
theorem headsM7 {rs : List Row} (g : GoodR rs) (m : Str) : (headsM rs m).length ≤ 7 := Nat.le_trans (nodup_le (headsM_rs rs m).nodup fun x hx => heads_rule hx) (heads7 g)
theorem headsM_ok {rs : List Row} (g : GoodR rs) {m x : Str} (h : x ∈ headsM rs m) : PyData.strOk x = true := ruleHeads_ok g x (heads_rule h)
def mOf (ps : List P2) (n : Str) : Str := ((ps.find? fun p => decide (p.1 = n)).map (·.2)).getD ""
theorem mOf_at {ps : List P2} (nd : (ps.map (·.1)).Nodup) {p : P2} (h : p ∈ ps) : mOf ps p.1 = p.2 := by
  induction ps with
  | nil => cases h
  | cons q ps ih =>
    rw [List.map_cons] at nd
    obtain ⟨n1, n2⟩ := List.nodup_cons.mp nd
    unfold mOf
    rcases List.mem_cons.mp h with e | e
    · subst e
      rw [List.find?_cons, decide_eq_true rfl]
      rfl
    · have ne : ¬ q.1 = p.1 := fun z => n1 (List.mem_map.mpr ⟨p, e, z.symm⟩)
      rw [List.find?_cons, decide_eq_false ne]
      exact ih n2 e
/-- who, of some names, has all of some heads -/
def withAll (rs : List Row) (ps : List P2) (s : List Str) (n : Str) : Bool := hasA (headsM rs (mOf ps n)) s
theorem all_filter (o s : List Str) : (s.filter fun h => !decide (h ∈ o)).isEmpty = hasA o s := by
  unfold hasA
  rw [Bool.eq_iff_iff, List.isEmpty_iff, List.filter_eq_nil_iff, List.all_eq_true]
  exact ⟨fun h x hx => by simpa using h x hx, fun h x hx => by simpa using h x hx⟩
theorem with_names {rs : List Row} {ps : List P2} {nm : Str} (nd : (ps.map (·.1)).Nodup) {ys : List Str} (pm : ys.Perm ((othP ps nm).map (·.1))) (s : List Str) : (ys.filter (withAll rs ps s)).isEmpty = lackedM (osF rs ps nm) s := by
  unfold lackedM osF
  rw [Bool.eq_iff_iff, List.isEmpty_iff, List.filter_eq_nil_iff, Bool.not_eq_true', List.any_eq_false]
  constructor
  · intro h o ho
    obtain ⟨p, hp, e⟩ := List.mem_map.mp ho
    have z := h p.1 (pm.mem_iff.mpr (List.mem_map.mpr ⟨p, hp, rfl⟩))
    unfold withAll at z
    rw [mOf_at nd ((oth_sub ps nm).subset hp)] at z
    rw [← e]
    exact z
  · intro h n hn
    obtain ⟨p, hp, e⟩ := List.mem_map.mp (pm.mem_iff.mp hn)
    have z := h _ (List.mem_map.mpr ⟨p, hp, rfl⟩)
    unfold withAll
    rw [← e, mOf_at nd ((oth_sub ps nm).subset hp)]
    exact z
theorem first_least {l : List Str} (h : Rs l) {x : Str} {r : List Str} (e : l = x :: r) : x = leastS l := by
  unfold leastS
  rw [← riseS_of h (fun _ => Iff.rfl), e]
  rfl
theorem leastS_congr {a b : List Str} (h : ∀ x, x ∈ a ↔ x ∈ b) : leastS a = leastS b := by
  unfold leastS
  rw [riseS_congr h]
theorem with_hide {rs : List Row} {ps : List P2} {nm m : Str} (nd : (ps.map (·.1)).Nodup) {ys : List Str} (pm : ys.Perm ((othP ps nm).map (·.1))) (x : Str) : x ∈ ys.filter (withAll rs ps (headsM rs m)) ↔ x ∈ hideF rs ps nm m := by
  unfold hideF
  rw [List.mem_filter, List.mem_map, pm.mem_iff, List.mem_map]
  constructor
  · rintro ⟨⟨p, hp, e⟩, h⟩
    refine ⟨p, List.mem_filter.mpr ⟨hp, ?_⟩, e⟩
    unfold withAll at h
    rw [← e, mOf_at nd ((oth_sub ps nm).subset hp)] at h
    exact h
  · rintro ⟨p, hp, e⟩
    obtain ⟨h1, h2⟩ := List.mem_filter.mp hp
    refine ⟨⟨p, h1, e⟩, ?_⟩
    unfold withAll
    rw [← e, mOf_at nd ((oth_sub ps nm).subset h1)]
    exact h2
end Fc
set_option maxHeartbeats 4000000
/-! The class of what is handled. -/
namespace Fc
open PySem PySem.Spec PyProof.Rows L2
section
variable {X : Cx}
theorem bools_plain (bs : List Bool) : PyData.plainAll (bs.map PyData.bool) = true := by
  induction bs with
  | nil => rfl
  | cons b bs ih =>
    show (PyData.plain (.bool b) && PyData.plainAll (bs.map PyData.bool)) = true
    rw [ih]
    rfl
theorem bools_deep (bs : List Bool) : PyData.depthAll (bs.map PyData.bool) ≤ 1 := by
  induction bs with
  | nil => simp [PyData.depthAll]
  | cons y l ih => simp only [List.map_cons, PyData.depthAll, PyData.depth]; omega
theorem dp_bools {K : PySem.W.Frag} {H : Hp} : ∀ bs : List Bool, DpAll K H (bs.map V.bl) (bs.map PyData.bool)
  | [] => .nil
  | b :: bs => .cons (.bl b) (dp_bools bs)
/-- l.count(True) of truth values -/
def rCountB (K : PySem.W.Frag) : V → List V → Hp → VK → Prop := fun x xs H Q => ∃ (a : Addr) (bs : List Bool), x = .ref a ∧ xs = [.bl true] ∧ SqL K H a (bs.map V.bl) ∧ Q (.int (((bs.map PyData.bool).countP fun y => PyData.eqv y (.bool true) : Nat) : Int)) H
theorem mt_countB (hu : X.A.units + 65 < cLine) : MtR X "list.count" (rCountB X.K) := by
  intro pins s σ H x xs v us Q I rx rxs h
  obtain ⟨a, bs, rfl, rfl, hs, q⟩ := h
  obtain rfl : v = Value.ref a := rx
  cases rxs with
  | cons ry rt =>
    cases rt
    obtain rfl := ry
    obtain ⟨its, rv, pl, hlen⟩ := I.list hs
    obtain ⟨as, r1⟩ := Dp.readsAll I (bs.map PyData.bool) _ its (dp_bools bs) rv
    have hd := bools_deep bs
    exact SeqAt.count_list_data pl.isList r1 (Reads.bool true) (bools_plain bs) rfl (by omega) ⟨.int _, H, I.tok _, ⟨_, rfl⟩, q⟩
end
/-! ### which of the eight -/
def kindsB (i : Nat) : List Bool := (List.range 8).map fun j => decide (j = i)
def wordsB : List Str := ["BadRule", "BadPapers", "BadCabinet", "BadMarks", "NoPaper", "NoHead", "NotFound", "BadText"]
theorem kinds_count : ∀ i : Fin 8, ((kindsB i).map PyData.bool).countP (fun y => PyData.eqv y (.bool true)) = 1 := by decide +kernel
theorem kinds_at : ∀ i : Fin 8, ((kindsB i).map V.bl)[(i : Nat)]? = some (.bl true) := by decide +kernel
theorem kinds_no : ∀ i : Fin 8, ∀ m : Fin 8, m < i → ((kindsB i).map V.bl)[(m : Nat)]? = some (.bl false) := by decide +kernel
theorem words_at : ∀ i : Fin 8, (wordsB.map V.str)[(i : Nat)]? = some (.str (wordsB.getD i "")) := by decide +kernel
/-- what the written part says of the eight classes, asked of one of the i-th -/
structure Kinds (K : PySem.W.Frag) (D : Addr) (i : Nat) : Prop where
  ask : AskE K D
  kit : ∀ j, j < 8 → PySem.W.kitOne K (.ref D) (.ref (He.ga K (wordsB.getD j ""))) = some (decide (j = i))
  val : PySem.W.kitOne K (.ref D) (.type "ValueError") = some true
def spClassE (K : PySem.W.Frag) : Addr × Obj → Sp := fun z vs H Q _ => ∃ (D : Addr) (i : Fin 8), Kinds K D i ∧ vs = [.ref z.1] ∧ z.2.cls = .ref D ∧ (∃ ws, z.2.data = .fields ws) ∧ DictOk H z.2 ∧ ∀ H', Kp N0 H H' → Q (.str (wordsB.getD i "")) H'
theorem DictOk.kp {H H' : Hp} {o : Obj} (h : DictOk H o) (k : Kp N0 H H') : DictOk H' o := by
  rcases h with h | ⟨dd, fs, h1, h2⟩
  · exact .inl h
  · obtain ⟨u, hu, c⟩ := k dd _ h2
    rcases c with rfl | ⟨c, _⟩ | ⟨⟨ps, c, _⟩, _⟩
    · exact .inr ⟨dd, fs, h1, hu⟩
    · exact c.elim
    · cases c
/-- what is said of a class whose refusal is caught and asked for its field -/
structure CaughtC (K : PySem.W.Frag) (i : Nat) (x fld : Str) : Prop where
  kinds : Kinds K (He.ga K x) i
  xf : XfC K (He.ga K x)
  no : PySem.W.findIn K (.ref (He.ga K x)) fld = some none
  exm : PySem.W.exmOne K (.ref (He.ga K x)) (.ref (He.ga K "FileError")) = some true
/-- the class of what stands in slot i, asked -/
def tClassE (K : PySem.W.Frag) (i : Nat) (a : Addr) (cls : Value) (d : Option Addr) : TE := fun σ H Q => σ[i]? = some (some (.ref a)) ∧ ∃ (D : Addr) (j : Fin 8), Kinds K D j ∧ cls = .ref D ∧ (d = none ∨ ∃ (dd : Addr) (fs : List (Str × V)), d = some dd ∧ H dd = some (.xd fs)) ∧ ∀ H', Kp N0 H H' → Q (.str (wordsB.getD j "")) H'
theorem pe_classE {X : Cx} {a : Addr} {oe : Obj} {cls : Value} {d : Option Addr} {pn : List (Addr × Obj)} {j i : Nat} {p pos q : Pos} {n : Str} (c : FnE X.prog X.w X.K X.mg X.base 1 "_law_class" (spClassE X.K)) (hr : Room j X.A) (hk : 1 ≤ j) (hg : Gl X "_law_class") (hz : L2N.Zn cls d oe) (hf : ∃ vs, oe.data = .fields vs)
    (hv : PE (X.suite a ((a, oe) :: pn)) (.Name n q) (tVar i)) (hst : starEach [.Name n q] X.env = (false, eval (.Name n q) X.env) :: starEach [] X.env := by rfl) :
    PE (X.suite a ((a, oe) :: pn)) (.Call (.Name "_law_class" p) [.Name n q] [] pos) (tClassE X.K i a cls d) := by
  obtain ⟨vs, hv2⟩ := hf
  have hot : L2H.Hot1 (X.suite a ((a, oe) :: pn)).A (a, oe) := ⟨rfl, vs, hv2, hz.2.2 vs hv2⟩
  have z := pe_cE (X := X.suite a ((a, oe) :: pn)) (z := (a, oe)) (p := p) (pos := pos) c (show L2H.RoomH j (X.A.mark (some (.ref a))) from ⟨hr.dp, hr.un⟩) hk hot List.mem_cons_self hg (pa_cons hv pa_nil hst) (by decide) hst (by rfl)
  refine ⟨fun pins s σ H Q I h => z.run pins s σ H Q I ?_⟩
  obtain ⟨e, D, w, kd, ec, hd, k⟩ := h
  refine ⟨_, e, D, w, kd, rfl, hz.1.trans ec, ⟨vs, hv2⟩, ?_, k⟩
  rcases hd with hd | ⟨dd, fs, hd, hx⟩
  · exact .inl (hz.2.1.trans hd)
  · exact .inr ⟨dd, fs, hz.2.1.trans hd, hx⟩
def spTold05 (T : List Addr) : Sp := fun vs H Q _ => ∃ (v u : V) (rs : List Row) (ps : List P2) (nm m : Str), vs = [v, u, .str nm] ∧ Dn N0 H v (ruleD rs) ∧ Dn N0 H u (papersD ps) ∧ GoodR rs ∧ GoodP ps ∧ (nm, m) ∈ ps ∧ Tbs T H ∧
  (hideF rs ps nm m = [] → ∀ p H', H p = none → Kp N0 H H' → H' p = some (.lst ((aloneM (headsM rs m) (osF rs ps nm)).map V.str)) → Q (.ref p) H') ∧
  (hideF rs ps nm m ≠ [] → ∀ t H', Kp N0 H H' → H' t = some (.tup [.str "NotFound", .str (leastS (hideF rs ps nm m))]) → Q (.ref t) H')
theorem takes_never {X : Cx} : L2N.Takes X (fun _ _ _ _ => False) := fun u s' x => by
  obtain ⟨_, _, _, _, _, _, _, _, _, _, _, _, _, _, _, _, w⟩ := x
  exact w.elim
theorem alone_sub (hs : List Str) (oss : List (List Str)) : (aloneM hs oss).Sublist hs := by
  unfold aloneM
  cases e : (fewerM hs).find? (lackedM oss) with
  | none => exact List.Sublist.refl _
  | some s =>
    have z := List.mem_of_find?_eq_some e
    unfold fewerM at z
    obtain ⟨k, _, h⟩ := List.mem_flatMap.mp z
    exact ((combs_mem k hs s).mp h).1
theorem found_small {rs : List Row} {ps : List P2} {nm m : Str} (g : GoodR rs) (q : GoodP ps) : PyData.depth (foundD rs ps nm m) < 4 ∧ PyData.weight (foundD rs ps nm m) ≤ 1000000 := by
  unfold foundD
  have dz : ∀ l : List Str, PyData.depthAll (l.map PyData.str) ≤ 1 := fun l => by
    induction l with
    | nil => simp [PyData.depthAll]
    | cons y l ih => simp only [List.map_cons, PyData.depthAll, PyData.depth]; omega
  by_cases e : hideF rs ps nm m = []
  · rw [if_pos e]
    have sub := alone_sub (headsM rs m) (osF rs ps nm)
    generalize aloneM (headsM rs m) (osF rs ps nm) = l at sub
    have l7 := Nat.le_trans sub.length_le (headsM7 g m)
    have w := weightS l fun z hz => by
      have c := turnM_small g m z ((riseS_mem _ _).mp (sub.subset hz))
      have e : z.length = z.cps.size := rfl
      omega
    have d := dz l
    refine ⟨?_, ?_⟩
    · simp only [PyData.depth]
      omega
    · show PyData.weightAll _ ≤ _
      omega
  · rw [if_neg e]
    have z := leastS_mem e
    generalize leastS (hideF rs ps nm m) = s at z
    unfold hideF at z
    obtain ⟨p, hp, es⟩ := List.mem_map.mp z
    have lw := isWordM_len (q.ok p ((oth_sub ps nm).subset (List.mem_filter.mp hp).1)).1
    have w := weightS ["NotFound", s] fun z hz => by
      rcases List.mem_cons.mp hz with y | y
      · rw [y]
        decide
      · rw [List.mem_singleton.mp y, ← es]
        have e : p.1.length = p.1.cps.size := rfl
        omega
    have d := dz ["NotFound", s]
    refine ⟨?_, ?_⟩
    · show PyData.depthAll _ + 1 < 4
      have d' : PyData.depthAll [PyData.str "NotFound", PyData.str s] ≤ 1 := d
      omega
    · show PyData.weightAll _ ≤ _
      have w' : PyData.weightAll [PyData.str "NotFound", PyData.str s] ≤ 1001 * 2 := w
      omega
end Fc
set_option maxHeartbeats 4000000
/-! What the head says of classes that refuse. -/
namespace Fc
open PySem PySem.Spec PyProof.Rows L2
/-! ### the def within the class, taken out of the text -/
def clsDefs : Stmt → List Stmt
  | .ClassDef (body := b) .. => b
  | _ => []
def noPos : Pos := ⟨0, 0, 0, 0⟩
def iniOf (c : Str) (q : Str) (st : Stmt) : IniD := match defBody st with
  | [.Expr (.Call (.Attribute (.Call (.Name _ p0) [] [] p1) _ p2) [e1] [] p3) p4, .Assign [.Attribute (.Name _ p5) fld p6] (.Name par p7) p8] => ⟨c, par, fld, q, defArgs st, defScope st, e1, [p0, p1, p2, p3, p4, p5, p6, p7, p8]⟩
  | _ => ⟨c, c, c, q, defArgs st, defScope st, .Constant .none 0 noPos, []⟩
/-! ### what is seen of it -/
abbrev FnI : Type := Option (Str × Arguments × FuncBody × Scope × Addr × List Str × Addr × Value)
def iniA (K : PySem.W.Frag) (x : Str) : Addr := He.ma K (He.ga K x) "__init__"
def iniW (K : PySem.W.Frag) (x : Str) : FnI := match K.lookup (iniA K x) with
  | some ⟨_, _, .func fd, _⟩ => some (fd.qualname, fd.params, fd.body, fd.scope, fd.globals, fd.closure.map (·.1), fd.builtins, fd.defaults)
  | _ => none
def IniD.val (d : IniD) : FnI := some (d.qual, d.params, .stmts d.body, d.scope, mainGlobals, [("__class__" : Str)], builtinsNs, .none)
/-- the object at C: an own class over ValueError -/
def oexB (K : PySem.W.Frag) (C : Addr) : Bool := match K.lookup C with
  | some ⟨.type t, _, .cls cd, sl⟩ => t == "type" && (match cd.mro, sl.toList with
    | .ref C' :: bm, [_, _, _, _, some (.builtin n), _] => C' == C && (n == "ValueError.__new__" && (!cd.hasDel && (cd.hasDict && PySem.HandSPX.refsVE bm)))
    | _, _ => false)
  | _ => false
def cellB (K : PySem.W.Frag) (C : Addr) (cl : List (Str × Addr)) : Bool := match cl with
  | [(_, cc)] => (match K.lookup cc with
    | some ⟨_, _, .cell (some (.ref D)), _⟩ => D == C
    | _ => false)
  | _ => false
def codeB (K : PySem.W.Frag) (file : Str) (cd : Value) : Bool := match cd with
  | .ref c => (match K.lookup c with
    | some ⟨_, _, .fields vs, _⟩ => (match (vs[2]? : Option Value) with
      | some (Value.str fi _) => file == fi
      | _ => false)
    | _ => false)
  | _ => false
def fnB (K : PySem.W.Frag) (file : Str) (C : Addr) (f : Addr) (q : Str) : Bool := match K.lookup f with
  | some ⟨_, _, .func fd, _⟩ => PySem.W.codeIn K fd.code q && (codeB K file fd.code && cellB K C fd.closure)
  | _ => false
def iniB (K : PySem.W.Frag) (file : Str) (d : IniD) : Bool :=
  oexB K (He.ga K d.cls) && (He.eqO (PySem.W.findIn K (.ref (He.ga K d.cls)) "__setattr__") (some (some (.builtin "object.__setattr__"))) && (decide (PySem.W.subIn K (.ref (He.ga K d.cls)) (.type "BaseException") = some true) && (decide (PySem.W.typeIn K (.ref (He.ga K d.cls)) = some (.type "type")) && (PySem.W.keepIn K (.ref (He.ga K d.cls)) &&
  (He.eqO (PySem.W.findIn K (.ref (He.ga K d.cls)) "__init__") (some (some (.ref (iniA K d.cls)))) && (decide (PySem.W.typeIn K (.ref (iniA K d.cls)) = some (.type "function")) && (fnB K file (He.ga K d.cls) (iniA K d.cls) d.qual && ((PySem.W.clsIn K (He.ga K d.cls)).isSome && (decide (PySem.W.mroIn K (He.ga K d.cls) (.ref (He.ga K d.cls)) = some true) &&
  (He.eqO (PySem.W.nsIn K cStatics "thirdparty.any") (some none) && (He.eqO (PySem.W.ks_superIn K (He.ga K d.cls) (He.ga K d.cls) "__init__") (some (some (.builtin veI))) && (decide (PySem.W.subIn K (.ref (He.ga K d.cls)) (.type "ValueError") = some true) && He.eqO (PySem.W.findIn K (.ref (He.ga K d.cls)) d.fld) (some none)))))))))))))
section
variable {K : PySem.W.Frag}
theorem oexB_ok {C : Addr} (h : oexB K C = true) : ∃ nm q N bs bm sn sub ab col dd k0 k1 k2 k3 k5, K.lookup C = some (excClassObj nm q C N bs bm true sn sub ab col dd k0 k1 k2 k3 k5 "ValueError.__new__") ∧ PySem.HandSPX.refsVE bm = true := by
  unfold oexB at h
  split at h
  · rename_i t dd cd sl ho
    obtain ⟨ht, h⟩ := He.ba h
    split at h
    · rename_i C' bm k0 k1 k2 k3 n k5 hm hs
      obtain ⟨h1, h⟩ := He.ba h
      obtain ⟨h2, h⟩ := He.ba h
      obtain ⟨h3, h⟩ := He.ba h
      obtain ⟨h4, h5⟩ := He.ba h
      have e1 : C' = C := by simpa using h1
      have e2 : n = "ValueError.__new__" := by simpa using h2
      have e3 : t = "type" := by simpa using ht
      subst e1 e2 e3
      obtain ⟨nm, bs, mro, ns, qn, hd, sn, sub, ab, col, del⟩ := cd
      dsimp only at hm h3 h4
      have e4 : del = false := by simpa using h3
      subst hm e4 h4
      obtain ⟨l⟩ := sl
      have e5 : l = [k0, k1, k2, k3, some (.builtin "ValueError.__new__"), k5] := hs
      subst e5
      exact ⟨nm, qn, ns, bs, bm, sn, sub, ab, col, dd, k0, k1, k2, k3, k5, ho, h5⟩
    · cases h
  · cases h
theorem cellB_ok {C : Addr} {cl : List (Str × Addr)} (h : cellB K C cl = true) : ∃ (n : Str) (cc : Addr) (oc : Value) (od : Option Addr) (osl : Array (Option Value)), cl = [(n, cc)] ∧ K.lookup cc = some ⟨oc, od, .cell (some (.ref C)), osl⟩ := by
  unfold cellB at h
  split at h
  · rename_i n cc
    split at h
    · rename_i oc od D osl ho
      have e : D = C := by simpa using h
      subst e
      exact ⟨n, cc, oc, od, osl, rfl, ho⟩
    · cases h
  · cases h
theorem codeB_ok {file : Str} {cd : Value} (h : codeB K file cd = true) : ∃ (c : Addr) (oc : Value) (od : Option Addr) (vs : Array Value) (osl : Array (Option Value)) (fi : Str) (tf : Tok), cd = .ref c ∧ K.lookup c = some ⟨oc, od, .fields vs, osl⟩ ∧ vs[2]? = some (.str fi tf) ∧ (file == fi) = true := by
  unfold codeB at h
  split at h
  · rename_i c
    split at h
    · rename_i oc od vs osl ho
      split at h
      · rename_i fi tf hv
        exact ⟨c, oc, od, vs, osl, fi, tf, rfl, ho, hv, h⟩
      · cases h
    · cases h
  · cases h
theorem fnB_ok {file : Str} {C f : Addr} {q : Str} (h : fnB K file C f q = true) : ∃ (oc : Value) (od : Option Addr) (fd : FuncData) (osl : Array (Option Value)), K.lookup f = some ⟨oc, od, .func fd, osl⟩ ∧ PySem.W.codeIn K fd.code q = true ∧ codeB K file fd.code = true ∧ cellB K C fd.closure = true := by
  unfold fnB at h
  split at h
  · rename_i oc od fd osl ho
    obtain ⟨h1, h⟩ := He.ba h
    obtain ⟨h2, h3⟩ := He.ba h
    exact ⟨oc, od, fd, osl, ho, h1, h2, h3⟩
  · cases h
/-- what is asked of the text of such a class, whatever the heap -/
structure IniT (d : IniD) : Prop where
  args : ∃ a1 a2 : Arg, d.params = ⟨[], [a1, a2], none, [], [], none, []⟩ ∧ a1.arg = "self" ∧ a2.arg = d.par
  bind : ∀ fd : FuncData, fd.params = d.params → fd.defaults = .none → ∀ us : List Value, us.length = 2 → bindArgs fd ⟨us, []⟩ = pure ([("self" : Str), d.par].zip us)
  scope : NdefX.NScope [("self" : Str), d.par, "__class__"] [("self" : Str), d.par] [("__class__" : Str)] d.scope
  sup : d.scope.names.lookup ("super" : Str) = some .globalImplicit
  msg : Msg d.par d.e1
  db1 : (d.par == ("__debug__" : Str)) = false
  db2 : (d.par == ("__classdict__" : Str)) = false
  ev : ∀ env : Env, ∃ pl : Sem Bool, eval (.Call (.Attribute (.Call (.Name "super" (d.pos 0)) [] [] (d.pos 1)) "__init__" (d.pos 2)) [d.e1] [] (d.pos 3)) env = (do
      let ov ← attributeBase (.Call (.Name "super" (d.pos 0)) [] [] (d.pos 1)) "__init__" env (eval (.Call (.Name "super" (d.pos 0)) [] [] (d.pos 1)) env)
      standAt (d.pos 2).atName
      let (f, first) ← holding [ov] (getMethod ov "__init__" pl)
      callWith (d.pos 3) f first (backTo (d.pos 3) (starEach [d.e1] env)) [])
  sw1 : ∀ env : Env, swapsWith (.Call (.Attribute (.Call (.Name "super" (d.pos 0)) [] [] (d.pos 1)) "__init__" (d.pos 2)) [d.e1] [] (d.pos 3)) none (d.pos 4).line env = pure false
  sw2 : ∀ env : Env, swapsWith (.Name d.par (d.pos 7)) (some (.Attribute (.Name "self" (d.pos 5)) d.fld (d.pos 6))) (d.pos 8).line env = pure false
theorem refC_of {P : Program} {w : World} {mg : Str → Option Value} {base : Heap} {d : IniD} (D : IniT d) (h : iniB K P.main.file d = true) (e : iniW K d.cls = d.val) (gm : mg d.cls = some (.ref (He.ga K d.cls))) (ms : mg "super" = none) (htop : (P.main.scope.names.lookup ("super" : Str)).isSome = false) :
    RefC P w K mg base d.cls d.fld := by
  unfold iniB at h
  obtain ⟨h1, h⟩ := He.ba h
  obtain ⟨h2, h⟩ := He.ba h
  obtain ⟨h3, h⟩ := He.ba h
  obtain ⟨h4, h⟩ := He.ba h
  obtain ⟨h5, h⟩ := He.ba h
  obtain ⟨h6, h⟩ := He.ba h
  obtain ⟨h7, h⟩ := He.ba h
  obtain ⟨h8, h⟩ := He.ba h
  obtain ⟨h9, h⟩ := He.ba h
  obtain ⟨h10, h⟩ := He.ba h
  obtain ⟨h11, h⟩ := He.ba h
  obtain ⟨h12, h⟩ := He.ba h
  obtain ⟨h13, h14⟩ := He.ba h
  have ox : OexC K (He.ga K d.cls) := ⟨oexB_ok h1, He.eqO_ok h2, of_decide_eq_true h3, of_decide_eq_true h4, h5⟩
  obtain ⟨oc, od, fd, osl, lk, c1, c2, c3⟩ := fnB_ok h8
  obtain ⟨n, cc, oc2, od2, osl2, ecl, lkc⟩ := cellB_ok c3
  obtain ⟨cda, oc3, od3, vs, osl3, fi, tf, ecd, lkd, hv, hf⟩ := codeB_ok c2
  obtain ⟨a1, a2, ep, e1, e2⟩ := D.args
  have e' : (some (fd.qualname, fd.params, fd.body, fd.scope, fd.globals, fd.closure.map (·.1), fd.builtins, fd.defaults) : FnI) = some (d.qual, d.params, .stmts d.body, d.scope, mainGlobals, [("__class__" : Str)], builtinsNs, .none) := by
    have z : iniW K d.cls = some (fd.qualname, fd.params, fd.body, fd.scope, fd.globals, fd.closure.map (·.1), fd.builtins, fd.defaults) := by
      unfold iniW
      rw [lk]
    rw [← z]
    exact e
  simp only [Option.some.injEq, Prod.mk.injEq] at e'
  obtain ⟨q1, q2, q3, q4, q5, q6, q7, q8⟩ := e'
  have en : n = ("__class__" : Str) := by
    rw [ecl] at q6
    simpa using q6
  subst en
  rw [ecd] at c1
  have T : SupC K P.main.file (He.ga K d.cls) (iniA K d.cls) cc cda a1 := ⟨ox, ⟨oc, od, fd, osl, lk, by rw [q2, ep]; rfl⟩, ⟨oc3, od3, vs, osl3, fi, tf, lkd, hv, hf⟩, ⟨oc2, od2, osl2, lkc⟩, Option.isSome_iff_exists.mp h9, of_decide_eq_true h10, He.eqO_ok h11, He.eqO_ok h12, of_decide_eq_true h13⟩
  refine ⟨gm, ox, iniA K d.cls, fd, d.par, He.eqO_ok h6, of_decide_eq_true h7, fn_ini T e1 lk q1 q4 q5 ecl q7 q3 ecd c1 D.scope D.sup D.msg (He.eqO_ok h14) ms D.db1 D.db2 htop D.ev D.sw1 D.sw2, ?_⟩
  exact Binds.all fun us hl => D.bind fd q2 q8 us hl
end
/-! ### the texts of the refusals -/
theorem str_short {a b : Str} (h1 : a.length ≤ 5000) (h2 : b.length ≤ 5000) : (a ++ b).length ≤ sizeLine := by
  rw [PySem.Str.length_append, sizeLine_eq]
  omega
theorem app_short {a b : Str} {n k : Nat} (h1 : a.length ≤ n) (h2 : b.length ≤ k) : (a ++ b).length ≤ n + k := by
  rw [PySem.Str.length_append]
  omega
theorem empty_len : (Str.empty : Str).length = 0 := rfl
/-- how the number is told -/
theorem int_short {i : Int} (h : i.natAbs.log2 < 1920) : (PySem.Str.ofString (toString i)).length ≤ 2000 := by
  have e := int_text_length_le (k := 1920) (by decide) h
  rw [PySem.ofString_length]
  omega
theorem msg2 {par : Str} {t : Str} {j : Nat} {q1 q2 q3 q4 : Pos} (ht : t.length ≤ 1000) (h1 : (par == ("__debug__" : Str)) = false) (h2 : (par == ("__classdict__" : Str)) = false) : Msg par (.JoinedStr [.FormattedValue (.Name par q1) (-1) none q2, .Constant (.str t) j q3] q4) := by
  intro X hN hk
  refine ⟨_, pa_cons (pe_joined (PJ.cons (pe_fmt (pe_var (i := 1) hN (.inl hk) h1 h2)) (PJ.cons pe_str PJ.nil))) pa_nil, rfl, fun σ H y hσ sy R hR => ?_⟩
  refine ⟨y, hσ, ?_⟩
  rcases sy with ⟨z, rfl, lz⟩ | ⟨i, rfl, li⟩
  · refine .inl ⟨z, rfl, by rw [sizeLine_eq]; omega, z, rfl, str_short (by rw [empty_len]; omega) (by omega), t, rfl, ?_, ?_⟩
    · exact str_short (Nat.le_trans (app_short (n := 0) (k := 1000) (Nat.le_of_eq empty_len) lz) (by omega)) (by omega)
    · exact hR _ rfl
  · have l := int_short li
    refine .inr ⟨i, rfl, li, _, rfl, str_short (by rw [empty_len]; omega) (by omega), t, rfl, ?_, ?_⟩
    · exact str_short (Nat.le_trans (app_short (n := 0) (k := 2000) (Nat.le_of_eq empty_len) l) (by omega)) (by omega)
    · exact hR _ rfl
theorem msg3 {par : Str} {t t2 : Str} {j j2 : Nat} {q0 q1 q2 q3 q4 : Pos} (ht : t.length ≤ 1000) (ht2 : t2.length ≤ 1000) (h1 : (par == ("__debug__" : Str)) = false) (h2 : (par == ("__classdict__" : Str)) = false) : Msg par (.JoinedStr [.Constant (.str t) j q0, .FormattedValue (.Name par q1) (-1) none q2, .Constant (.str t2) j2 q3] q4) := by
  intro X hN hk
  refine ⟨_, pa_cons (pe_joined (PJ.cons pe_str (PJ.cons (pe_fmt (pe_var (i := 1) hN (.inl hk) h1 h2)) (PJ.cons pe_str PJ.nil)))) pa_nil, rfl, fun σ H y hσ sy R hR => ?_⟩
  have l0 : ((Str.empty : Str) ++ t).length ≤ 1000 := by
    rw [PySem.Str.length_append, empty_len]
    omega
  refine ⟨t, rfl, by rw [sizeLine_eq]; omega, y, hσ, ?_⟩
  rcases sy with ⟨z, rfl, lz⟩ | ⟨i, rfl, li⟩
  · refine .inl ⟨z, rfl, by rw [sizeLine_eq]; omega, z, rfl, str_short (by omega) (by omega), t2, rfl, ?_, ?_⟩
    · exact str_short (Nat.le_trans (app_short l0 lz) (by omega)) (by omega)
    · exact hR _ rfl
  · have l := int_short li
    refine .inr ⟨i, rfl, li, _, rfl, str_short (by omega) (by omega), t2, rfl, ?_, ?_⟩
    · exact str_short (Nat.le_trans (app_short l0 l) (by omega)) (by omega)
    · exact hR _ rfl
/-! ### what is asked of a class whose refusal is caught -/
def askB (K : PySem.W.Frag) (D : Addr) : Bool := (PySem.W.clsIn K D).isSome && (He.eqO (PySem.W.findIn K (.ref D) "__getattribute__") (some (some (.builtin "BaseException.__getattribute__"))) && (He.eqO (PySem.W.findIn K (.ref D) "__getattr__") (some none) && (decide (PySem.W.subIn K (.ref D) (.type "BaseException") = some true) &&
  (He.eqO (PySem.W.findIn K (.ref D) "__class__") (some (some (.builtin "object.__class__"))) && (He.eqO (PySem.W.specialIn K (.builtin "object.__class__") "__get__") (some (some (.builtin "getset_descriptor.__get__"))) && (decide (PySem.W.takesIn K (.builtin "object.__class__") = some true) && decide (PySem.W.mroIn K D (.type "object") = some true)))))))
def kindsOkB (K : PySem.W.Frag) (D : Addr) (i : Nat) : Bool := askB K D && (((List.range 8).all fun j => decide (PySem.W.kitOne K (.ref D) (.ref (He.ga K (wordsB.getD j ""))) = some (decide (j = i)))) && decide (PySem.W.kitOne K (.ref D) (.type "ValueError") = some true))
theorem askB_ok {K : PySem.W.Frag} {D : Addr} (h : askB K D = true) : AskE K D := by
  unfold askB at h
  obtain ⟨h1, h⟩ := He.ba h
  obtain ⟨h2, h⟩ := He.ba h
  obtain ⟨h3, h⟩ := He.ba h
  obtain ⟨h4, h⟩ := He.ba h
  obtain ⟨h5, h⟩ := He.ba h
  obtain ⟨h6, h⟩ := He.ba h
  obtain ⟨h7, h8⟩ := He.ba h
  exact ⟨h1, He.eqO_ok h2, He.eqO_ok h3, of_decide_eq_true h4, He.eqO_ok h5, He.eqO_ok h6, of_decide_eq_true h7, of_decide_eq_true h8⟩
theorem kindsOkB_ok {K : PySem.W.Frag} {D : Addr} {i : Nat} (h : kindsOkB K D i = true) : Kinds K D i := by
  unfold kindsOkB at h
  obtain ⟨h1, h⟩ := He.ba h
  obtain ⟨h2, h3⟩ := He.ba h
  exact ⟨askB_ok h1, fun j hj => of_decide_eq_true (List.all_eq_true.mp h2 j (List.mem_range.mpr hj)), of_decide_eq_true h3⟩
def capB (K : PySem.W.Frag) (i : Nat) (x fld : Str) : Bool := kindsOkB K (He.ga K x) i && (xfB K (He.ga K x) && (He.eqO (PySem.W.findIn K (.ref (He.ga K x)) fld) (some none) && decide (PySem.W.exmOne K (.ref (He.ga K x)) (.ref (He.ga K "FileError")) = some true)))
theorem capB_ok {K : PySem.W.Frag} {i : Nat} {x fld : Str} (h : capB K i x fld = true) : CaughtC K i x fld := by
  unfold capB at h
  obtain ⟨h1, h⟩ := He.ba h
  obtain ⟨h2, h⟩ := He.ba h
  obtain ⟨h3, h4⟩ := He.ba h
  exact ⟨kindsOkB_ok h1, xfB_ok h2, He.eqO_ok h3, of_decide_eq_true h4⟩
/-! ### the hook: the written part bears the statics too -/
def asY (g : Addr → Option Obj) (n : Nat) : List Addr := cStatics :: He.asD g n
abbrev AlY : Type := He.AlX × List FnI
def obsY (n : Nat) (fa : List He.Fa) (fn : List He.DefD) (tf : List He.Defn) (ex : PySem.W.Frag → Bool) (ini : List IniD) (g : Addr → Option Obj) : AlY :=
  ((He.obsT fa fn [] (He.frT g (asY g n)), ex (He.frT g (asY g n)) && He.tabsB g tf (He.frT g (asY g n))), ini.map fun d => iniW (He.frT g (asY g n)) d.cls)
def valY (fn : List He.DefD) (ini : List IniD) (w : World) : AlY := ((He.valT fn [] w, true), ini.map IniD.val)
structure SaysY (fa : List He.Fa) (fn : List He.DefD) (tf : List He.Defn) (ex : PySem.W.Frag → Bool) (ini : List IniD) (w : World) (h : Heap) (K : PySem.W.Frag) : Prop where
  x : He.SaysX fa fn [] tf ex w h K
  i : (ini.map fun d => iniW K d.cls) = ini.map IniD.val
theorem saysY_of {n : Nat} {fa : List He.Fa} {fn : List He.DefD} {tf : List He.Defn} {ex : PySem.W.Frag → Bool} {ini : List IniD} {w : World} {h : Heap} (e : obsY n fa fn tf ex ini h.get? = valY fn ini w) : SaysY fa fn tf ex ini w h (He.frT h.get? (asY h.get? n)) := by
  have e0 := congrArg Prod.fst e
  have e1 : He.obsT fa fn [] (He.frT h.get? (asY h.get? n)) = He.valT fn [] w := congrArg Prod.fst e0
  have e2 : (ex (He.frT h.get? (asY h.get? n)) && He.tabsB h.get? tf (He.frT h.get? (asY h.get? n))) = true := congrArg Prod.snd e0
  obtain ⟨h1, h2⟩ := He.ba e2
  have tab : ∀ q ∈ tf, PySem.W.codeHdIn (He.frT h.get? (asY h.get? n)) (He.cT (He.frT h.get? (asY h.get? n)) q).1 (He.cT (He.frT h.get? (asY h.get? n)) q).2 = true ∧ ∃ ob, h.get? (He.cT (He.frT h.get? (asY h.get? n)) q).2 = some ob ∧ He.emptyTab ob = true := fun q hq => by
    obtain ⟨h3, h4⟩ := He.ba (List.all_eq_true.mp h2 q hq)
    refine ⟨h3, ?_⟩
    cases c : h.get? (He.cT (He.frT h.get? (asY h.get? n)) q).2 with
    | none =>
      rw [c] at h4
      cases h4
    | some ob =>
      rw [c] at h4
      exact ⟨ob, rfl, h4⟩
  exact ⟨⟨e1, h1, fun q hq => (tab q hq).1, fun q hq => (tab q hq).2.elim fun ob z => He.frT_none z.1 z.2, fun q hq => (tab q hq).2.elim fun ob z => by rw [z.1, He.emptyTab_eq z.2]⟩, congrArg Prod.snd e⟩
def hookY (n : Nat) (fa : List He.Fa) (fn : List He.DefD) (tf : List He.Defn) (ex : PySem.W.Frag → Bool) (ini : List IniD) : PySem.W.Hook where
  α := AlY
  obs := fun s => obsY n fa fn tf ex ini s.heap.get?
  val := fun w => valY fn ini w
  says := fun w h => ∃ K : PySem.W.Frag, K.In h ∧ SaysY fa fn tf ex ini w h K
  of := fun _ _ e => ⟨_, He.frT_in, saysY_of e⟩
  keeps := fun _ _ _ ⟨K, hK, c⟩ k => ⟨K, PySem.W.Frag.In.keeps hK k, ⟨⟨c.x.t, c.x.more, c.x.hd, c.x.out, fun p hp => k _ _ (c.x.empty p hp)⟩, c.i⟩⟩
theorem obsY_eq {n : Nat} {fa : List He.Fa} {fn : List He.DefD} {tf : List He.Defn} {ex : PySem.W.Frag → Bool} {ini : List IniD} {g : Addr → Option Obj} {s : Shared} (h : ∀ a, g a = s.heap.get? a) : obsY n fa fn tf ex ini g = (hookY n fa fn tf ex ini).obs s := by
  have e : g = s.heap.get? := funext h
  rw [e]
  rfl
end Fc
set_option maxHeartbeats 0
namespace Fc
open PySem PySem.Spec PyProof.Rows L2
def dd (i : Nat) (n : Str) : He.DefD := ⟨(n, none), n, n, defArgs (top i), defBody (top i), defScope (top i), [], []⟩
def fns : List He.DefD := [dd 82 "_law_begun", dd 83 "_law_take", dd 86 "_law_marks", dd 87 "_law_rule", dd 90 "_law_bad", dd 26 "is_small", dd 27 "is_word", dd 28 "is_marks", dd 29 "is_row", dd 31 "check_rule", dd 37 "heads_of", dd 38 "main_of", dd 49 "right", dd 50 "found_by", dd 58 "slips", dd 59 "search", dd 69 "amiss", dd 70 "mended", dd 71 "done", dd 54 "parting", dd 55 "alike", dd 79 "written", dd 40 "needed", dd 42 "enough", dd 43 "fewest", dd 91 "_law_works", dd 85 "_law_class", dd 89 "_law_refused", dd 84 "_law_alike", dd 34 "check_marks", dd 14 "holds", dd 15 "heads_in_turn", dd 16 "rising_heads", dd 32 "check_papers", dd 18 "rule_heads", dd 17 "main_head", dd 80 "written_row", dd 19 "named_marks", dd 56 "told_of", dd 92 "law"]
def fas : List He.Fa := [.glo "_law_begun", .glo "_law_take", .glo "_law_marks", .glo "_law_rule", .glo "_law_bad", .glo "is_small", .glo "is_word", .glo "is_marks", .glo "is_row", .glo "check_rule", .glo "heads_of", .glo "main_of", .glo "right", .glo "found_by", .glo "slips", .glo "search", .glo "amiss", .glo "mended", .glo "done", .glo "parting", .glo "alike", .glo "written", .glo "needed", .glo "enough", .glo "fewest", .glo "_law_works", .glo "_law_class", .glo "_law_refused", .glo "_law_alike", .glo "check_marks", .glo "holds", .glo "heads_in_turn", .glo "rising_heads", .glo "check_papers", .glo "rule_heads", .glo "main_head", .glo "written_row", .glo "named_marks", .glo "told_of", .glo "law", .glo "BadCabinet", .glo "BadMarks", .glo "BadPapers", .glo "BadRule", .glo "BadText", .glo "FileError", .glo "NoHead", .glo "NoPaper", .glo "NotFound", .str "MARKS" "abcdefgh", .str "REST" "rest", .str "LETTERS" "abcdefghijklmnopqrstuvwxyz", .str "NO_MARKS" "-", .int "LONGEST_WORD" 6, .int "MOST_ROWS" 12, .int "MOST_HEADS" 6, .int "MOST_PAPERS" 12, .free "ValueError", .free "all", .free "any", .free "bool", .free "enumerate", .free "int", .free "isinstance", .free "len", .free "list", .free "range", .free "set", .free "sorted", .free "str", .free "tuple", .free "super"]
def tfsG : List He.Defn := [("holds", none), ("is_small", none), ("is_row", none)]
def tfsL : List He.Defn := [("law", none), ("_law_works", none)]
def tfs : List He.Defn := [("holds", none), ("is_small", none), ("is_row", none), ("law", none), ("_law_works", none)]
abbrev R : PySem.W.OpenRow := PySem.W.OpenLaw.row PySem.Challenge.rw_filecross_k01_rules_refused
def exC (K : PySem.W.Frag) : Bool := He.eqO (PySem.W.nsIn K mainGlobals "combinations") (some (some (.type "itertools.combinations")))
def iniS (i : Nat) : Stmt := (clsDefs (top i)).getD 0 (.Pass noPos)
def ini_BadRule : IniD := iniOf "BadRule" "BadRule.__init__" (iniS 3)
theorem it_BadRule : IniT ini_BadRule where
  args := ⟨_, _, rfl, rfl, rfl⟩
  bind := fun fd e e2 us hl => by
    obtain ⟨f1, f2, f3, f4, f5, f6, f7, f8, f9, f10, f11, f12, f13, f14, f15⟩ := fd
    dsimp only at e e2
    subst e e2
    match us, hl with
    | [_, _], _ => rfl
  scope := NdefX.nscope_by (by decide +kernel)
  sup := by rfl
  msg := by first | (refine msg2 ?_ ?_ ?_ <;> decide +kernel) | (refine msg3 ?_ ?_ ?_ ?_ <;> decide +kernel)
  db1 := by decide +kernel
  db2 := by decide +kernel
  ev := fun env => ⟨_, rfl⟩
  sw1 := fun env => rfl
  sw2 := fun env => rfl
def inis : List IniD := [ini_BadRule]
def fileL : Str := R.prog.main.file
def capsB (K : PySem.W.Frag) : Bool := (capB K 0 "BadRule" "number") && decide (((tfsG ++ tfsL).map (fun q => (He.cT K q).2)).Nodup)
def exE (K : PySem.W.Frag) : Bool := exC K && (inis.all (iniB K fileL) && capsB K)
abbrev hk : PySem.W.Hook := hookY 4 fas fns tfs exE inis
def ob (s : PySem.W.SharedT) : AlY := obsY 4 fas fns tfs exE inis (HandSHeadRun.getT s)
theorem ob_eq (s : PySem.W.SharedT) : ob s = hk.obs s.abs := obsY_eq (HandSHeadRun.getT_eq s)
def loose1 : List PySem.Str := ["FileError", "BadRule", "BadPapers", "BadCabinet", "BadMarks", "NoPaper", "NoHead", "NotFound", "BadText", "MARKS", "REST", "holds", "heads_in_turn", "rising_heads", "main_head", "rule_heads", "named_marks", "LETTERS", "LONGEST_WORD", "MOST_ROWS"]
def loose2 : List PySem.Str := ["MOST_HEADS", "MOST_PAPERS", "is_small", "is_word", "is_marks", "is_row", "are_rising_names", "check_rule", "check_papers", "check_cabinet", "check_marks", "check_head", "heads_of", "main_of", "needed", "come_to", "enough", "fewest", "needs_of_marks", "groups_of"]
def loose3 : List PySem.Str := ["cards_of_group", "go_round", "right", "found_by", "fewest_alone", "has_all", "parting", "alike", "told_of", "slips", "search", "looking_order", "fewest_slips", "after_slips", "GONE", "ASTRAY", "TWICE", "STRANGE", "NOWHERE", "amiss"]
def loose4 : List PySem.Str := ["mended", "done", "strange_sheets", "amiss_of_paper", "deed_against", "check_deeds", "do_deed", "NO_MARKS", "written", "written_row", "_law_begun", "_law_take", "_law_alike", "_law_class", "_law_marks", "_law_rule", "_law_papers", "_law_refused", "_law_bad", "_law_works"]
def loose : List PySem.Str := loose1 ++ loose2 ++ loose3 ++ loose4
theorem run (w : World) : HandSHeadRun.RunEqI R (PySem.W.view R.prog [0, 92]) hk ob 20000 loose w := by
  unfold HandSHeadRun.RunEqI
  kernel_rfl
end Fc
set_option maxHeartbeats 4000000
namespace Fc
open PySem PySem.Spec PyProof.Rows L2
section
variable {P : Program} {w : World} {K : PySem.W.Frag} {mg : Str → Option Value} {base : Heap}
theorem scBegun : FnScope ["_law_script", "_law_stirred", "_law_cell"] ["_law_script"] (defScope sBegun) := ⟨rfl, rfl, rfl, by decide +kernel, rfl, by decide +kernel, by decide +kernel⟩
theorem ok_begun (D : DefAt K mg "_law_begun" sBegun) (gLen : mg "len" = none) (gList : mg "list" = none) (gInt : mg "int" = none) : C8.Cal P w K mg base 1 "_law_begun" (spBegun K) [] := by
  refine cal_mk D scBegun (fun vs H Q E h => ?_) (fun _ _ _ _ _ _ us hl => match us, hl with | [_], _ => rfl) (fun A outer s H vs Q E hr h => ?_)
  · obtain ⟨a, ns, rfl, _⟩ := h
    rfl
  · obtain ⟨a, ns, rfl, hS, hn, k⟩ := h
    refine ⟨_, pss_cons (ps_set (i := 1) scBegun.nd rfl (Or.inl rfl) pe_int) (pss_cons (ps_for PassesOwn.never rfl (pi_list (pv 0)) (pg_name (i := 2) scBegun.nd rfl (Or.inl rfl))
        (pss_one (ps_set (i := 1) scBegun.nd rfl (Or.inl rfl) (pe_op op_mod (pe_op op_add (pe_op op_add (pe_op op_mul (pv 1) pe_int) (pe_op op_mul (pv 2) pe_int)) pe_int) pe_int))))
      (pss_one (ps_ret (pe_lst (pa_cons (pe_callTy call_list_of (by rfl) gList PyProof.Rows.boot_list (pa_cons (pv 0) pa_nil)) (pa_cons (pe_op op_mul (pv 1) (pe_callTy call_int1 (by rfl) gInt PyProof.Rows.boot_int (pa_cons (pe_cmpR op_gt (pe_callB call_len_seq (by rfl) gLen PySem.boot_len (pa_cons (pv 0) pa_nil)) pe_int (nomark _)) pa_nil))) pa_nil)))))), ?_⟩
    refine ⟨_, rfl, a, rfl, ⟨_, hS⟩, for_list (K := K) (a := a) (xs := ns.map V.int) (fun i σ' H' => ∃ (z : Int) (o : Option V), σ' = [some (.ref a), some (.int z), o] ∧ H' = H) ⟨0, none, rfl, rfl⟩ (fun i σ' H' _ ⟨_, _, _, e⟩ => by rw [e]; exact hS) (fun i x σ' H' hx ⟨z, o, e1, e2⟩ => ?_) fun σ' H' ⟨z, o, e1, e2⟩ => ?_⟩
    · subst e1
      subst e2
      obtain ⟨n, rfl⟩ : ∃ n, x = V.int n := by
        rw [List.getElem?_map] at hx
        cases q : ns[i]? with
        | none =>
          rw [q] at hx
          cases hx
        | some n =>
          rw [q] at hx
          exact ⟨n, (Option.some.inj hx).symm⟩
      refine ⟨_, rfl, _, _, rfl, rfl, .inr ⟨by decide, by decide⟩, _, rfl, _, _, rfl, rfl, .inr ⟨by decide, by decide⟩, _, _, rfl, rfl, _, _, rfl, rfl, _, _, rfl, rfl, (by show (0 : Int) < 2147483647; decide), ?_⟩
      exact ⟨_, _, rfl, rfl⟩
    · subst e1
      subst e2
      refine ⟨_, rfl, a, _, rfl, .inl hS, fun l hl => ?_⟩
      have k1 : Kp N0 H' (upd H' l (.lst (ns.map V.int))) := Kp.new hl
      have hS1 : SqL K (upd H' l (.lst (ns.map V.int))) a (ns.map V.int) := by
        rcases hS with (h | ⟨ob, h⟩) | h
        · exact .inl (.inl (k1.obj h ntl nn))
        · exact .inl (.inr ⟨ob, k1.obj h ntf nn⟩)
        · exact .inr h
      refine ⟨_, rfl, _, rfl, a, _, rfl, .inl hS1, _, _, rfl, rfl, .inr ⟨_, rfl, ?_⟩⟩
      refine ⟨_, _, rfl, rfl, .inr ⟨by split <;> decide, by split <;> decide⟩, Nat.le_of_lt (by rw [sizeLine_eq]; exact (by decide : 2 < 16777216)), fun b hb => ?_⟩
      have lb : l ≠ b := fun e => by
        rw [← e, upd_same] at hb
        cases hb
      exact k b l _ (k1.fresh hb) hl ⟨ns, _, upd_same, by rw [upd_ne lb]; exact upd_same, hn⟩ (k1.trans (Kp.new hb))
end
end Fc
set_option maxHeartbeats 4000000
namespace Fc
open PySem PySem.Spec PyProof.Rows L2
section
variable {P : Program} {w : World} {K : PySem.W.Frag} {mg : Str → Option Value} {base : Heap}
theorem scTake : FnScope ["_law_box", "_law_many", "_law_number"] ["_law_box", "_law_many"] (defScope sTake) := ⟨rfl, rfl, rfl, by decide +kernel, rfl, by decide +kernel, by decide +kernel⟩
theorem ok_take (D : DefAt K mg "_law_take" sTake) : C8.Cal P w K mg base 1 "_law_take" spTake [] := by
  refine cal_mk D scTake (fun vs H Q E h => ?_) (fun _ _ _ _ _ _ us hl => match us, hl with | [_, _], _ => rfl) (fun A outer s H vs Q E hr h => ?_)
  · obtain ⟨b, l, many, rfl, _⟩ := h
    rfl
  · obtain ⟨b, l, many, rfl, hB, h0, hM, k⟩ := h
    obtain ⟨ns, z, hb, hl, hn⟩ := id hB
    have ne := hB.ne
    refine ⟨_, pss_cons (ps_if (pt_cmpR (op_eqD (hu64 hr)) (pe_ix ix_list (pv 0) pe_int (fun _ _ => rfl)) (pe_lst pa_nil) (nomark _))
        (pss_cons (ps_asg (pe_op op_mod (pe_op op_mul (pe_ix ix_list (pv 0) pe_int (fun _ _ => rfl)) pe_int) pe_int) (pg_sub (pv 0) pe_int set_list))
          (pss_one (ps_ret (pe_op op_mod (pe_op op_fdiv (pe_ix ix_list (pv 0) pe_int (fun _ _ => rfl)) pe_int) (pv 1))))) pss_nil)
      (pss_cons (ps_set (i := 2) scTake.nd rfl (Or.inl rfl) (pe_ix ix_list (pe_ix ix_list (pv 0) pe_int (fun _ _ => rfl)) pe_int (fun _ _ => rfl)))
      (pss_cons (ps_asg (pe_op op_fdiv (pv 2) (pv 1)) (pg_sub (pe_ix ix_list (pv 0) pe_int (fun _ _ => rfl)) pe_int set_list))
      (pss_cons (ps_if (PW.pt (pw_or (pt_cmpR op_eq (pe_ix ix_list (pe_ix ix_list (pv 0) pe_int (fun _ _ => rfl)) pe_int (fun _ _ => rfl)) pe_int (nomark _)) (pw_or1 (pt_cmpR op_eq (pe_ix ix_list (pe_ix ix_list (pv 0) pe_int (fun _ _ => rfl)) pe_int (fun _ _ => rfl)) (pe_un un_neg pe_int) (nomark _)))))
        (pss_one (ps_expr (pe_bm PySem.F.plainAttrs_list PySem.F.slot_list_pop PySem.F.type_list_pop mt_popAt (pe_ix ix_list (pv 0) pe_int (fun _ _ => rfl)) (pa_cons pe_int pa_nil)))) pss_nil)
      (pss_one (ps_ret (pe_op op_mod (pv 2) (pv 1))))))), ?_⟩
    refine ⟨_, rfl, b, _, 0, _, rfl, rfl, SqL.of hb, rfl, Nat.zero_le _, fun p hp => ?_⟩
    refine ⟨.list (ns.map PyData.int), .list [], .lst (SqL.of ((Kp.new (S := N0) hp).obj hl ntl nn)) (dpI ns), .lst (SqL.of upd_same) .nil, shapedI ns, by decide, ?_⟩
    rw [eqvI_nil]
    have k1 : Kp (sB b l) H (upd H p (.lst [])) := Kp.new hp
    have hb1 : (upd H p (.lst [])) b = some (.lst [.ref l, .int z]) := (Kp.new (S := N0) hp).obj hb ntl nn
    have hl1 : (upd H p (.lst [])) l = some (.lst (ns.map V.int)) := (Kp.new (S := N0) hp).obj hl ntl nn
    have fin : ∀ (x : Int) (z' : Int) (ns' : List Int) (H2 : Hp), ns'.length ≤ 63 → H2 b = some (.lst [.ref l, .int z']) → H2 l = some (.lst (ns'.map V.int)) → Kp (sB b l) H H2 → Q (.int (x % many)) H2 := fun x z' ns' H2 h1 h2 h3 h4 =>
      k _ H2 (Int.emod_nonneg _ (by omega)) (Int.emod_lt_of_pos _ h0) ⟨ns', z', h2, h3, h1⟩ h4
    clear k
    generalize upd H p (.lst []) = H1 at k1 hb1 hl1 ⊢
    cases ns with
    | nil =>
      refine ⟨_, rfl, iteT ?_⟩
      refine ⟨_, rfl, b, _, 1, _, rfl, rfl, SqL.of hb1, rfl, _, _, rfl, rfl, .inr ⟨by decide, by decide⟩, _, _, rfl, rfl, (by show (0 : Int) < 2147483647; decide), _, rfl, b, _, 1, 1, rfl, rfl, hb1, rfl, ?_⟩
      refine ⟨_, rfl, b, _, 1, _, rfl, rfl, SqL.of upd_same, rfl, _, _, rfl, rfl, ⟨by decide, by decide⟩, _, rfl, _, _, rfl, rfl, h0, ?_⟩
      exact fin _ _ [] _ (by simp) upd_same (by rw [upd_ne ne.symm]; exact hl1) (k1.trans (Kp.mutS (.inl rfl) hb1 ntl ntl))
    | cons n r =>
      refine ⟨_, rfl, iteF ?_⟩
      have hlr : r.length ≤ 62 := by rw [List.length_cons] at hn; omega
      refine ⟨_, rfl, b, _, 0, _, rfl, rfl, SqL.of hb1, rfl, l, _, 0, V.int n, rfl, rfl, SqL.of hl1, by simp [atI, ixN], ?_⟩
      refine ⟨_, rfl, _, rfl, _, _, rfl, rfl, ⟨h0, by omega⟩, _, rfl, b, _, 0, _, rfl, rfl, SqL.of hb1, rfl, l, _, 0, 0, rfl, rfl, hl1, by simp [ixN], ?_⟩
      have k2 : Kp (sB b l) H (upd H1 l (.lst (((n :: r).map V.int).set 0 (V.int (n / many))))) := k1.trans (Kp.mutS (.inr rfl) hl1 ntl ntl)
      have hb2 : (upd H1 l (.lst (((n :: r).map V.int).set 0 (V.int (n / many))))) b = some (.lst [.ref l, .int z]) := by rw [upd_ne ne]; exact hb1
      have hl2 : (upd H1 l (.lst (((n :: r).map V.int).set 0 (V.int (n / many))))) l = some (.lst (((n / many) :: r).map V.int)) := upd_same
      generalize upd H1 l (.lst (((n :: r).map V.int).set 0 (V.int (n / many)))) = H2 at k2 hb2 hl2 ⊢
      have at0 : atI (((n / many) :: r).map V.int) 0 = some (V.int (n / many)) := by simp [atI, ixN]
      have more : ∀ H3, H3 b = some (.lst [.ref l, .int z]) → (∃ ns' : List Int, ns'.length ≤ 63 ∧ H3 l = some (.lst (ns'.map V.int))) → Kp (sB b l) H H3 → Q (.int (n % many)) H3 := fun H3 h1 ⟨ns', h2, h3⟩ h4 => fin n z ns' H3 h2 h1 h3 h4
      have popd : ∀ Q2 : VK, Q2 (V.int (n / many)) (upd H2 l (.lst (r.map V.int))) → rPopAt (V.ref l) [V.int 0] H2 Q2 := fun Q2 q => ⟨l, _, 0, 0, _, rfl, rfl, hl2, by decide, by decide, by simp [seqIndex?], rfl, q⟩
      have last : Q (.int (n % many)) (upd H2 l (.lst (r.map V.int))) := more _ (by rw [upd_ne ne]; exact hb2) ⟨r, by omega, upd_same⟩ (k2.trans (Kp.mutS (.inr rfl) hl2 ntl ntl))
      have last0 : Q (.int (n % many)) H2 := more _ hb2 ⟨(n / many) :: r, by rw [List.length_cons]; omega, hl2⟩ k2
      refine ⟨_, rfl, b, _, 0, _, rfl, rfl, SqL.of hb2, rfl, l, _, 0, _, rfl, rfl, SqL.of hl2, at0, rfl, _, rfl, ite2 (fun c => ?_) (fun c => ?_)⟩
      · refine ⟨_, rfl, b, _, 0, _, rfl, rfl, SqL.of hb2, rfl, .inl ⟨rfl, _, SqL.of hl2⟩, popd _ ?_⟩
        exact ⟨_, rfl, _, rfl, _, _, rfl, rfl, h0, last⟩
      · refine ⟨_, rfl, b, _, 0, _, rfl, rfl, SqL.of hb2, rfl, l, _, 0, _, rfl, rfl, SqL.of hl2, at0, _, rfl, rfl, _, rfl, ite2 (fun c => ?_) (fun c => ?_)⟩
        · refine ⟨_, rfl, b, _, 0, _, rfl, rfl, SqL.of hb2, rfl, .inl ⟨rfl, _, SqL.of hl2⟩, popd _ ?_⟩
          exact ⟨_, rfl, _, rfl, _, _, rfl, rfl, h0, last⟩
        · exact ⟨_, rfl, _, rfl, _, _, rfl, rfl, h0, last0⟩
end
end Fc
set_option maxHeartbeats 4000000
namespace Fc
open PySem PySem.Spec PyProof.Rows L2
section
variable {P : Program} {w : World} {K : PySem.W.Frag} {mg : Str → Option Value} {base : Heap}
theorem scMarksL : FnScope ["_law_box", "_law_letters", "_law_often", "_law_letter"] ["_law_box", "_law_letters", "_law_often"] (defScope sMarksL) := ⟨rfl, rfl, rfl, by decide +kernel, rfl, by decide +kernel, by decide +kernel⟩
theorem ok_marksL (D : DefAt K mg "_law_marks" sMarksL) (C : C8.Cal P w K mg base 1 "_law_take" spTake []) : C8.Cal P w K mg base 2 "_law_marks" spMarks [] := by
  refine cal_mk D scMarksL (fun vs H Q E h => ?_) (fun _ _ _ _ _ _ us hl => match us, hl with | [_, _, _], _ => rfl) (fun A outer s H vs Q E hr h => ?_)
  · obtain ⟨b, l, z, often, rfl, _⟩ := h
    rfl
  · obtain ⟨b, l, z, often, rfl, hz, hB, h0, hM, k⟩ := h
    refine ⟨_, pss_one (ps_ret (pe_joinK (K := K) rfl pe_str (pe_lc (own := [("_law_letter", 3)]) (g := gName 3) rfl scMarksL.nd (pi_str (pv 1)) (blkOk_by (N := ["_law_box", "_law_letters", "_law_often", "_law_letter"]) (sc := defScope sMarksL) (by decide +kernel)) (fun _ _ _ _ _ => pg_name (i := 3) scMarksL.nd rfl (Or.inl rfl))
      (fun _ _ _ _ _ => pts_one (pt_cmpR op_eq (C8.pe_c C hr (by decide) rfl (pa_cons (pv 0) (pa_cons (pv 2) pa_nil))) pe_int (nomark _))) (fun _ _ _ _ _ => pv 3)))), ?_⟩
    refine ⟨⟨_, rfl⟩, _, rfl, z, rfl, fun D hD => ?_⟩
    have nD : ¬ sB b l D := fun q => hB.on D q hD
    refine lc_it (walk_str (z := z)) (fun i H' => ∃ out : List Nat, H' D = some (.lst ((out.map fun c => (⟨#[c]⟩ : Str)).map V.str)) ∧ out.Sublist (z.cps.toList.take i) ∧ Box H' b l ∧ Kp (sB b l) H H') ⟨[], upd_same, List.nil_sublist _, hB.upd nD, Kp.new hD⟩ (fun _ _ _ _ => trivial) (fun i x H1 H2 hi ⟨out, hout, hsub, hB1, k1⟩ y => ?_) fun H' ⟨out, hout, hsub, hB1, k1⟩ => ?_
    · obtain ⟨rfl, c, hc, rfl⟩ := y
      have hc2 : z.cps.toList[i]? = some c := by simpa using hc
      obtain ⟨s1, s2⟩ := sub_take hsub hc2
      have small : out.length ≤ 100 := Nat.le_trans (hsub.trans (List.take_sublist _ _)).length_le hz
      refine ⟨rfl, _, rfl, _, rfl, b, l, often, rfl, hB1, h0, hM, fun r H3 r0 r1 hB3 k3 => ⟨rfl, _, rfl, ?_⟩⟩
      have hout3 : H3 D = some (.lst ((out.map fun c => (⟨#[c]⟩ : Str)).map V.str)) := k3.obj hout ntl nD
      refine ite2 (fun _ => ?_) (fun _ => ⟨out, hout3, s2, hB3, k1.trans k3⟩)
      refine ⟨_, rfl, _, hout3, by rw [List.length_map, List.length_map, sizeLine_eq]; omega, out ++ [c], ?_, s1, hB3.upd nD, (k1.trans k3).mut hD⟩
      rw [upd_same, List.map_append, List.map_append]
      rfl
    · have small : out.length ≤ 100 := Nat.le_trans (hsub.trans (List.take_sublist _ _)).length_le hz
      refine ⟨"", D, _, rfl, rfl, .inl (SqL.of hout), ?_, ?_⟩
      · rw [signs_sum, List.length_map]
        show _ + _ * 0 ≤ _
        omega
      · rw [join_signs]
        exact k out H' (hsub.trans (List.take_sublist _ _)) hB1 k1
end
end Fc
set_option maxHeartbeats 4000000
namespace Fc
open PySem PySem.Spec PyProof.Rows L2
section
variable {P : Program} {w : World} {K : PySem.W.Frag} {mg : Str → Option Value} {base : Heap}
theorem scRuleL : FnScope ["_law_box", "_law_most", "_law_heads", "_law_letters", "_law_found", "_law_turn", "_law_needs", "_law_rest", "_law_letter"] ["_law_box", "_law_most"] (defScope sRuleL) := ⟨rfl, rfl, rfl, by decide +kernel, rfl, by decide +kernel, by decide +kernel⟩
theorem ok_ruleL (D : DefAt K mg "_law_rule" sRuleL) (C1 : C8.Cal P w K mg base 1 "_law_take" spTake []) (C2 : C8.Cal P w K mg base 2 "_law_marks" spMarks []) (gLen : mg "len" = none) (gRange : mg "range" = none) : C8.Cal P w K mg base 3 "_law_rule" spRuleL [] := by
  refine cal_mk D scRuleL (fun vs H Q E h => ?_) (fun _ _ _ _ _ _ us hl => match us, hl with | [_, _], _ => rfl) (fun A outer s H vs Q E hr h => ?_)
  · obtain ⟨b, l, most, rfl, _⟩ := h
    rfl
  · obtain ⟨b, l, most, rfl, m0, m12, hB, k⟩ := h
    refine ⟨_, pss_cons (ps_set (i := 2) scRuleL.nd rfl (Or.inl rfl) (pe_ix ix_list (pe_lst (pa_cons (pe_lst (pa_cons pe_str (pa_cons pe_str (pa_cons pe_str (pa_cons pe_str (pa_cons pe_str (pa_cons pe_str pa_nil))))))) (pa_cons (pe_lst (pa_cons pe_str (pa_cons pe_str (pa_cons pe_str (pa_cons pe_str (pa_cons pe_str (pa_cons pe_str pa_nil))))))) pa_nil))) (C8.pe_c C1 hr (by decide) rfl (pa_cons (pv 0) (pa_cons pe_int pa_nil))) (fun _ _ => rfl)))
      (pss_cons (ps_set (i := 2) scRuleL.nd rfl (Or.inl rfl) (pe_slice sl_list (pv 2) po_none (po_some (pe_op op_add pe_int (C8.pe_c C1 hr (by decide) rfl (pa_cons (pv 0) (pa_cons pe_int pa_nil)))))))
      (pss_cons (ps_set (i := 3) scRuleL.nd rfl (Or.inl rfl) (pe_slice sl_str pe_str po_none (po_some (pe_op op_add pe_int (C8.pe_c C1 hr (by decide) rfl (pa_cons (pv 0) (pa_cons pe_int pa_nil)))))))
      (pss_cons (ps_set (i := 4) scRuleL.nd rfl (Or.inl rfl) (pe_lst pa_nil))
      (pss_cons (ps_for PassesOwn.never rfl (pi_range1 (by rfl) gRange (pa_cons (C8.pe_c C1 hr (by decide) rfl (pa_cons (pv 0) (pa_cons (pe_op op_add (pv 1) pe_int) pa_nil))) pa_nil)) (pg_name (i := 5) scRuleL.nd rfl (Or.inl rfl))
        (pss_cons (ps_set (i := 6) scRuleL.nd rfl (Or.inr rfl) (C8.pe_c C2 hr (by decide) rfl (pa_cons (pv 0) (pa_cons (pv 3) (pa_cons (pe_op op_add pe_int (C8.pe_c C1 hr (by decide) rfl (pa_cons (pv 0) (pa_cons pe_int pa_nil)))) pa_nil)))))
        (pss_cons (ps_set (i := 7) scRuleL.nd rfl (Or.inl rfl) (pe_joinK (K := K) rfl pe_str (pe_lc (own := [("_law_letter", 8)]) (g := gName 8) rfl scRuleL.nd (pi_str (pv 3)) (blkOk_by (N := ["_law_box", "_law_most", "_law_heads", "_law_letters", "_law_found", "_law_turn", "_law_needs", "_law_rest", "_law_letter"]) (sc := defScope sRuleL) (by decide +kernel)) (fun _ _ _ _ _ => pg_name (i := 8) scRuleL.nd rfl (Or.inl rfl))
          (fun _ _ _ _ _ => pts_one (pt_cmpR op_notIn_sign (pv 8) (pv 6) rfl)) (fun _ _ _ _ _ => pv 8))))
        (pss_one (ps_expr (pe_bm PySem.F.plainAttrs_list PySem.F.slot_list_append PySem.F.type_list_append mt_append (pv 4) (pa_cons (pe_tup (pa_cons (pe_ix ix_list (pv 2) (C8.pe_c C1 hr (by decide) rfl (pa_cons (pv 0) (pa_cons (pe_callB call_len_seq (by rfl) gLen PySem.boot_len (pa_cons (pv 2) pa_nil)) pa_nil))) (fun _ _ => rfl)) (pa_cons (pv 6) (pa_cons (C8.pe_c C2 hr (by decide) rfl (pa_cons (pv 0) (pa_cons (pv 7) (pa_cons (pe_op op_add pe_int (C8.pe_c C1 hr (by decide) rfl (pa_cons (pv 0) (pa_cons pe_int pa_nil)))) pa_nil)))) pa_nil)))) pa_nil)))))))
      (pss_one (ps_ret (pv 4))))))), ?_⟩
    have sz : ∀ n : Nat, n ≤ 100 → n ≤ sizeLine := fun n h => by rw [sizeLine_eq]; omega
    -- the two lists of heads, one of them
    refine ⟨sz 6 (by decide), fun p1 f1 => ⟨sz 6 (by decide), fun p2 f2 => ⟨sz 2 (by decide), fun p3 f3 => ?_⟩⟩⟩
    have kA : Kp N0 H (upd (upd (upd H p1 (.lst (hs1.map V.str))) p2 (.lst (hs2.map V.str))) p3 (.lst [.ref p1, .ref p2])) := (Kp.new f1).trans ((Kp.new f2).trans (Kp.new f3))
    have n12 : p1 ≠ p2 := fun e => by rw [← e, upd_same] at f2; cases f2
    have n13 : p1 ≠ p3 := fun e => by rw [← e, upd_ne n12, upd_same] at f3; cases f3
    have n23 : p2 ≠ p3 := fun e => by rw [← e, upd_same] at f3; cases f3
    refine ⟨_, rfl, b, l, 2, rfl, hB.kp kA, by decide, by decide, fun r H1 r0 r1 hB1 kB => ?_⟩
    have g1 : H p1 = none := f1
    have g2 : H p2 = none := (Kp.new (S := N0) f1).fresh f2
    have g3 : H p3 = none := ((Kp.new (S := N0) f1).trans (Kp.new f2)).fresh f3
    have s1 : ¬ sB b l p1 := fun z => hB.on _ z g1
    have s2 : ¬ sB b l p2 := fun z => hB.on _ z g2
    have s3 : ¬ sB b l p3 := fun z => hB.on _ z g3
    have a1 : H1 p1 = some (.lst (hs1.map V.str)) := kB.obj (by rw [upd_ne n13, upd_ne n12]; exact upd_same) ntl s1
    have a2 : H1 p2 = some (.lst (hs2.map V.str)) := kB.obj (by rw [upd_ne n23]; exact upd_same) ntl s2
    have a3 : H1 p3 = some (.lst [.ref p1, .ref p2]) := kB.obj upd_same ntl s3
    obtain ⟨ph, hs, hhs, hl6, hat, hph⟩ : ∃ (ph : Addr) (hs : List Str), (∀ h ∈ hs, h ∈ hs1 ++ hs2) ∧ hs.length = 6 ∧ atI [V.ref p1, V.ref p2] r = some (.ref ph) ∧ H1 ph = some (.lst (hs.map V.str)) := by
      have c : r = 0 ∨ r = 1 := by omega
      rcases c with rfl | rfl
      · exact ⟨p1, hs1, fun h z => List.mem_append_left _ z, rfl, rfl, a1⟩
      · exact ⟨p2, hs2, fun h z => List.mem_append_right _ z, rfl, rfl, a2⟩
    have k1 : Kp (sB b l) H H1 := kA.up.trans kB
    clear kA kB a1 a2
    refine ⟨p3, _, r, .ref ph, rfl, rfl, SqL.of a3, hat, ?_⟩
    -- some of them
    refine ⟨_, rfl, _, rfl, b, l, 6, rfl, hB1, by decide, by decide, fun r2 H2 q0 q1 hB2 k2 => ⟨_, _, rfl, rfl, 1 + r2, rfl, ph, hs.map V.str, rfl, ?_, fun hh fh => ?_⟩⟩
    · have z : ¬ sB b l ph := fun z => by
        have c := hB1.on _ z
        obtain ⟨ns, x, h1, h2, _⟩ := id hB1
        rcases z with e | e
        · rw [e, h1] at hph
          have q := Option.some.inj hph
          injection q with q
          cases hs with
          | nil => cases hl6
          | cons u v =>
            injection q with q1
            cases q1
        · rw [e, h2] at hph
          have q := Option.some.inj hph
          injection q with q
          cases hs with
          | nil => cases hl6
          | cons u v =>
            cases ns with
            | nil => cases q
            | cons n m =>
              injection q with q1
              cases q1
      exact SqL.of (k2.obj hph ntl z)
    rw [cutV_take _ (by omega), ← List.map_take]
    have hin : ∀ h ∈ hs.take (1 + r2).toNat, h ∈ hs1 ++ hs2 := fun h z => hhs h (List.mem_of_mem_take z)
    have hlt : 1 ≤ (hs.take (1 + r2).toNat).length ∧ (hs.take (1 + r2).toNat).length ≤ 6 := by
      rw [List.length_take, hl6]
      omega
    generalize hs.take (1 + r2).toNat = hd at hin hlt fh ⊢
    have k2' : Kp (sB b l) H H2 := k1.trans k2
    have hh0 : H hh = none := k2'.fresh fh
    have sh : ¬ sB b l hh := fun z => hB.on _ z hh0
    have k3 : Kp (sB b l) H (upd H2 hh (.lst (hd.map V.str))) := k2'.trans (Kp.new fh)
    have hB3 : Box (upd H2 hh (.lst (hd.map V.str))) b l := hB2.upd sh
    have ah : (upd H2 hh (.lst (hd.map V.str))) hh = some (.lst (hd.map V.str)) := upd_same
    generalize upd H2 hh (.lst (hd.map V.str)) = H3 at k3 hB3 ah ⊢
    clear k1 k2 k2' hB1 hB2 hph hat a3
    -- the letters
    refine ⟨_, rfl, b, l, 7, rfl, hB3, by decide, by decide, fun r3 H4 q0 q1 hB4 k4 => ⟨_, _, rfl, rfl, 2 + r3, rfl, a2h, rfl, sz _ (by decide), ?_⟩⟩
    have zl : (cutS a2h none (some (2 + r3))).cps.toList = a2h.cps.toList.take (2 + r3).toNat := cutS_take a2h (by omega)
    have zs : (cutS a2h none (some (2 + r3))).cps.toList.Sublist a2h.cps.toList := by rw [zl]; exact List.take_sublist _ _
    generalize cutS a2h none (some (2 + r3)) = z at zs ⊢
    clear zl
    have zlen : z.cps.toList.length ≤ 8 := zs.length_le
    have ah4 := k4.obj ah ntl sh
    refine ⟨Nat.zero_le _, fun F fF => ?_⟩
    have F0 : H F = none := (k3.trans k4).fresh fF
    have sF : ¬ sB b l F := fun z => hB.on _ z F0
    have hF : hh ≠ F := ne_of_none ah4 fF
    have k5 : Kp (sB b l) H (upd H4 F (.lst [])) := (k3.trans k4).trans (Kp.new fF)
    have hB5 : Box (upd H4 F (.lst [])) b l := hB4.upd sF
    have ah5 : (upd H4 F (.lst [])) hh = some (.lst (hd.map V.str)) := by rw [upd_ne hF]; exact ah4
    have aF5 : (upd H4 F (.lst [])) F = some (.lst []) := upd_same
    generalize upd H4 F (.lst []) = H5 at k5 hB5 ah5 aF5 ⊢
    clear k3 k4 hB3 hB4 ah ah4 fF
    -- the rows
    refine ⟨_, rfl, _, rfl, _, _, rfl, rfl, b, l, most + 1, rfl, hB5, by omega, by omega, fun r4 H6 q2 q3 hB6 k6 => ⟨r4, rfl, by omega, by omega, for_range (fun i σ' H' => ∃ (rs : List Row) (xs : List V) (o5 o6 o7 : Option V), σ' = [some (.ref b), some (.int most), some (.ref hh), some (.str z), some (.ref F), o5, o6, o7, none] ∧
      Box H' b l ∧ Kp (sB b l) H H' ∧ H' hh = some (.lst (hd.map V.str)) ∧ H' F = some (.lst xs) ∧ DnA (sD (sB b l) F) H' xs (rs.map rowD) ∧ rs.length ≤ i ∧ ∀ r ∈ rs, isRowM r = true ∧ r.1 ∈ hd)
      ⟨[], [], none, none, none, rfl, hB6, k5.trans k6, k6.obj ah5 ntl sh, k6.obj aF5 ntl sF, .nil, Nat.le_refl _, fun r z => nomatch z⟩ (fun i σ' H' hi ⟨rs, xs, o5, o6, o7, es, hB', k', ah', aF', dn, ln, ok⟩ => ?_) fun σ' H' ⟨rs, xs, o5, o6, o7, es, hB', k', ah', aF', dn, ln, ok⟩ => ?_⟩⟩
    · subst es
      refine ⟨_, rfl, _, rfl, _, rfl, b, l, 3, rfl, hB', by decide, by decide, fun r5 H7 q4 q5 hB7 k7 => ⟨_, _, rfl, rfl, b, l, z, 3 + r5, rfl, by omega, hB7, by omega, by omega, fun m1 H8 sub1 hB8 k8 => ?_⟩⟩
      refine ⟨⟨_, rfl⟩, _, rfl, z, rfl, fun G fG => lc_txt (fun c => !sg (oS m1) c) (fun c => PyData.str ⟨#[c]⟩) N0 (fun _ z => z.elim) fG (by omega) (fun _ => rfl) (fun c H9 _ k9 Q2 q => ?_) (fun c H9 _ _ k9 S' _ _ Q2 q => ?_) fun H10 out k10 hout hdn => ?_⟩
      · exact ⟨_, rfl, _, rfl, c, oS m1, rfl, rfl, _, rfl, q H9 Kp.refl⟩
      · exact ⟨_, rfl, q _ H9 Kp.refl (.str _)⟩
      rw [signs_map] at hdn
      have eo := hdn.strs_eq
      subst eo
      have small : (z.cps.toList.filter fun c => !sg (oS m1) c).length ≤ 8 := Nat.le_trans (List.length_filter_le _ _) zlen
      refine ⟨"", G, _, rfl, rfl, .inl (SqL.of hout), ?_, ?_⟩
      · rw [signs_sum, List.length_map]
        show _ + _ * 0 ≤ _
        omega
      rw [join_signs]
      have k11 : Kp (sB b l) H' H10 := k7.trans (k8.trans k10.up)
      have hB10 : Box H10 b l := hB8.kp k10
      have ah10 := k11.obj ah' ntl sh
      have aF10 := k11.obj aF' ntl sF
      refine ⟨_, rfl, .inl ⟨rfl, _, SqL.of aF10⟩, _, rfl, _, rfl, ⟨_, rfl, hh, _, rfl, .inl (SqL.of ah10), b, l, _, rfl, hB10, by rw [List.length_map]; omega, by rw [List.length_map]; omega, fun r6 H11 q6 q7 hB11 k12 => ?_⟩⟩
      rw [List.length_map] at q7
      have hi6 : r6.toNat < hd.length := by omega
      have hat6 : (hd.map V.str)[r6.toNat]? = some (V.str hd[r6.toNat]) := by simp [hi6]
      have hin6 : hd[r6.toNat] ∈ hd := List.getElem_mem hi6
      refine ⟨hh, _, r6, V.str hd[r6.toNat], rfl, rfl, SqL.of (k12.obj ah10 ntl sh), at_of (by omega) hat6, ?_⟩
      refine ⟨_, rfl, _, rfl, _, rfl, _, rfl, b, l, 3, rfl, hB11, by decide, by decide, fun r7 H12 q8 q9 hB12 k13 => ⟨_, _, rfl, rfl, b, l, _, 4 + r7, rfl, by rw [oS_cps]; omega, hB12, by omega, by omega, fun m2 H13 sub2 hB13 k14 => ?_⟩⟩
      rw [oS_cps] at sub2
      have k15 : Kp (sB b l) H' H13 := k11.trans (k12.trans (k13.trans k14))
      refine ⟨Nat.le_of_lt (by rw [sizeLine_eq]; exact (by decide : 3 < 16777216)), fun U fU => ?_⟩
      have kU : Kp (sB b l) H' (upd H13 U (.tup [V.str hd[r6.toNat], V.str (oS m1), V.str (oS m2)])) := k15.trans (Kp.new fU)
      have aU : (upd H13 U (.tup [V.str hd[r6.toNat], V.str (oS m1), V.str (oS m2)])) U = some (.tup [V.str hd[r6.toNat], V.str (oS m1), V.str (oS m2)]) := upd_same
      have U0 : H' U = none := k15.fresh fU
      have hBU := hB13.upd (o := .tup [V.str hd[r6.toNat], V.str (oS m1), V.str (oS m2)]) (p := U) fun z => hB'.on _ z U0
      generalize upd H13 U (.tup [V.str hd[r6.toNat], V.str (oS m1), V.str (oS m2)]) = H14 at kU aU hBU ⊢
      have aF14 := kU.obj aF' ntl sF
      have UF : U ≠ F := fun e => by rw [e, aF'] at U0; cases U0
      have xl : xs.length = rs.length := by rw [dn.len, List.length_map]
      refine ⟨F, xs, _, rfl, rfl, aF14, by rw [sizeLine_eq]; omega, ?_⟩
      have kF : Kp (sD (sB b l) F) H' (upd H14 F (.lst (xs ++ [.ref U]))) := (kU.mono fun a z => .inl z).trans (Kp.mutS (.inr rfl) aF14 ntl ntl)
      have aU2 : (upd H14 F (.lst (xs ++ [.ref U]))) U = some (.tup [V.str hd[r6.toNat], V.str (oS m1), V.str (oS m2)]) := by rw [upd_ne UF]; exact aU
      refine ⟨rs ++ [(hd[r6.toNat], oS m1, oS m2)], xs ++ [.ref U], _, _, _, rfl, hBU.upd sF, (k'.trans kU).mut F0, by rw [upd_ne hF]; exact kU.obj ah' ntl sh, upd_same, ?_, by rw [List.length_append]; exact Nat.succ_le_succ ln, fun r z => ?_⟩
      · rw [List.map_append]
        refine (dn.kp kF).app (.one (.tup (fun z => z.elim (fun q => hB'.on _ q U0) UF) aU2 (DnA.strs [hd[r6.toNat], oS m1, oS m2])))
      · rcases List.mem_append.mp z with q | q
        · exact ok r q
        · rw [List.mem_singleton.mp q]
          exact ⟨row_ok (hin _ hin6) (sub1.trans zs) (sub2.trans ((zs.filter _).trans (by
            have e : (fun c => !sg (oS m1) c) = fun c => !decide (c ∈ m1) := funext fun c => by unfold sg; rw [oS_cps]
            rw [e]
            exact List.Sublist.refl _))), hin6⟩
    · subst es
      exact ⟨_, rfl, k rs F H' ⟨by omega, fun r z => (ok r z).1, hd, hlt.2, fun r z => (ok r z).2⟩ (by omega) F0 hB' k' (.lst sF aF' (dn.weak fun a z => .inl z))⟩
end
end Fc
set_option maxHeartbeats 4000000
/-! A comprehension whose element may refuse. -/
namespace Fc
open PySem PySem.Spec PyProof.Rows L2
section
variable {X : Cx} {pins : List (Addr × Obj)} {σ : L2.St} {H : Hp} {s s' : Shared} {W : XK} {u : Value}
/-- what a call let out, in flight -/
theorem fly_call (I : Inv X pins σ H s) (c : L2N.CX X.prog X.w X.stack H s W u s') :
    ∃ (a : Addr) (B : Heap) (sI : Shared) (pins' : List (Addr × Obj)) (σ' : L2.St) (H' : Hp) (cls : Value) (d : Option Addr), u = .ref a ∧ Inv X pins' σ' H' sI ∧ (∀ b o, sI.heap.get? b = some o → b ∉ frs X.stack → B.get? b = some o) ∧ sI.heap.UpToSlots s'.heap ∧
      HandSPX.FlyingZ B X.stack a (L2N.Zn cls d) s'.heap ∧ H' a = none ∧ s'.os = sI.os ∧ AllBare s'.gens ∧ W cls d H' := by
  have x := L2N.XE.of_call (W := fun cls d _ H => W cls d H) I (fun _ _ _ h => h) c
  obtain ⟨a0, B0, H0, cls0, d0, e0, fl0, _⟩ := c
  obtain ⟨a, B, sI, pins', σ', H', cls, d, e, I', nb, up, sky, na, os, ag, w⟩ := x
  subst e0
  cases e
  obtain ⟨_, _, _, oe0, vs0, T0, oT0, ts0, he0, hz0, hd0, h10, hnT0, hTe0, hT0, hdT0, h30⟩ := fl0
  refine ⟨a0, B, sI, pins', σ', H', cls, d, rfl, I', nb, up, ?_, na, os, ag, w⟩
  rcases sky with ⟨_, _, _, oe, vs, he, hz, hd, h1⟩ | fl | ⟨_, _, _, oe, vs, T, oT, ts, he, hz, hd, h1, hnT, hTe, hT, hdT, h3⟩
  · rw [he0] at he; cases he
    rw [hd0] at hd; cases hd
    rw [h10] at h1; cases h1
  · exact fl
  · rw [he0] at he; cases he
    rw [hd0] at hd; cases hd
    rw [h10] at h1; cases h1
    rw [hT0] at hT; cases hT
    rw [hdT0] at hdT; cases hdT
    rw [h30] at h3
    simp [rawInt] at h3
end
theorem funFrames_less {h B B' : Heap} (k : ∀ b, B.get? b = none → B'.get? b = none) : ∀ {l : List Env}, h.FunFrames B l → h.FunFrames B' l
  | [], _ => trivial
  | _ :: _, ⟨hk, ⟨L, o, hf, hn, ho, hd⟩, hr⟩ => ⟨hk, ⟨L, o, hf, k _ hn, ho, hd⟩, funFrames_less k hr⟩
section
variable {X : Cx} {pins pins' : List (Addr × Obj)} {σ σ' : L2.St} {H3 H' : Hp} {s3 s' s'' : Shared} {W : XK} {u : Value} {scope : Scope} {ce : Env} {fp : List Addr} {xe : Value → Shared → Prop}
theorem comp_raise (tk : L2N.Takes X (fun cls d _ H => W cls d H)) (hs : X.stack = X.env :: X.outer) (hf : X.env.frame = some X.env.locals) (cf : ce.frame = X.env.frame) (cL : s3.heap.objs.size ≤ ce.locals)
    (I3 : Inv X pins σ H3 s3) (f3 : ∀ b ∈ fp, FpOk X pins H3 b) (I : Inv ((X.blk s3 H3 scope ce fp).wish xe) pins' σ' H' s') (c : L2N.CX X.prog X.w X.stack H' s' W u s'') :
    notedBy (model X.prog X.w) X.A ce (CompFails (model X.prog X.w) X.A X.xe ce) u s'' := by
  obtain ⟨a, B, sI, p2, σ2, H2, cls, d, rfl, J0, nb, up, fl, na, os, ag, w⟩ := fly_call I c
  have J : Inv (X.blk s3 H3 scope ce fp) p2 σ2 H2 sI := J0.unwish
  have nb : ∀ b o, sI.heap.get? b = some o → b ∉ frs X.stack → B.get? b = some o := nb
  have fl : HandSPX.FlyingZ B (X.env :: X.outer) a (L2N.Zn cls d) s''.heap := by
    have z : HandSPX.FlyingZ B X.stack a (L2N.Zn cls d) s''.heap := fl
    rw [hs] at z
    exact z
  have hfr : X.A.frames = some (X.env :: X.outer) := by rw [I3.ok.frames, hs]
  have nC : H2 ce.locals = none := J.free
  obtain ⟨m, hn, _⟩ := J.loc
  have hn : sI.heap.Ns ce.locals m := hn
  show wpAny _ _ (noteFrame (.ref a) ce) _ _ _
  rw [noteFrame_env _ cf]
  refine PXN.looks_onZ L2N.Zn.steady hfr hf fl fun h1 hh up1 => ?_
  have up01 := up.trans up1
  have n1 : h1.Ns ce.locals m := up01.ns hn
  show CompFails _ _ _ ce (.ref a) _
  refine ⟨m, n1, fun h2 m2 n2 sb => ?_⟩
  obtain ⟨b1, b2, b3, oe, vs, T, oT, ts, he, hz, hd, g1, hnT, hTe, hT, hdT, g3⟩ := hh
  have ne1 : ∀ b o vs', h1.get? b = some o → o.data = .fields vs' → b ≠ ce.locals := fun b o vs' e1 e2 z => by
    obtain ⟨oL, es, ep, hoL, hdL, _⟩ := n1
    rw [z, hoL] at e1
    cases e1
    rw [hdL] at e2
    cases e2
  have he2 : h2.get? a = some oe := (sb.2 a (ne1 _ _ _ he hd)).trans he
  have hT2 : h2.get? T = some oT := (sb.2 T (ne1 _ _ _ hT hdT)).trans hT
  have held : HandSPX.HeldZ (PySem.W.hideAll B [ce.locals]) (X.env :: X.outer) a (L2N.Zn cls d) X.env.locals h2 := by
    refine ⟨fun b o e => ?_, ?_, ?_, oe, vs, T, oT, ts, he2, hz, hd, g1, ?_, hTe, hT2, hdT, g3⟩
    · have nb2 : b ≠ ce.locals := fun z => by
        rw [z, PySem.W.hideAll_none [ce.locals] (List.mem_singleton.mpr rfl)] at e
        cases e
      exact (sb.2 b nb2).trans (b1 b o (PySem.W.of_hideAll _ e))
    · cases q : (PySem.W.hideAll B [ce.locals]).get? a with
      | none => rfl
      | some o =>
        have z := PySem.W.of_hideAll _ q
        rw [b2] at z
        cases z
    · refine funFrames_less (fun b e => ?_) (Heap.FunFrames.sameBut sb n2 b3)
      cases q : (PySem.W.hideAll B [ce.locals]).get? b with
      | none => rfl
      | some o =>
        have z := PySem.W.of_hideAll _ q
        rw [e] at z
        cases z
    · cases q : (PySem.W.hideAll B [ce.locals]).get? T with
      | none => rfl
      | some o =>
        have z := PySem.W.of_hideAll _ q
        rw [hnT] at z
        cases z
  show wpAny _ _ (PySem.passOn "comprehension.variables-let-go" (.ref a) ce : Sem Value) _ _ _
  unfold PySem.passOn
  refine wpAny_bind (wpAny_field he2 hd g1 ?_)
  rw [if_neg (show ¬ ((Value.ref T == Value.none) = true) from by simp), cf, hf]
  refine wpAny_bind (HandSPX.setFlight_onZ held fun h4 hh4 up4 => ?_)
  refine wpAny_throw ?_
  have I7 : Inv X pins σ H2 sI := I3.call' (ch := fp) J.os J.base J.hok J.bare fun b hb => ⟨(f3 b hb).2.2.2.1, (f3 b hb).2.1, (f3 b hb).2.2.2.2.1, (f3 b hb).2.2.2.2.2⟩
  obtain ⟨f0, f1, f2, f3', f4, f5⟩ := I3.fpOk (H' := H2) cL nC
  have I8 := I7.turned (t' := sI.toks) (h' := PySem.W.hideAll sI.heap [ce.locals]) (fun b o hb e => PySem.W.hideAll_get [ce.locals] e (by simpa using hb)) f0 f1 f3' f4 f5
  refine tk _ _ ⟨a, PySem.W.hideAll B [ce.locals], _, pins, σ, H2, cls, d, rfl, I8, fun b o e hb => ?_, ?_, .inr (.inr (by rw [hs]; exact hh4)), na, os, ag, w⟩
  · have e : (PySem.W.hideAll sI.heap [ce.locals]).get? b = some o := e
    have nb2 : b ≠ ce.locals := fun z => by
      rw [z, PySem.W.hideAll_none [ce.locals] (List.mem_singleton.mpr rfl)] at e
      cases e
    exact PySem.W.hideAll_get [ce.locals] (nb b o (PySem.W.of_hideAll _ e) hb) (by simpa using nb2)
  · intro b o e hnf
    have e : (PySem.W.hideAll sI.heap [ce.locals]).get? b = some o := e
    have nb2 : b ≠ ce.locals := fun z => by
      rw [z, PySem.W.hideAll_none [ce.locals] (List.mem_singleton.mpr rfl)] at e
      cases e
    obtain ⟨sl, e1⟩ := up01 b o (PySem.W.of_hideAll _ e) hnf
    have e2 : h2.get? b = some { o with slots := sl } := (sb.2 b nb2).trans e1
    exact up4 b { o with slots := sl } e2 hnf
end
/-- where a block's refusal goes -/
def wishC (X : Cx) (use : Option (Value → Sem Unit)) (Qf : Value → Shared → Prop) (D : Addr) (ce : Env) : Value → Shared → Prop :=
  notedBy (model X.prog X.w) X.A ce fun e s' => compEnds (model X.prog X.w) X.A X.xe use Qf (.ref D) ce (.error e) s'
section
variable {X : Cx}
theorem lcX_core {pins : List (Addr × Obj)} {s : Shared} {σ : L2.St} {H : Hp} {Q : VK} {W : XK} {elt tg iter : Expr} {ifs : List Expr} {scope : Scope} {own : List (Str × Nat)} {pos pos' : Pos} {wi : TI} {g : TG} {tt : TT} {te : TE} {use : Option (Value → Sem Unit)} {Qf : Value → Shared → Prop}
    (hc : X.calm = true) (hN : X.N.Nodup) (tk : L2N.Takes X (fun cls d _ H => W cls d H)) (hst : X.stack = X.env :: X.outer) (hfr : X.env.frame = some X.env.locals) (I : Inv X pins σ H s) (hi : PI X tg iter wi) (ok : BlkOk X.N X.env.scope scope own)
    (hg : ∀ (s : Shared) (H : Hp) (C : Addr) (cl : List (Str × Addr)) (fp : List Addr), PG (X.blk s H scope (compEnvC scope cl C X.env) fp) tg g) (ht : ∀ (s : Shared) (H : Hp) (C : Addr) (cl : List (Str × Addr)) (fp : List Addr), PTs (X.blk s H scope (compEnvC scope cl C X.env) fp) ifs tt)
    (he : ∀ (s : Shared) (H : Hp) (C : Addr) (cl : List (Str × Addr)) (fp : List Addr) (xe : Value → Shared → Prop), (∀ σ, PassesAt (L2N.CX X.prog X.w) ((X.blk s H scope (compEnvC scope cl C X.env) fp).wish xe) σ W) → PE ((X.blk s H scope (compEnvC scope cl C X.env) fp).wish xe) elt te)
    (hs : ∀ x, foldedSetIterable iter X.env x = pure x) (h : tLc wi g tt te (own.map (·.2)) σ H Q)
    (hRR : ∀ D (ce : Env) s' m H', Inv X pins σ H' s' → Q (.ref D) H' → s'.heap.Ns ce.locals m → FpOk X pins H' ce.locals → compEnds (model X.prog X.w) X.A X.xe use Qf (.ref D) ce (.ok .next) s') :
    wpAny (model X.prog X.w) X.A (comprehension (.ListComp elt [⟨tg, iter, ifs, 0⟩] scope pos) scope X.env pos' (newList []) false (eval iter X.env) use) Qf X.xe s := by
  have hfree : ∀ y ∈ scope.names, y.2 = .free → ∃ c, X.env.cells.lookup y.1 = some c := fun y hy e =>
    (ok.free y hy e).elim (fun k => I.ok.has _ (.inl k)) fun k => I.ok.has _ (.inr k)
  refine comprehension_at (use := use) rfl hs (closure_ok hfree) ok.kind (fun y hy e => by rw [ok.uniq y hy, e])
    (thn (hi.run pins s σ H _ I h) fun xv s1 hx => thn hx fun itv s2 h2 => ?_)
  obtain ⟨it, fp, tn, J, H2, e, I2, T, st2, f2, q⟩ := h2
  subst e
  refine wpAny_newObj_type (newEnv_comp ?_) (by show 0 ≤ sizeLine; decide)
  generalize hD : s2.heap.objs.size = D
  obtain ⟨W0, ⟨m0, w0⟩, turn⟩ := q D (I2.hok.fresh (Nat.le_of_eq hD))
  generalize hs3 : ({ s2 with heap := s2.heap.push { cls := .type "list", data := .seq ([] : List Value).toArray } } : Shared) = s3
  have h3 : s3.heap = s2.heap.push { cls := .type "list", data := .seq ([] : List Value).toArray } := by rw [← hs3]
  have I3 : Inv X pins σ (upd H2 D (.lst [])) s3 := by
    rw [← hs3]
    refine I2.laid (t' := s2.toks) (fun b o e => Heap.get?_push_of_some _ e) (Nat.le_of_eq hD) ⟨Nat.zero_le _, [], 0, .nil, ?_⟩
    rw [← hD]
    exact Heap.get?_push_size _ rfl
  have f3 : ∀ b ∈ fp, FpOk X pins (upd H2 D (.lst [])) b ∧ b < s3.heap.objs.size := fun b hb => by
    obtain ⟨o, eo, _⟩ := T.obj _ _ st2 b hb
    have hlt := Heap.lt_size eo
    refine ⟨⟨?_, (f2 b hb).2⟩, by rw [h3, Heap.size_push]; exact Nat.lt_succ_of_lt hlt⟩
    rw [upd_ne (by rw [← hD]; exact Nat.ne_of_lt hlt)]
    exact (f2 b hb).1
  have st3 : tn 0 s3.heap := T.keep _ _ _ st2 fun b _ o e => by rw [h3]; exact Heap.get?_push_of_some _ e
  have I4 := block_start I3 ok hN f3
  have pg := hg s3 (upd H2 D (.lst [])) s3.heap.objs.size (cellsFrom (s3.heap.objs.size + 1) scope.names (cloFrom X.env.cells scope.names [])) fp
  have pt := ht s3 (upd H2 D (.lst [])) s3.heap.objs.size (cellsFrom (s3.heap.objs.size + 1) scope.names (cloFrom X.env.cells scope.names [])) fp
  have pe := he s3 (upd H2 D (.lst [])) s3.heap.objs.size (cellsFrom (s3.heap.objs.size + 1) scope.names (cloFrom X.env.cells scope.names [])) fp
  have nfp : ∀ b ∈ fp, (upd H2 D (.lst [])) b = none := fun b hb => (f3 b hb).1.1
  show codeAny _ _ (.compStart (.ListComp elt [⟨tg, iter, ifs, 0⟩] scope pos) 0 (.ref it) (.ref D) (compEnvC scope (cellsFrom (s3.heap.objs.size + 1) scope.names (cloFrom X.env.cells scope.names [])) s3.heap.objs.size X.env))
    (compEnds (model X.prog X.w) X.A X.xe use Qf (.ref D) (compEnvC scope (cellsFrom (s3.heap.objs.size + 1) scope.names (cloFrom X.env.cells scope.names [])) s3.heap.objs.size X.env)) { s3 with heap := pushCells (s3.heap.push { cls := .type "dict", data := .dict #[] }) scope.names }
  have cf : (compEnvC scope (cellsFrom (s3.heap.objs.size + 1) scope.names (cloFrom X.env.cells scope.names [])) s3.heap.objs.size X.env).frame = X.env.frame := rfl
  generalize hce : compEnvC scope (cellsFrom (s3.heap.objs.size + 1) scope.names (cloFrom X.env.cells scope.names [])) s3.heap.objs.size X.env = ce at I4 pg pt pe cf ⊢
  have cL : ce.locals = s3.heap.objs.size := by subst hce; rfl
  generalize hH3 : upd H2 D (.lst []) = H3 at I3 I4 pg pt pe w0 nfp f3
  generalize hs4 : ({ s3 with heap := pushCells (s3.heap.push { cls := .type "dict", data := .dict #[] }) scope.names } : Shared) = s4 at I4 ⊢
  have st4 : tn 0 s4.heap := T.keep _ _ _ st3 fun b _ o e => by rw [← hs4]; exact pushCells_keeps _ _ _ _ (Heap.get?_push_of_some _ e)
  -- a refusal's way
  have flies : ∀ σ, PassesAt (L2N.CX X.prog X.w) ((X.blk s3 H3 scope ce fp).wish (wishC X use Qf D ce)) σ W := fun σ' p' H' s' u s'' I' c' => by
    have z := comp_raise tk hst hfr cf (Nat.le_of_eq cL.symm) I3 (fun b hb => (f3 b hb).1) I' c'
    show wishC X use Qf D ce u s''
    unfold wishC
    cases use <;> exact z
  have pe := pe (wishC X use Qf D ce) flies
  have stat : ∀ {σ' : L2.St} {H' : Hp} {s' : Shared}, Inv (X.blk s3 H3 scope ce fp) [] σ' H' s' → (∀ b ∈ fp, H' b = none) → ∀ b ∈ fp, FpOk (X.blk s3 H3 scope ce fp) [] H' b := fun {σ' H' s'} I' hn b hb =>
    ⟨hn b hb, (I'.ok.exf b hb).1, I'.ok.exfs b hb, .inl hb, fun x c e => (I'.ok.exf b hb).2 x c e, fun p hp => absurd (show p ∈ ([] : List (Addr × Obj)) ++ [] from hp) (by simp)⟩
  have loop : codeAny (model X.prog X.w) X.A (.compLoop (.ListComp elt [⟨tg, iter, ifs, 0⟩] scope pos) 0 (.ref it) (.ref D) ce) (compEnds (model X.prog X.w) X.A X.xe use Qf (.ref D) ce) s4 := by
    refine compLoop_any (fun n s' => ∃ i H', Inv (X.blk s3 H3 scope ce fp) [] (wipe σ (own.map (·.2))) H' s' ∧ tn i s'.heap ∧ (∀ b ∈ fp, H' b = none) ∧ W0 i n H') ?_ m0 ⟨0, H3, I4, st4, nfp, w0⟩
    rintro n s5 ⟨i, H5, I5, st5, n5, w5⟩
    rcases turn i n H5 w5 with ⟨stop, qq⟩ | ⟨go, Nx, hNx, step⟩
    · refine thnF (T.done (X.blk s3 H3 scope ce fp) rfl rfl rfl hc i [] s5 _ H5 (fun _ _ => False) I5 (stat I5 n5) st5 stop) fun r s6 ⟨hr, I6⟩ => ?_
      subst hr
      have I7 : Inv X pins σ H5 s6 := I3.call' (ch := fp) I6.os I6.base I6.hok I6.bare fun b hb => ⟨(f3 b hb).1.2.2.2.1, (f3 b hb).1.2.1, (f3 b hb).1.2.2.2.2.1, (f3 b hb).1.2.2.2.2.2⟩
      obtain ⟨m, hn, _⟩ := I6.loc
      exact hRR D ce s6 m H5 I7 qq hn (I3.fpOk (Nat.le_of_eq cL.symm) I6.free)
    · refine thnF (T.item (X.blk s3 H3 scope ce fp) rfl rfl rfl hc i [] s5 _ H5 (fun _ _ => False) I5 (stat I5 n5) st5 go) fun r s6 ⟨u, hr, h6⟩ => ?_
      subst hr
      refine thnF h6 fun _ s7 ⟨x, H7, I7, r7, y7, st7, n7⟩ => ?_
      refine thnF (pg.run _ s7 _ H7 x u _ (I7.pinned (stat I7 n7) (T.obj _ _ st7)) r7 (step x H7 y7)) fun _ s8 ⟨σ8, H8, I8, hw8, q8⟩ => ?_
      refine thnF (pt.run _ s8 σ8 H8 _ I8 q8) fun b s9 ⟨H9, I9, q9⟩ => ?_
      have fin : ∀ {s' : Shared} {H' : Hp}, Inv (X.blk s3 H3 scope ce fp) ([] ++ pinsAt fp s7.heap) σ8 H' s' → Nx H' → ∃ m, m < n ∧ ∃ i H', Inv (X.blk s3 H3 scope ce fp) [] (wipe σ (own.map (·.2))) H' s' ∧ tn i s'.heap ∧ (∀ b ∈ fp, H' b = none) ∧ W0 i m H' := fun {s' H'} I' nx => by
        obtain ⟨m', hm, w'⟩ := hNx H' nx
        have pin' : ∀ b ∈ fp, ∀ o, s7.heap.get? b = some o → s'.heap.get? b = some o ∧ H' b = none := fun b hb o e =>
          let z := I'.pin (b, o) (List.mem_append_right _ (List.mem_append_right _ (mem_pinsAt hb e)))
          ⟨z.1, z.2.1⟩
        refine ⟨m', hm, i + 1, H', (I'.unpinned (pins := [])).weak (by rw [← hw8, wipe_length]) (fun j v e => ?_), T.keep _ _ _ st7 fun b hb o e => (pin' b hb o e).1, fun b hb => ?_, w'⟩
        · rw [← hw8] at e
          exact (wipe_some e).1
        · obtain ⟨o, e, _⟩ := T.obj _ _ st7 b hb
          exact (pin' b hb o e).2
      cases b with
      | false =>
        simp only [Bool.false_eq_true, if_false] at q9 ⊢
        exact fin I9 q9
      | true =>
        simp only [if_true] at q9 ⊢
        refine wpAny_mono (pe.run _ s9 σ8 H9 _ (I9.wish _) q9) (fun z s10 ⟨yv, H10, I10, r10, acc, hD10, hz10, nx⟩ => ?_) fun e s' z => z
        exact app_ok (X := X.blk s3 H3 scope ce fp) I10.unwish hD10 hz10 r10 fun s11 I11 => fin I11 nx
  exact codeAny_compStart_list loop (T.self X.A 0 _ _ _ st4 loop)
/-- name = [..] on one line, the name a local; the element may refuse -/
theorem ps_setLcX {i : Nat} {y : Str} {py : Pos} {W : XK} {elt tg iter : Expr} {ifs : List Expr} {scope : Scope} {own : List (Str × Nat)} {pos spos : Pos} {wi : TI} {g : TG} {tt : TT} {te : TE} (hc : X.calm = true) (hN : X.N.Nodup) (hy : X.N[i]? = some y) (hyl : X.env.scope.names.lookup y = some .local)
    (tk : L2N.Takes X (fun cls d _ H => W cls d H)) (hst : X.stack = X.env :: X.outer) (hfr : X.env.frame = some X.env.locals)
    (hsw : swapsWith (.ListComp elt [⟨tg, iter, ifs, 0⟩] scope pos) (some (.Name y py)) spos.line X.env = pure true) (hi : PI X tg iter wi) (ok : BlkOk X.N X.env.scope scope own)
    (hg : ∀ (s : Shared) (H : Hp) (C : Addr) (cl : List (Str × Addr)) (fp : List Addr), PG (X.blk s H scope (compEnvC scope cl C X.env) fp) tg g) (ht : ∀ (s : Shared) (H : Hp) (C : Addr) (cl : List (Str × Addr)) (fp : List Addr), PTs (X.blk s H scope (compEnvC scope cl C X.env) fp) ifs tt)
    (he : ∀ (s : Shared) (H : Hp) (C : Addr) (cl : List (Str × Addr)) (fp : List Addr) (xe : Value → Shared → Prop), (∀ σ, PassesAt (L2N.CX X.prog X.w) ((X.blk s H scope (compEnvC scope cl C X.env) fp).wish xe) σ W) → PE ((X.blk s H scope (compEnvC scope cl C X.env) fp).wish xe) elt te)
    (hs : ∀ x, foldedSetIterable iter X.env x = pure x := by intro _; rfl) :
    PS X (.Assign [.Name y py] (.ListComp elt [⟨tg, iter, ifs, 0⟩] scope pos) spos) (tAsg (tLc wi g tt te (own.map (·.2))) (gName i)) := by
  refine ⟨fun pins s σ H D I h => ?_⟩
  rw [exec_Assign_Name_used _ _ _ _ hsw]
  refine wpAny_bind (wpAny_standAt (wpAny_bind ?_))
  show wpAny _ X.A (do let _ ← comprehension (.ListComp elt [⟨tg, iter, ifs, 0⟩] scope pos) scope X.env (firstIterPos [⟨tg, iter, ifs, 0⟩] pos) (newList []) false (eval iter X.env) (some (assign (.Name y py) X.env))) _ _ s
  have h : tLc wi g tt te (own.map (·.2)) σ H (fun x H1 => gName i x σ H1 D.nx) := h
  refine wpAny_bind (thn (lcX_core (Qf := fun _ s' => SP X pins D .next s') hc hN tk hst hfr I hi ok hg ht he hs h fun L ce s' m H' I' q hn f => ?_) fun _ s' hq => wpAny_pure (wpAny_pure hq))
  show wpAny _ _ (assign (.Name y py) X.env (.ref L)) _ _ _
  refine wpAny_assign_Name (store_ok2 (v := V.ref L) I' hN hy (.inl hyl) rfl (fun s2 I2 ⟨a, sb, ha⟩ => ?_) (.inr hyl))
  obtain ⟨f0, f1, f2, f3, f4, f5⟩ := f
  have haC : ce.locals ≠ a := by
    rcases ha with z | z
    · rw [z]; exact f1
    · exact fun e => f4 y a z e.symm
  refine ⟨m, hn.sameBut sb haC, fun h3 sb3 => ?_⟩
  exact ⟨_, H', I2.turned (t' := s2.toks) (fun b o hb e => (sb3.2 b hb).trans e) f0 f1 f3 f4 f5, q⟩
end
end Fc
set_option maxHeartbeats 4000000
/-! Texts that are no rules, rules that cannot be. -/
namespace Fc
open PySem PySem.Spec PyProof.Rows L2
/-! ### the first that is not so -/
def firstN (p : Nat → Bool) (n : Nat) : Nat := (List.range n).findIdx fun i => !p i
theorem firstN_le (p : Nat → Bool) (n : Nat) : firstN p n ≤ n := by
  unfold firstN
  have z := List.findIdx_le_length (xs := List.range n) (p := fun i => !p i)
  rw [List.length_range] at z
  exact z
theorem firstN_lt {p : Nat → Bool} {n i : Nat} (h : i < firstN p n) : p i = true := by
  have z := List.not_of_lt_findIdx (xs := List.range n) (p := fun i => !p i) h
  rw [List.getElem_range] at z
  simpa using z
theorem firstN_at {p : Nat → Bool} {n : Nat} (h : firstN p n < n) : p (firstN p n) = false := by
  have h' : (List.range n).findIdx (fun i => !p i) < (List.range n).length := by rw [List.length_range]; exact h
  have z := List.findIdx_getElem (xs := List.range n) (p := fun i => !p i) (w := h')
  rw [List.getElem_range] at z
  have z2 : (!p (firstN p n)) = true := z
  simpa using z2
theorem firstN_is {p : Nat → Bool} {n i : Nat} (hi : i < n) (h : ∀ j, j < i → p j = true) (hp : p i = false) : firstN p n = i := by
  rcases Nat.lt_trichotomy (firstN p n) i with c | c | c
  · have z := firstN_at (Nat.lt_trans c hi)
    rw [h _ c] at z
    cases z
  · exact c
  · have z := firstN_lt c
    rw [hp] at z
    cases z
theorem firstN_all {p : Nat → Bool} {n : Nat} (h : ∀ j, j < n → p j = true) : firstN p n = n := by
  rcases Nat.lt_or_ge (firstN p n) n with c | c
  · have z := firstN_at c
    rw [h _ c] at z
    cases z
  · exact Nat.le_antisymm (firstN_le p n) c
/-! ### a text's rows -/
def wordsT (z : Str) : List Str := Txt.split z " "
def rowsT (t : Str) : List Str := if t = "" then [] else Txt.split t "\n"
def mwM (t : Str) : Bool := decide (t = "-") || isSmallM t
def undash (t : Str) : Str := if t = "-" then "" else t
def rowTk (z : Str) : Bool := decide ((wordsT z).length = 3) && (isSmallM ((wordsT z).getD 0 "") && (mwM ((wordsT z).getD 1 "") && mwM ((wordsT z).getD 2 "")))
def rowTo (z : Str) : Row := ((wordsT z).getD 0 "", undash ((wordsT z).getD 1 ""), undash ((wordsT z).getD 2 ""))
def rowN (zs : List Str) (i : Nat) : Bool := rowTk (zs.getD i "")
/-! ### a rule's rows -/
def headsTo (rs : List Row) (n : Nat) : List Str := riseS ((rs.take n).map (·.1))
def goodAt (rs : List Row) (n : Nat) : Bool := (decide (n < 12) && isRowM (rs.getD n ("", "", ""))) && decide ((headsTo rs (n + 1)).length ≤ 6)
def badR (rs : List Row) : Nat := firstN (goodAt rs) rs.length
theorem nodup_len {l l' : List Str} (h : l.Nodup) (h' : l'.Nodup) (k : ∀ x, x ∈ l ↔ x ∈ l') : l.length = l'.length := ((List.perm_ext_iff_of_nodup h h').mpr k).length_eq
theorem heads_len {rs : List Row} {n : Nat} {l : List Str} (h : l.Nodup) (k : ∀ x, x ∈ l ↔ x ∈ (rs.take n).map (·.1)) : l.length = (headsTo rs n).length :=
  nodup_len h (riseS_rs _).nodup fun x => (k x).trans (riseS_mem x _).symm
theorem take_head {rs : List Row} {i : Nat} {r : Row} (h : rs[i]? = some r) : (rs.take (i + 1)).map (·.1) = (rs.take i).map (·.1) ++ [r.1] := by
  have hi := (List.getElem?_eq_some_iff.mp h)
  obtain ⟨h1, h2⟩ := hi
  rw [← h2, ← List.take_append_getElem h1, List.map_append]
  rfl
theorem getD_at {α : Type} {l : List α} {i : Nat} {x d : α} (h : l[i]? = some x) : l.getD i d = x := by
  rw [List.getD_eq_getElem?_getD, h]
  rfl
/-! ### lengths -/
theorem join_parts (sep : Str) : ∀ l : List Str, (∀ p ∈ l, p.length ≤ (Str.join sep l).length) ∧ (l.map (·.length)).sum + (l.length - 1) * sep.length ≤ (Str.join sep l).length
  | [] => ⟨fun p hp => (nomatch hp), by simp⟩
  | [x] => ⟨fun p hp => by rw [List.mem_singleton.mp hp]; exact Nat.le_refl _, by simp [Str.join]⟩
  | x :: y :: r => by
    obtain ⟨i1, i2⟩ := join_parts sep (y :: r)
    have e : (Str.join sep (x :: y :: r)).length = x.length + sep.length + (Str.join sep (y :: r)).length := by
      show (x ++ sep ++ Str.join sep (y :: r)).length = _
      rw [PySem.Str.length_append, PySem.Str.length_append]
    refine ⟨fun p hp => ?_, ?_⟩
    · rw [e]
      rcases List.mem_cons.mp hp with z | z
      · rw [z]
        omega
      · have q := i1 p z
        omega
    · rw [e]
      simp only [List.map_cons, List.sum_cons, List.length_cons, Nat.add_sub_cancel] at i2 ⊢
      rw [Nat.succ_mul]
      omega
theorem split_parts {x : Str} {c : Nat} : (∀ p ∈ Txt.split x ⟨#[c]⟩, p.length ≤ x.length) ∧ (Txt.split x ⟨#[c]⟩).length ≤ x.length + 1 ∧ ((Txt.split x ⟨#[c]⟩).map (·.length)).sum + ((Txt.split x ⟨#[c]⟩).length - 1) ≤ x.length := by
  have e := StrLaws.join_split x ⟨#[c]⟩
  obtain ⟨h1, h2⟩ := join_parts ⟨#[c]⟩ (Txt.split x ⟨#[c]⟩)
  rw [e] at h1 h2
  have l1 : (⟨#[c]⟩ : Str).length = 1 := rfl
  rw [l1, Nat.mul_one] at h2
  exact ⟨h1, by omega, h2⟩
theorem sp_eq : (" " : Str) = ⟨#[32]⟩ := rfl
theorem nl_eq : ("\n" : Str) = ⟨#[10]⟩ := rfl
theorem wordsT_len {z : Str} : (∀ p ∈ wordsT z, p.length ≤ z.length) ∧ (wordsT z).length ≤ z.length + 1 := by
  unfold wordsT
  rw [sp_eq]
  exact ⟨split_parts.1, split_parts.2.1⟩
theorem rowsT_len {t : Str} : (∀ p ∈ rowsT t, p.length ≤ t.length) ∧ (rowsT t).length ≤ t.length + 1 := by
  unfold rowsT
  split
  · exact ⟨fun p hp => (nomatch hp), Nat.zero_le _⟩
  · rw [nl_eq]
    exact ⟨split_parts.1, split_parts.2.1⟩
theorem getD_len {l : List Str} {n i : Nat} (h : ∀ p ∈ l, p.length ≤ n) : (l.getD i "").length ≤ n := by
  rw [List.getD_eq_getElem?_getD]
  cases e : l[i]? with
  | none => exact Nat.zero_le _
  | some x => exact h x (List.mem_of_getElem? e)
theorem undash_len {t : Str} {n : Nat} (h : t.length ≤ n) : (undash t).length ≤ n := by
  unfold undash
  split
  · exact Nat.zero_le _
  · exact h
theorem rowTo_len (z : Str) : (rowTo z).1.length ≤ z.length ∧ (rowTo z).2.1.length ≤ z.length ∧ (rowTo z).2.2.length ≤ z.length :=
  ⟨getD_len wordsT_len.1, undash_len (getD_len wordsT_len.1), undash_len (getD_len wordsT_len.1)⟩
/-! ### what is promised -/
/-- a refusal of the class x, its field told -/
def Refus (K : PySem.W.Frag) (E : XK) (x fld : Str) (y : V) (H : Hp) : Prop := ∀ d H', Kp N0 H H' → H' d = some (.xd [(fld, y)]) → E (.ref (He.ga K x)) (some d) H'
def LenR (rs : List Row) : Prop := rs.length ≤ 1000 ∧ ∀ r ∈ rs, r.1.length ≤ 1000 ∧ r.2.1.length ≤ 1000 ∧ r.2.2.length ≤ 1000
def spCheckX (K : PySem.W.Frag) (T : List Addr) : Sp := fun vs H Q E => ∃ (v : V) (rs : List Row), vs = [v] ∧ Dn N0 H v (ruleD rs) ∧ LenR rs ∧ Tbs T H ∧ (badR rs = rs.length → ∀ H', Kp N0 H H' → Q .non H') ∧ (badR rs < rs.length → Refus K E "BadRule" "number" (.int (badR rs : Nat)) H)
def spReadRowX (K : PySem.W.Frag) (T : List Addr) : Sp := fun vs H Q E => ∃ (n : Nat) (z : Str), vs = [.int n, .str z] ∧ n ≤ 1000 ∧ z.length ≤ 1000 ∧ Tbs T H ∧
  (rowTk z = true → ∀ t H', H t = none → Kp N0 H H' → H' t = some (.tup [.str (rowTo z).1, .str (rowTo z).2.1, .str (rowTo z).2.2]) → Q (.ref t) H') ∧ (rowTk z = false → Refus K E "BadText" "row" (.int n) H)
/-- which row of the text is none; which row of the rule cannot be -/
def badT (t : Str) : Nat := firstN (rowN (rowsT t)) (rowsT t).length
def ruleTo (t : Str) : List Row := (rowsT t).map rowTo
def spReadX (K : PySem.W.Frag) (T : List Addr) : Sp := fun vs H Q E => ∃ t : Str, vs = [.str t] ∧ t.length ≤ 900 ∧ Tbs T H ∧
  (badT t = (rowsT t).length → badR (ruleTo t) = (ruleTo t).length → ∀ p H', H p = none → Kp N0 H H' → Dn N0 H' (.ref p) (ruleD (ruleTo t)) → Q (.ref p) H') ∧
  (badT t < (rowsT t).length → Refus K E "BadText" "row" (.int (badT t : Nat)) H) ∧
  (badT t = (rowsT t).length → badR (ruleTo t) < (ruleTo t).length → Refus K E "BadRule" "number" (.int (badR (ruleTo t) : Nat)) H)
theorem Refus.kp {K : PySem.W.Frag} {E : XK} {x fld : Str} {y : V} {H H' : Hp} (h : Refus K E x fld y H) (k : Kp N0 H H') : Refus K E x fld y H' := fun d H2 k2 a => h d H2 (k.trans k2) a
theorem Refus.new {K : PySem.W.Frag} {E : XK} {x fld : Str} {y : V} {H : Hp} (h : Refus K E x fld y H) : ∀ d, H d = none → E (.ref (He.ga K x)) (some d) (upd H d (.xd [(fld, y)])) := fun d hd => h d _ (Kp.new hd) upd_same
theorem small_int {n : Nat} (h : n ≤ 1000) : SmallV (.int (n : Int)) := by
  refine .inr ⟨_, rfl, ?_⟩
  show n.log2 < 1920
  have z := Nat.log2_le_self n
  omega
theorem ruleTo_len {t : Str} (h : t.length ≤ 900) : LenR (ruleTo t) := by
  obtain ⟨h1, h2⟩ := rowsT_len (t := t)
  refine ⟨by unfold ruleTo; rw [List.length_map]; omega, fun r hr => ?_⟩
  obtain ⟨z, hz, e⟩ := List.mem_map.mp hr
  have l := h1 z hz
  obtain ⟨a, b, c⟩ := rowTo_len z
  rw [← e]
  omega
/-! ### a comprehension whose element may refuse -/
section
variable {X : Cx} {k j : Nat} {x : Str} {sp : Sp} {p pos : Pos} {e : Expr} {es : List Expr} {t : TA} {W : XK}
theorem pe_cW (c : CalX X.prog X.w X.K X.mg X.base k x sp) (hr : Room j X.A) (hk : k ≤ j) (hg : Gl X x) (hx : ∀ σ, PassesAt (L2N.CX X.prog X.w) X σ W) (ha : PA X (e :: es) t) (hdb : (x == ("__debug__" : Str)) = false := by decide)
    (he : starEach (e :: es) X.env = (false, eval e X.env) :: starEach es X.env := by rfl) (hpl : (backTo pos (starEach es X.env)).any (·.1) = false := by rfl) :
    PE X (.Call (.Name x p) (e :: es) [] pos) (tCallS sp (fun _ => W) t) := by
  obtain ⟨f, fd, ps, F, hm, hkp, hb⟩ := c.ex
  exact pe_callS (F.mono hk) hr hg hm hkp hb hx ha hdb he hpl
end
section
variable {J : It} {n : Nat} {G : Hp → Prop} {Y : Nat → Hp → V → Hp → Prop} {g : TG} {te : TE} {vs : List Nat} {σ : L2.St} {H1 : Hp} {D : Addr} {Qd : Hp → Prop}
/-- all of them, one after another; P is known of those behind -/
theorem lc_allP {α : Type} (P : Nat → Prop) (w : Walk J n G Y) (l : List α) (hn : l.length = n) (v : α → PyData) (hD : H1 D = none) (hl : n ≤ 1000) (hG : ∀ H, Kp N0 H1 H → G H) (p0 : P 0)
    (turn : ∀ (i : Nat) (a : α) (x : V) (H H' : Hp), l[i]? = some a → P i → Kp N0 H1 H → Y i H x H' → ∀ Kt : L2.St → Hp → Prop, (∀ (σ2 : L2.St) (H2 : Hp), Kp N0 H H2 → wipe σ2 vs = wipe σ vs →
      (∀ S', (∀ a, S' a → H2 a ≠ none) → ∀ Q : VK, (∀ y H4, P (i + 1) → Kp N0 H2 H4 → Dn S' H4 y (v a) → Q y H4) → te σ2 H2 Q) → Kt σ2 H2) → g x (wipe σ vs) H' Kt)
    (hd : ∀ H' out, P n → Kp N0 H1 H' → H' D = some (.lst out) → DnA (fun a => a = D) H' out (l.map v) → Qd H') :
    ∃ W : Nat → Nat → Hp → Prop, (∃ m, W 0 m (upd H1 D (.lst []))) ∧ ∀ i m H, W i m H → (J.stop i H ∧ Qd H) ∨ (J.go i H ∧ ∃ Nx : Hp → Prop, (∀ H', Nx H' → ∃ m', m' < m ∧ W (i + 1) m' H') ∧ ∀ x H', J.yld i H x H' → g x (wipe σ vs) H' fun σ2 H2 => wipe σ2 vs = wipe σ vs ∧ tYes σ2 H2 fun b H3 =>
      if b = true then te σ2 H3 fun y H4 => ∃ acc, H4 D = some (.lst acc) ∧ acc.length < sizeLine ∧ Nx (upd H4 D (.lst (acc ++ [y]))) else Nx H3) := by
  refine lc_it w (Pv := fun i H => P i ∧ Kp N0 H1 H ∧ ∃ out, H D = some (.lst out) ∧ out.length = i ∧ DnA (fun a => a = D) H out ((l.take i).map v)) ⟨p0, Kp.new hD, [], upd_same, rfl, .nil⟩ (fun i H _ p => hG H p.2.1) (fun i x H H' hi p y => ?_) fun H p => ?_
  · obtain ⟨pi, k1, out, hout, hlen, hdn⟩ := p
    have hil : i < l.length := by rw [hn]; exact hi
    refine turn i l[i] x H H' (List.getElem?_eq_getElem hil) pi k1 y _ fun σ2 H2 k2 hw elt => ⟨hw, ?_⟩
    have hout2 : H2 D = some (.lst out) := k2.obj hout ntl (fun z => z.elim)
    show te σ2 H2 _
    refine elt (fun a => a = D) (fun a z => ?_) _ fun y2 H4 p4 k4 hy => ?_
    · rw [z, hout2]
      intro q
      cases q
    · have hout4 : H4 D = some (.lst out) := k4.obj hout2 ntl (fun z => z.elim)
      have kd : Kp (fun a => a = D) H4 (upd H4 D (.lst (out ++ [y2]))) := Kp.mutS rfl hout4 ntl ntl
      refine ⟨out, hout4, by rw [hlen, sizeLine_eq]; omega, p4, ((k1.trans k2).trans k4).mut hD, out ++ [y2], upd_same, by rw [List.length_append, hlen]; rfl, ?_⟩
      rw [← List.take_append_getElem hil, List.map_append]
      exact (((hdn.kp k2.up).kp k4.up).kp kd).app (.one (hy.kp kd))
  · obtain ⟨pn, k1, out, hout, _, hdn⟩ := p
    rw [← hn, List.take_length] at hdn
    exact hd H out pn k1 hout hdn
end
end Fc
set_option maxHeartbeats 4000000
/-! Texts spoilt; a reader here. -/
namespace Fc
open PySem PySem.Spec PyProof.Rows L2
/-- how long texts are with a sign between -/
def wl (l : List Str) : Nat := (l.map (·.length)).sum + l.length
theorem wl_app (a b : List Str) : wl (a ++ b) = wl a + wl b := by
  unfold wl
  rw [List.map_append, List.sum_append, List.length_append]
  omega
theorem wl_one (a : Str) : wl [a] = a.length + 1 := by simp [wl]
theorem wl_cut (l : List Str) (j : Nat) : wl (l.take j) + wl (l.drop j) = wl l := by
  rw [← wl_app, List.take_append_drop]
theorem wl_drop (l : List Str) (j : Nat) : wl (l.drop (j + 1)) ≤ wl (l.drop j) := by
  cases h : l.drop j with
  | nil =>
    have e : l.drop (j + 1) = [] := by
      rw [← List.drop_drop, h]
      rfl
    rw [e]
    exact Nat.le_refl _
  | cons a r =>
    have e : l.drop (j + 1) = r := by
      rw [← List.drop_drop, h]
      rfl
    rw [e]
    show wl r ≤ wl ([a] ++ r)
    rw [wl_app]
    omega
theorem split_ne {x : Str} {c : Nat} (h : Txt.split x ⟨#[c]⟩ = []) : x = "" := by
  have e := StrLaws.join_split x ⟨#[c]⟩
  rw [h] at e
  rw [← e]
  rfl
theorem joinN_len (ys : List Str) : (Txt.join "\n" ys).length ≤ wl ys := by
  have e : ys = (ys.map fun z => z.cps.toList).map SX.S := by
    rw [List.map_map]
    exact (List.map_id _).symm.trans (List.map_congr_left fun z _ => (oS_eq (z := z) rfl))
  have e0 : ("\n" : Str) = SX.S [10] := rfl
  have z := SX.join_S [10] (ys.map fun z => z.cps.toList)
  rw [← e, ← e0] at z
  rw [z]
  show (oS (TL.joinL [10] (ys.map fun z => z.cps.toList))).length ≤ _
  rw [len_cps, oS_cps]
  have q := joinL_len 10 (ys.map fun z => z.cps.toList)
  have e2 : ((ys.map fun z => z.cps.toList).map List.length) = ys.map (·.length) := by
    rw [List.map_map]
    exact List.map_congr_left fun x _ => (len_cps x).symm
  rw [e2, List.length_map] at q
  exact q
theorem rows_wl (t : Str) : wl (Txt.split t "\n") ≤ t.length + 1 := by
  have z := (split_parts (x := t) (c := 10)).2.2
  rw [nl_eq]
  unfold wl
  by_cases h : Txt.split t ⟨#[10]⟩ = []
  · rw [h]
    simp
  · have l : 1 ≤ (Txt.split t ⟨#[10]⟩).length := by
      cases e : Txt.split t ⟨#[10]⟩ with
      | nil => exact absurd e h
      | cons a r => simp
    omega
theorem rows_pos (t : Str) : 1 ≤ (Txt.split t "\n").length := by
  cases e : Txt.split t "\n" with
  | nil =>
    exfalso
    have z := split_ne (by rw [← nl_eq]; exact e)
    subst z
    have q : Txt.split "" "\n" = [("" : Str)] := by decide +kernel
    rw [q] at e
    cases e
  | cons a r => simp
def oddT : List Str := ["", " ", "law", "law a", "law a b c", "law - -", "rest a -", "law ab bc", "law ba -", "law - z"]
def oddU : List Str := ["sevenxx a -", "law  a", "- a b", "law a -b", "Law a -", "law a -- ", "x - -", "law A -"]
theorem odd_short : ∀ o ∈ oddT ++ oddU, o.length ≤ 11 := by decide +kernel
def signsT : Str := " -abcdefghi\nlrstxyzABC0129!#$&()*+,./:;<=>?\x40[]^_`{|}~"
end Fc
set_option maxHeartbeats 4000000
/-! A reader here. -/
namespace Fc
open PySem PySem.Spec PyProof.Rows L2
section
variable {X : Cx}
/-- list(text) -/
theorem cr_listT (hc : X.calm = true) : CallR X (.type "list") (fun xs H Q => ∃ z : Str, xs = [.str z] ∧ z.length ≤ 5000 ∧ ∀ p, H p = none → Q (.ref p) (upd H p (.lst ((z.cps.toList.map signS).map V.str)))) := by
  intro pins s σ H vs us Q I r h
  obtain ⟨z, rfl, hl, q⟩ := h
  obtain ⟨u, rfl, ru⟩ := vals1 r
  obtain ⟨tz, rfl⟩ := ru
  have sz : z.cps.size = z.cps.toList.length := by simp
  have hl2 : z.cps.size ≤ 5000 := hl
  refine call_list_str (I.ok.hd hc) z tz (fun h' tk acc' c' hk hS ⟨i1, i2⟩ => ?_) (by rw [sizeLine_eq]; omega)
  have ln : ((z.cps.toList.map signS).map V.str).length = acc'.toList.length := by rw [List.length_map, List.length_map, ← sz, ← i1]; simp
  refine ⟨.ref s.heap.objs.size, _, I.laid (t' := tk) hk (Nat.le_refl _) (show ObjOk X.prog X.w _ h' _ (.lst ((z.cps.toList.map signS).map V.str)) from ⟨by rw [List.length_map, List.length_map, ← sz, sizeLine_eq]; omega, acc'.toList, c', ?_, hS⟩), rfl, q _ (I.hok.fresh (Nat.le_refl _))⟩
  refine vals_of_at ln fun j x w h1 h2 => ?_
  obtain ⟨c, u, hc2, rfl⟩ := i2 j w (by rw [← Array.getElem?_toList]; exact h2)
  have e : z.cps.toList[j]? = some c := by simpa using hc2
  rw [List.getElem?_map, List.getElem?_map, e] at h1
  cases h1
  exact ⟨u, rfl⟩
end
/-! ### signs that can be -/
def OkT (t : Str) : Prop := ∀ c ∈ t.cps.toList, c < 1114112
theorem OkT.ok {t : Str} (h : OkT t) : PyData.strOk t = true := strOk_of h
theorem okT_sign {c : Nat} (h : c < 1114112) : OkT ⟨#[c]⟩ := fun d hd => by
  have e : d = c := by simpa using hd
  rw [e]
  exact h
theorem okT_app {a b : Str} (h1 : OkT a) (h2 : OkT b) : OkT (a ++ b) := fun c hc => by
  rw [add_cps] at hc
  exact (List.mem_append.mp hc).elim (h1 c) (h2 c)
theorem okT_cut {a : Str} (h : OkT a) (lo hi : Option Int) : OkT (cutS a lo hi) := fun c hc => by
  have e : (cutS a lo hi).cps.toList = (a.cps.toList.drop (HT.sIx a.length 0 lo)).take (HT.sIx a.length a.length hi - HT.sIx a.length 0 lo) := by
    unfold cutS
    simp
  rw [e] at hc
  exact h c (List.mem_of_mem_drop (List.mem_of_mem_take hc))
theorem join_mem (sep : Str) : ∀ (l : List Str), ∀ p ∈ l, ∀ c ∈ p.cps.toList, c ∈ (Str.join sep l).cps.toList
  | [x], p, hp, c, hc => by rw [List.mem_singleton.mp hp] at hc; exact hc
  | x :: y :: r, p, hp, c, hc => by
    have e : Str.join sep (x :: y :: r) = (x ++ sep) ++ Str.join sep (y :: r) := rfl
    rw [e, add_cps, add_cps, List.mem_append, List.mem_append]
    rcases List.mem_cons.mp hp with z | z
    · rw [z] at hc
      exact .inl (.inl hc)
    · exact .inr (join_mem sep (y :: r) p z c hc)
theorem okT_split {x : Str} {c : Nat} (h : OkT x) : ∀ p ∈ Txt.split x ⟨#[c]⟩, OkT p := fun p hp d hd => by
  have z := join_mem ⟨#[c]⟩ _ p hp d hd
  rw [StrLaws.join_split] at z
  exact h d z
theorem joinL_mem (s : Nat) : ∀ (l : List (List Nat)) (c : Nat), c ∈ TL.joinL [s] l → c = s ∨ ∃ p ∈ l, c ∈ p
  | [], c, h => nomatch h
  | [p], c, h => .inr ⟨p, List.mem_singleton.mpr rfl, h⟩
  | p :: q :: r, c, h => by
    have h : c ∈ p ++ ([s] ++ TL.joinL [s] (q :: r)) := h
    rw [List.mem_append, List.mem_append, List.mem_singleton] at h
    rcases h with z | z | z
    · exact .inr ⟨p, List.mem_cons_self, z⟩
    · exact .inl z
    · rcases joinL_mem s (q :: r) c z with y | ⟨y, hy, hc⟩
      · exact .inl y
      · exact .inr ⟨y, List.mem_cons_of_mem _ hy, hc⟩
theorem okT_joinN {ys : List Str} (h : ∀ y ∈ ys, OkT y) : OkT (Txt.join "\n" ys) := fun c hc => by
  have e : ys = (ys.map fun z => z.cps.toList).map SX.S := by
    rw [List.map_map]
    exact (List.map_id _).symm.trans (List.map_congr_left fun z _ => (oS_eq (z := z) rfl))
  have e0 : ("\n" : Str) = SX.S [10] := rfl
  have z := SX.join_S [10] (ys.map fun z => z.cps.toList)
  rw [← e, ← e0] at z
  rw [z] at hc
  have hc : c ∈ (oS (TL.joinL [10] (ys.map fun z => z.cps.toList))).cps.toList := hc
  rw [oS_cps] at hc
  rcases joinL_mem 10 _ c hc with y | ⟨y, hy, hd⟩
  · omega
  · obtain ⟨z, hz, e⟩ := List.mem_map.mp hy
    rw [← e] at hd
    exact h z hz c hd
theorem okT_words {z : Str} (h : OkT z) : ∀ p ∈ wordsT z, OkT p := by
  unfold wordsT
  rw [sp_eq]
  exact okT_split h
theorem okT_rows {t : Str} (h : OkT t) : ∀ p ∈ rowsT t, OkT p := by
  unfold rowsT
  split
  · exact fun p hp => nomatch hp
  · rw [nl_eq]
    exact okT_split h
theorem okT_getD {l : List Str} {i : Nat} (h : ∀ p ∈ l, OkT p) : OkT (l.getD i "") := by
  rw [List.getD_eq_getElem?_getD]
  cases e : l[i]? with
  | none => exact fun c hc => nomatch hc
  | some x => exact h x (List.mem_of_getElem? e)
theorem okT_undash {t : Str} (h : OkT t) : OkT (undash t) := by
  unfold undash
  split
  · exact fun c hc => nomatch hc
  · exact h
theorem okT_row {z : Str} (h : OkT z) : OkT (rowTo z).1 ∧ OkT (rowTo z).2.1 ∧ OkT (rowTo z).2.2 :=
  ⟨okT_getD (okT_words h), okT_undash (okT_getD (okT_words h)), okT_undash (okT_getD (okT_words h))⟩
theorem okB {t : Str} (h : (t.cps.toList.all fun c => decide (c < 1114112)) = true) : OkT t := fun c hc => of_decide_eq_true (List.all_eq_true.mp h c hc)
theorem odd_ok : ∀ o ∈ oddT ++ oddU, (o.cps.toList.all fun c => decide (c < 1114112)) = true := by decide +kernel
theorem signs_ok : ∀ c ∈ signsT.cps.toList, c < 1114112 := by decide +kernel
/-! ### what the reader promises -/
def spSmallL : Sp := fun vs H Q _ => ∃ t : Str, vs = [.str t] ∧ t.length ≤ 1000 ∧ OkT t ∧ ∀ H', Kp N0 H H' → Q (.bl (isSmallM t)) H'
def spMarksL : Sp := fun vs H Q _ => ∃ t : Str, vs = [.str t] ∧ t.length ≤ 1000 ∧ OkT t ∧ ∀ H', Kp N0 H H' → Q (.bl (isMarksM t)) H'
/-- what is due of a text -/
def dueTD (t : Str) : PyData := if badT t < (rowsT t).length then .tuple [.str "BadText", .int (badT t : Nat)] else
  if badR (ruleTo t) < (ruleTo t).length then .tuple [.str "BadRule", .int (badR (ruleTo t) : Nat)] else .tuple [.str "told", ruleD (ruleTo t)]
def spDue17 : Sp := fun vs H Q _ => ∃ t : Str, vs = [.str t] ∧ t.length ≤ 900 ∧ OkT t ∧ ∀ v H', Kp N0 H H' → Dn N0 H' v (dueTD t) → Q v H'
def spRead17 (T : List Addr) : Sp := fun vs H Q _ => ∃ t : Str, vs = [.str t] ∧ t.length ≤ 900 ∧ Tbs T H ∧ ∀ v H', Kp N0 H H' → Dn N0 H' v (dueTD t) → Q v H'
theorem signs_okL {z : Str} (h : OkT z) (f : Nat → Bool) : ∀ y ∈ (z.cps.toList.filter f).map signS, PyData.strOk y = true := fun y hy => by
  obtain ⟨c, hc, e⟩ := List.mem_map.mp hy
  rw [← e]
  exact (okT_sign (h c (List.mem_filter.mp hc).1)).ok
theorem eqv_strs (l m : List Str) : PyData.eqv (.list (l.map PyData.str)) (.list (m.map PyData.str)) = decide (l = m) := eqvAll_str l m
theorem signsS_inj {a b : List Nat} (h : a.map signS = b.map signS) : a = b := by
  refine List.map_inj_right (f := signS) (fun x y e => ?_) |>.mp h
  have z := congrArg (fun s : Str => s.cps.toList) e
  simpa [signS] using z
theorem marks_signs (t : Str) : decide (t.cps.toList.map signS = (a2h.cps.toList.filter (sg t)).map signS) = isMarksM t := by
  unfold isMarksM
  refine decide_eq_decide.mpr ⟨fun h => ?_, fun h => ?_⟩
  · refine str_ext ?_
    rw [oS_cps]
    exact signsS_inj h
  · have z : t.cps.toList = a2h.cps.toList.filter (sg t) := (congrArg (fun s : Str => s.cps.toList) h).trans (oS_cps _)
    exact congrArg (List.map signS) z
theorem small_signs (t : Str) : ((t.cps.toList.filter fun c => !sg abc c).map signS).isEmpty = t.cps.toList.all (sg abc) := by
  rw [List.isEmpty_map, filt_all]
def spSpoilt : Sp := fun vs H Q _ => ∃ (b l : Addr) (t : Str), vs = [.ref b, .str t] ∧ Box H b l ∧ t.length ≤ 420 ∧ OkT t ∧ ∀ (t' : Str) H', t'.length ≤ 2 * t.length + 13 → OkT t' → Box H' b l → Kp (sB b l) H H' → Q (.str t') H'
theorem und_pick (w : Str) : atI [V.str w, V.str ""] (if (decide (V.str w = V.str "-")) = true then 1 else 0) = some (V.str (undash w)) := by
  unfold undash
  by_cases e : w = "-"
  · subst e
    rfl
  · rw [if_neg e, if_neg (by simpa using e)]
    rfl
theorem mw_filter (a b : Str) : (([a, b].filter fun w => !mwM w)).isEmpty = (mwM a && mwM b) := by
  cases h1 : mwM a <;> cases h2 : mwM b <;> simp [h1, h2]
theorem isRow_of {r : Row} (h : isSmallM r.1 = true) : isRowM r = ((decide (r.1.length ≤ 6) && !decide (r.1 = "rest")) && ((isMarksM r.2.1 && isMarksM r.2.2) && !r.2.1.cps.toList.any (sg r.2.2))) := by
  unfold isRowM
  rw [isWord_small, h, Bool.true_and]
  have e : decide ((r.1.length : Int) ≤ 6) = decide (r.1.length ≤ 6) := decide_eq_decide.mpr (by omega)
  rw [e]
theorem over_signs (a b : Str) : ((a.cps.toList.filter fun c => sg b c).map signS).isEmpty = !a.cps.toList.any (sg b) := by
  rw [List.isEmpty_map, filt_any]
/-- the rows of the text in slot 0 -/
def rowsE : TE := fun σ H Q => ∃ t : Str, σ[0]? = some (some (.str t)) ∧ t.length ≤ 4000 ∧ ∀ W, H W = none → Q (.ref W) (upd H W (.lst ((rowsT t).map V.str)))
theorem good_few {rs : List Row} (h : badR rs = rs.length) : rs.length ≤ 12 := by
  rcases Nat.lt_or_ge 12 rs.length with c | c
  · have z : goodAt rs 12 = true := firstN_lt (p := goodAt rs) (n := rs.length) (by
      have e : firstN (goodAt rs) rs.length = rs.length := h
      rw [e]
      exact c)
    unfold goodAt at z
    simp at z
  · exact c
theorem due_small {t : Str} (h : t.length ≤ 900) : PyData.depth (dueTD t) < 4 ∧ PyData.weight (dueTD t) ≤ 1000000 := by
  have lR := ruleTo_len h
  have rl := (rowsT_len (t := t)).2
  have b1 : badT t ≤ 1000 := Nat.le_trans (firstN_le _ _) (by omega)
  have b2 : badR (ruleTo t) ≤ 1000 := Nat.le_trans (firstN_le _ _) lR.1
  have wi : ∀ n : Nat, n ≤ 1000 → (n : Int).natAbs.log2 ≤ 1000 := fun n h => by
    have z := Nat.log2_le_self n
    show n.log2 ≤ 1000
    omega
  unfold dueTD
  split
  · have w := wi _ b1
    refine ⟨by simp [PyData.depth, PyData.depthAll], ?_⟩
    simp only [PyData.weight, PyData.weightAll]
    have e1 : (("BadText" : Str)).cps.size = 7 := by decide
    rw [e1]
    split <;> omega
  · split
    · have w := wi _ b2
      refine ⟨by simp [PyData.depth, PyData.depthAll], ?_⟩
      simp only [PyData.weight, PyData.weightAll]
      have e1 : (("BadRule" : Str)).cps.size = 7 := by decide
      rw [e1]
      split <;> omega
    · rename_i c1 c2
      have few := good_few (Nat.le_antisymm (firstN_le (goodAt (ruleTo t)) _) (Nat.not_lt.mp c2))
      have key : ∀ l : List Row, (∀ r ∈ l, r.1.length ≤ 1000 ∧ r.2.1.length ≤ 1000 ∧ r.2.2.length ≤ 1000) → PyData.depthAll (l.map rowD) ≤ 1 ∧ PyData.weightAll (l.map rowD) ≤ 12100 * l.length := by
        intro l
        induction l with
        | nil => exact fun _ => ⟨by simp [PyData.depthAll], by simp [PyData.weightAll]⟩
        | cons r l ih =>
          intro h
          obtain ⟨i1, i2⟩ := ih fun x hx => h x (List.mem_cons_of_mem _ hx)
          obtain ⟨l1, l2, l3⟩ := h r List.mem_cons_self
          have e : ∀ z : Str, z.length = z.cps.size := fun _ => rfl
          rw [e] at l1 l2 l3
          simp only [List.map_cons, PyData.depthAll, PyData.weightAll, rowD, PyData.depth, PyData.weight, List.length_cons]
          omega
      obtain ⟨a, b⟩ := key (ruleTo t) lR.2
      have e1 : (("told" : Str)).cps.size = 4 := by decide
      unfold ruleD
      simp only [PyData.depth, PyData.depthAll, PyData.weight, PyData.weightAll, e1]
      omega
theorem rowT_ok {r : Row} (h : isRowM r = true) : OkT (rowT r) := fun c hc => by
  have p := part_sg h
  obtain ⟨h1, h2, h3⟩ := row_parts h
  have w : ∀ c ∈ abc.cps.toList, c < 1114112 := by decide +kernel
  have d : ∀ {m : Str}, isMarksM m = true → ∀ c ∈ (dashM m).cps.toList, c < 1114112 := fun hm c hc => (dash_sg hm c hc).elim (w c) fun z => by rw [z]; decide
  unfold rowT at hc
  rw [add_cps, add_cps, add_cps, add_cps] at hc
  have e : ((" " : Str)).cps.toList = [32] := by decide
  rw [e] at hc
  simp only [List.mem_append, List.mem_singleton] at hc
  rcases hc with ((((z | z) | z) | z) | z)
  · exact w c ((word_sg h1).1 c z)
  · rw [z]; decide
  · exact d h2 c z
  · rw [z]; decide
  · exact d h3 c z
theorem ruleT_okT {rs : List Row} (h : ∀ r ∈ rs, isRowM r = true) : OkT (ruleT rs) := by
  unfold ruleT
  refine okT_joinN fun y hy => ?_
  obtain ⟨r, hr, e⟩ := List.mem_map.mp hy
  rw [← e]
  exact rowT_ok (h r hr)
end Fc
set_option maxHeartbeats 4000000
/-! Things known to the object, known for a while only. -/
namespace Fc
open PySem PySem.Spec PyProof.Rows L2
/-- the very object -/
def pinO (o : Obj) : HO := .frz o (.own 0)
abbrev Pn : Type := List (Addr × Obj)
def augH (p : Pn) (H : Hp) : Hp := fun b => match p.lookup b with
  | some o => some (pinO o)
  | none => H b
def strH (p : Pn) (H : Hp) : Hp := fun b => if (p.lookup b).isSome = true then none else H b
section
variable {p : Pn} {H H' : Hp} {b : Addr} {o : Obj}
theorem augH_in (h : p.lookup b = some o) : augH p H b = some (pinO o) := by unfold augH; rw [h]
theorem augH_out (h : p.lookup b = none) : augH p H b = H b := by unfold augH; rw [h]
theorem strH_in (h : p.lookup b = some o) : strH p H b = none := by unfold strH; rw [h]; rfl
theorem strH_out (h : p.lookup b = none) : strH p H b = H b := by unfold strH; rw [h]; rfl
theorem strH_some {u : HO} (h : strH p H b = some u) : p.lookup b = none ∧ H b = some u := by
  cases e : p.lookup b with
  | none => rw [strH_out e] at h; exact ⟨rfl, h⟩
  | some o => rw [strH_in e] at h; cases h
theorem pinO_ne {u : HO} (h : ∀ o v, u ≠ .frz o v) : u ≠ pinO o := h _ _
end
section
variable {P : Program} {w : World} {p : Pn} {H H1 H2 : Hp} {h h2 B : Heap} {fs : List Addr}
theorem aug_hok (x : HOk P w H h) (k : ∀ b o, p.lookup b = some o → h.get? b = some o ∧ H b = none) : HOk P w (augH p H) h := fun a o e => by
  cases q : p.lookup a with
  | some ob =>
    rw [augH_in q] at e
    cases e
    exact ⟨(k _ _ q).1, _, (k _ _ q).1⟩
  | none =>
    rw [augH_out q] at e
    have n : ∀ c u, H c = some u → p.lookup c = none := fun c u z => by
      cases y : p.lookup c with
      | none => rfl
      | some ob => rw [(k _ _ y).2] at z; cases z
    exact (x a o e).stay (fun _ _ _ z => z) (fun c z => by rw [augH_out (n _ _ z)]; exact z) fun c xs z => by rw [augH_out (n _ _ z)]; exact z
theorem str_hok (x : HOk P w H h) (k : ∀ b o, p.lookup b = some o → H b = some (pinO o)) : HOk P w (strH p H) h := fun a o e => by
  obtain ⟨e1, e2⟩ := strH_some e
  have n : ∀ c u, H c = some u → (∀ o v, u ≠ .frz o v) → p.lookup c = none := fun c u z y => by
    cases q : p.lookup c with
    | none => rfl
    | some ob =>
      rw [k _ _ q] at z
      exact absurd (Option.some.inj z).symm (y _ _)
  exact (x a o e2).stay (fun _ _ _ z => z) (fun c z => by rw [strH_out (n _ _ z (fun _ _ q => nomatch q))]; exact z) fun c xs z => by rw [strH_out (n _ _ z (fun _ _ q => nomatch q))]; exact z
theorem pin_at (x : HOk P w H h) {b : Addr} {o : Obj} (e : H b = some (pinO o)) : h.get? b = some o := (x b _ e).1
/-- pinned while a call runs -/
theorem un_out (u : Un fs [] (augH p H) H2 h h2) (hok : HOk P w H2 h2) (k : ∀ b o, p.lookup b = some o → h.get? b = some o ∧ H b = none ∧ b ∉ fs) : Un fs [] H (strH p H2) h h2 := by
  have n : ∀ c v, H c = some v → p.lookup c = none := fun c v z => by
    cases y : p.lookup c with
    | none => rfl
    | some ob => rw [(k _ _ y).2.1] at z; cases z
  refine ⟨fun b o e z hb hx => ?_, fun b o e z hb hx => ?_, fun b o e z hx => ?_, fun b o e hx => u.there b o e hx, fun b xs z => ?_, fun b o v z => ?_, fun b ps z => ?_⟩
  · cases q : p.lookup b with
    | some ob =>
      have e1 := u.frzs b ob (.own 0) (augH_in q)
      have e2 := pin_at hok e1
      rw [(k _ _ q).1] at e
      cases e
      exact e2
    | none => exact u.keep b o e (by rw [augH_out q]; exact z) hb hx
  · cases q : p.lookup b with
    | some ob => exact absurd hb (k _ _ q).2.2
    | none => exact u.slot b o e (by rw [augH_out q]; exact z) hb hx
  · cases q : p.lookup b with
    | some ob => exact strH_in q
    | none => rw [strH_out q]; exact u.free b o e (by rw [augH_out q]; exact z) hx
  · rw [strH_out (n _ _ z)]
    exact u.tups b xs (by rw [augH_out (n _ _ z)]; exact z)
  · rw [strH_out (n _ _ z)]
    exact u.frzs b o v (by rw [augH_out (n _ _ z)]; exact z)
  · rw [strH_out (n _ _ z)]
    exact u.tbls b ps (by rw [augH_out (n _ _ z)]; exact z)
/-- let go while a call runs -/
theorem un_in (u : Un fs [] (strH p H) H2 h h2) (k : ∀ b o, p.lookup b = some o → H b = some (pinO o)) : Un fs [] H (augH p H2) h h2 := by
  have n : ∀ c v, H c = some v → (∀ o u, v ≠ .frz o u) → p.lookup c = none := fun c v z y => by
    cases q : p.lookup c with
    | none => rfl
    | some ob =>
      rw [k _ _ q] at z
      exact absurd (Option.some.inj z).symm (y _ _)
  have n0 : ∀ c, H c = none → p.lookup c = none := fun c z => by
    cases q : p.lookup c with
    | none => rfl
    | some ob => rw [k _ _ q] at z; cases z
  refine ⟨fun b o e z hb hx => u.keep b o e (by rw [strH_out (n0 _ z)]; exact z) hb hx, fun b o e z hb hx => u.slot b o e (by rw [strH_out (n0 _ z)]; exact z) hb hx, fun b o e z hx => ?_, fun b o e hx => u.there b o e hx, fun b xs z => ?_, fun b o v z => ?_, fun b ps z => ?_⟩
  · rw [augH_out (n0 _ z)]
    exact u.free b o e (by rw [strH_out (n0 _ z)]; exact z) hx
  · have y := n _ _ z (fun _ _ q => nomatch q)
    rw [augH_out y]
    exact u.tups b xs (by rw [strH_out y]; exact z)
  · cases q : p.lookup b with
    | some ob =>
      rw [k _ _ q] at z
      cases z
      exact augH_in q
    | none =>
      rw [augH_out q]
      exact u.frzs b o v (by rw [strH_out q]; exact z)
  · have y := n _ _ z (fun _ _ q => nomatch q)
    rw [augH_out y]
    exact u.tbls b ps (by rw [strH_out y]; exact z)
theorem ub_in (u : UB fs (strH p H) H2 h B h2) (k : ∀ b o, p.lookup b = some o → H b = some (pinO o)) : UB fs H (augH p H2) h B h2 := by
  have n : ∀ c v, H c = some v → (∀ o u, v ≠ .frz o u) → p.lookup c = none := fun c v z y => by
    cases q : p.lookup c with
    | none => rfl
    | some ob =>
      rw [k _ _ q] at z
      exact absurd (Option.some.inj z).symm (y _ _)
  have n0 : ∀ c, H c = none → p.lookup c = none := fun c z => by
    cases q : p.lookup c with
    | none => rfl
    | some ob => rw [k _ _ q] at z; cases z
  refine ⟨fun b o e z hb => u.keep b o e (by rw [strH_out (n0 _ z)]; exact z) hb, u.slot, fun b o e z => ?_, u.there, fun b xs z => ?_, fun b o v z => ?_, fun b ps z => ?_⟩
  · rw [augH_out (n0 _ z)]
    exact u.free b o e (by rw [strH_out (n0 _ z)]; exact z)
  · have y := n _ _ z (fun _ _ q => nomatch q)
    rw [augH_out y]
    exact u.tups b xs (by rw [strH_out y]; exact z)
  · cases q : p.lookup b with
    | some ob =>
      rw [k _ _ q] at z
      cases z
      exact augH_in q
    | none =>
      rw [augH_out q]
      exact u.frzs b o v (by rw [strH_out q]; exact z)
  · have y := n _ _ z (fun _ _ q => nomatch q)
    rw [augH_out y]
    exact u.tbls b ps (by rw [strH_out y]; exact z)
end
end Fc
set_option maxHeartbeats 4000000
/-! Lambdas without parameters, or with one that has a default: made, kept, called elsewhere. -/
namespace Fc
open PySem PySem.Spec PyProof.Rows L2 LamX
def lamFd (qual : Str) (params : Arguments) (body : Expr) (scope : Scope) (cl : List (Str × Addr)) (pm : Value) (c : Addr) (ctv dV : Value) : FuncData := { PySem.W.kla_fn "<lambda>" qual params body scope cl pm (.ref c) ctv with defaults := dV }
def lamO (qual : Str) (params : Arguments) (body : Expr) (scope : Scope) (cl : List (Str × Addr)) (pm : Value) (c : Addr) (ctv dV : Value) : Obj := { cls := .type "function", data := .func (lamFd qual params body scope cl pm c ctv dV) }
/-- how the code object came -/
inductive Coded (s h' : Heap) (P : Addr) (ps : Array Value) (pos : Pos) (qual : Str) (c' : Addr) : Prop
  | made (n : codeAmong pos ps.toList = none) (x : Heap.ExtBut P s h') (ge : s.objs.size ≤ c') (lt : c' < h'.objs.size) (rec : h'.CodeRec (.ref c') qual) (tab : h'.get? P = some { cls := .none, data := .fields (ps ++ #[rawInt pos.line, rawInt pos.col, .ref c']) })
  | found (n : codeAmong pos ps.toList = some (.ref c')) (k : ∀ b o, s.get? b = some o → h'.get? b = some o)
section
variable {M : Model} {A : Around} {E : Value → Shared → Prop} {s : Shared} {qual : Str} {params : Arguments} {body : Expr} {scope : Scope} {env : Env} {c P : Addr} {ps : Array Value} {pos : Pos} {firstLine : Nat} {mg : Str → Option Value} {clos : List (Str × Addr)} {Q : Value → Shared → Prop} {dV : Value}
theorem lam_tail (hcl : closureFor scope env = pure clos) (hge0 : env.globals = mainGlobals) (hg : s.heap.Ns mainGlobals mg) (hcode : env.code = .ref c) (C : PySem.W.CodeHd s.heap c P) (hP : s.heap.get? P = some { cls := .none, data := .fields ps }) (ht : TriplesOk ps.toList)
    (hnm : ∀ cv, codeAmong pos ps.toList = some cv → ∃ c', cv = .ref c') (hgP : mainGlobals ≠ P) (hb : s.heap.BuiltinsAt mg P)
    (h : ∀ c' ctv h' tk, Coded s.heap h' P ps pos qual c' → s.heap.objs.size ≤ h'.objs.size → Q (.ref h'.objs.size) { s with heap := h'.push (lamO qual params body scope clos ((mg "__name__").getD .none) c' ctv dV), toks := tk }) :
    wpAny M A (makeTail "<lambda>" qual params (.expr body) scope env dV .none none pos firstLine) Q E s := by
  obtain ⟨bm, ob, hbm, hne0, _, hneP, hbo, hcls, hdict, hdata⟩ := hb
  unfold makeTail
  rw [hcl, hge0]
  refine wpAny_bind (wpAny_pure ?_)
  have hsz : ∀ oT : Obj, s.heap.objs.size ≤ (s.heap.push oT).objs.size := fun oT => by rw [Heap.size_push]; omega
  cases clos with
  | nil =>
    simp only [List.isEmpty_nil, if_true]
    refine wpAny_bind (wpAny_pure ?_)
    cases hc : codeAmong pos ps.toList with
    | none =>
      refine wpAny_bind (wpAny_functionCodeX hcode (C.code hP ht) (C.tab hP) hc fun c' h' tk hx hge hlt _ hrec htb _ => ?_)
      have hg' := hg.extBut hx hgP
      refine wpAny_bind (wpAny_builtinsFor hg' hbm hne0 (hx _ _ hneP hbo) hcls hdict hdata ?_)
      refine wpAny_bind (wpAny_nsGet hg' ?_)
      exact wpAny_bind (wpAny_pure (wpAny_newObj_type (h c' .none h' tk (.made hc hx hge hlt hrec htb.2) (Nat.le_trans hge (Nat.le_of_lt hlt))) (by size_fits)))
    | some cv =>
      obtain ⟨c', rfl⟩ := hnm cv hc
      refine wpAny_bind (wpAny_functionCode_hit hcode (C.code hP ht) hc ?_)
      refine wpAny_bind (wpAny_builtinsFor hg hbm hne0 hbo hcls hdict hdata ?_)
      refine wpAny_bind (wpAny_nsGet hg ?_)
      exact wpAny_bind (wpAny_pure (wpAny_newObj_type (h c' .none s.heap s.toks (.found hc fun _ _ e => e) (Nat.le_refl _)) (by size_fits)))
  | cons q r =>
    simp only [List.isEmpty_cons, Bool.false_eq_true, if_false]
    refine wpAny_bind (wpAny_newTextTuple ?_)
    cases hc : codeAmong pos ps.toList with
    | none =>
      refine wpAny_bind (wpAny_functionCodeX hcode ((C.keeps fun b o e => Heap.get?_push_of_some _ e).code (Heap.get?_push_of_some _ hP) ht) ((C.keeps fun b o e => Heap.get?_push_of_some _ e).tab (Heap.get?_push_of_some _ hP)) hc fun c' h' tk hx hge hlt _ hrec htb _ => ?_)
      have hg' := (hg.push _).extBut hx hgP
      have hx' : Heap.ExtBut P s.heap h' := fun b o hb' e => hx b o hb' (Heap.get?_push_of_some _ e)
      have hge' : s.heap.objs.size ≤ c' := Nat.le_trans (by rw [Heap.size_push]; omega) hge
      refine wpAny_bind (wpAny_builtinsFor hg' hbm hne0 (hx' _ _ hneP hbo) hcls hdict hdata ?_)
      refine wpAny_bind (wpAny_nsGet hg' ?_)
      exact wpAny_bind (wpAny_pure (wpAny_newObj_type (h c' _ h' tk (.made hc hx' hge' hlt hrec htb.2) (Nat.le_trans hge' (Nat.le_of_lt hlt))) (by size_fits)))
    | some cv =>
      obtain ⟨c', rfl⟩ := hnm cv hc
      refine wpAny_bind (wpAny_functionCode_hit hcode ((C.keeps fun b o e => Heap.get?_push_of_some _ e).code (Heap.get?_push_of_some _ hP) ht) hc ?_)
      refine wpAny_bind (wpAny_builtinsFor (hg.push _) hbm hne0 (Heap.get?_push_of_some _ hbo) hcls hdict hdata ?_)
      refine wpAny_bind (wpAny_nsGet (hg.push _) ?_)
      exact wpAny_bind (wpAny_pure (wpAny_newObj_type (h c' _ _ s.toks (.found hc fun b o e => Heap.get?_push_of_some _ e) (hsz _)) (by size_fits)))
end
/-- the defaults: none, or one nought -/
def DfV (n : Nat) (H : Hp) (dV : Value) : Prop := (n = 0 ∧ dV = .none) ∨ (n = 1 ∧ ∃ T, dV = .ref T ∧ H T = some (.tup [.int 0]))
theorem DfV.kp {n : Nat} {H H' : Hp} {dV : Value} (h : DfV n H dV) (k : Kp N0 H H') : DfV n H' dV := by
  rcases h with h | ⟨h1, T, h2, h3⟩
  · exact .inl h
  · exact .inr ⟨h1, T, h2, k.obj h3 ntt nn⟩
section
variable {X : Cx} {pins : List (Addr × Obj)} {σ : L2.St} {H : Hp} {s : Shared}
/-- behind the defaults -/
theorem lam_rest {c P : Addr} {q : Str} {params : Arguments} {body : Expr} {scope : Scope} {pos : Pos} {dV : Value} {n : Nat} {E : Value → Shared → Prop} {Q : Value → Shared → Prop} (I : Inv X pins σ H s) (TB : TabB X.base X.mg c P) (hcode : X.env.code = .ref c)
    (hT : TabS H P q) (hd : DfV n H dV) (hfree : ∀ y ∈ scope.names, y.2 = .free → ∃ c, X.env.cells.lookup y.1 = some c)
    (h : ∀ (f c' : Addr) (pm ctv : Value) (H1 : Hp) (s' : Shared), Inv X pins σ H1 s' → Kp N0 H H1 → TabS H1 P q → H f = none → H1 f = some (pinO (lamO q params body scope (cloFrom X.env.cells scope.names []) pm c' ctv dV)) → H1 c' = some (CodeO c' q) → DfV n H1 dV → Q (.ref f) s') :
    wpAny (model X.prog X.w) X.A (makeTail "<lambda>" q params (.expr body) scope X.env dV .none none pos pos.line) Q E s := by
  obtain ⟨ps, hP, ht, ha⟩ := hT
  have bP : s.heap.BuiltinsAt X.mg P := TB.bm.keeps I.bk
  have hP' : s.heap.get? P = some { cls := .none, data := .fields ps } := I.hok P _ hP
  refine lam_tail (mg := X.mg) (c := c) (P := P) (ps := ps) (closure_ok hfree) I.ok.glob (I.mod.glob.keeps I.bk) hcode (TB.code.keeps I.bk) hP' ht (fun cv e => (ha pos cv e).elim fun c z => ⟨c, z.1⟩) TB.gP bP fun c' ctv h' tk cd hsz => ?_
  cases cd with
  | made hc hx hge hlt hrec htb =>
    obtain ⟨c2, oc, vs, t, e2, hoc, hd2, hv⟩ := hrec
    cases e2
    have nC : H c' = none := I.hok.fresh hge
    have I1 := inv_table (t' := tk) (more := #[rawInt pos.line, rawInt pos.col, .ref c']) (h' := h') (q := q) I hP hx htb hge ⟨oc, vs, t, hoc, hd2, hv⟩
    have eL : (ps ++ #[rawInt pos.line, rawInt pos.col, .ref c']).toList = ps.toList ++ [rawInt pos.line, rawInt pos.col, .ref c'] := by simp
    have tr : TriplesOk (ps ++ #[rawInt pos.line, rawInt pos.col, .ref c']).toList := by rw [eL]; exact PySem.TriplesOk_snoc _ _ _ _ ht
    have nPc : P ≠ c' := ne_of_none hP nC
    have k1 : Kp N0 H (upd (upd H P (.tbl (ps ++ #[rawInt pos.line, rawInt pos.col, .ref c']))) c' (CodeO c' q)) := fun b o e => by
      have nb : b ≠ c' := ne_of_none e nC
      by_cases hb : b = P
      · rw [hb, hP] at e
        cases e
        exact ⟨_, by rw [hb, upd_ne nPc, upd_same], .inr (.inr ⟨⟨ps, rfl, ht⟩, ⟨_, rfl, tr⟩⟩)⟩
      · exact ⟨o, by rw [upd_ne nb, upd_ne hb]; exact e, .inl rfl⟩
    generalize hH1 : upd (upd H P (.tbl (ps ++ #[rawInt pos.line, rawInt pos.col, .ref c']))) c' (CodeO c' q) = H1 at I1 k1
    have a1 : H1 c' = some (CodeO c' q) := by rw [← hH1]; exact upd_same
    have aP : H1 P = some (.tbl (ps ++ #[rawInt pos.line, rawInt pos.col, .ref c'])) := by rw [← hH1, upd_ne nPc]; exact upd_same
    have nf : H1 h'.objs.size = none := I1.hok.fresh (Nat.le_refl _)
    have I2 := I1.laid (t' := tk) (a := h'.objs.size) (o := pinO (lamO q params body scope (cloFrom X.env.cells scope.names []) ((X.mg "__name__").getD .none) c' ctv dV)) (h' := h'.push (lamO q params body scope (cloFrom X.env.cells scope.names []) ((X.mg "__name__").getD .none) c' ctv dV)) (fun b o e => Heap.get?_push_of_some _ e) (Nat.le_refl _) ⟨Heap.get?_push_size _ rfl, _, Heap.get?_push_size _ rfl⟩
    have k2 := k1.trans (Kp.new (o := pinO (lamO q params body scope (cloFrom X.env.cells scope.names []) ((X.mg "__name__").getD .none) c' ctv dV)) nf)
    refine h h'.objs.size c' _ ctv _ _ I2 k2 ⟨_, by rw [upd_ne (ne_of_none aP nf)]; exact aP, tr, fun p' cv hcv => ?_⟩ (I.hok.fresh hsz) upd_same (by rw [upd_ne (ne_of_none a1 nf)]; exact a1) (hd.kp k2)
    rw [eL] at hcv
    rcases among_app _ ht hcv with z | z
    · obtain ⟨c0, e1, e2⟩ := ha p' cv z
      exact ⟨c0, e1, k2.obj e2 (fun ⟨_, e, _⟩ => codeO_ne _ e) nn⟩
    · exact ⟨c', z, by rw [upd_ne (ne_of_none a1 nf)]; exact a1⟩
  | found hc k =>
    obtain ⟨c0, e1, hco⟩ := ha pos _ hc
    cases e1
    have I1 : Inv X pins σ H { s with heap := h', toks := tk } := I.kept k
    have nf : H h'.objs.size = none := I1.hok.fresh (Nat.le_refl _)
    have I2 := I1.laid (t' := tk) (a := h'.objs.size) (o := pinO (lamO q params body scope (cloFrom X.env.cells scope.names []) ((X.mg "__name__").getD .none) c' ctv dV)) (h' := h'.push (lamO q params body scope (cloFrom X.env.cells scope.names []) ((X.mg "__name__").getD .none) c' ctv dV)) (fun b o e => Heap.get?_push_of_some _ e) (Nat.le_refl _) ⟨Heap.get?_push_size _ rfl, _, Heap.get?_push_size _ rfl⟩
    have k2 : Kp N0 H _ := Kp.new (o := pinO (lamO q params body scope (cloFrom X.env.cells scope.names []) ((X.mg "__name__").getD .none) c' ctv dV)) nf
    refine h h'.objs.size c' _ ctv _ _ I2 k2 ⟨ps, by rw [upd_ne (ne_of_none hP nf)]; exact hP, ht, fun p' cv hcv => ?_⟩ nf upd_same (by rw [upd_ne (ne_of_none hco nf)]; exact hco) (hd.kp k2)
    obtain ⟨c2, e1, e2⟩ := ha p' cv hcv
    exact ⟨c2, e1, by rw [upd_ne (ne_of_none e2 nf)]; exact e2⟩
end
/-- such a lambda made: P its maker's table -/
def tLamO (cells : List (Str × Addr)) (P : Addr) (q : Str) (params : Arguments) (body : Expr) (scope : Scope) (n : Nat) : TE := fun σ H Q => TabS H P q ∧ ∀ (f c' : Addr) (pm ctv dV : Value) (H1 : Hp), Kp N0 H H1 → TabS H1 P q → H f = none →
  H1 f = some (pinO (lamO q params body scope (cloFrom cells scope.names []) pm c' ctv dV)) → H1 c' = some (CodeO c' q) → DfV n H1 dV → Q (.ref f) H1
section
variable {X : Cx}
theorem pe_lam0 {c P : Addr} {params : Arguments} {body : Expr} {scope : Scope} {pos : Pos} (TB : TabB X.base X.mg c P) (hcode : X.env.code = .ref c) (hdef : defaultsOf params X.env = ([], [])) (L : ∀ y ∈ scope.names, y.2 = .free → X.env.scope.names.lookup y.1 = some .cell ∨ X.env.scope.names.lookup y.1 = some .free) :
    PE X (.Lambda params body scope pos) (tLamO X.env.cells P (X.env.qual ++ "<lambda>") params body scope 0) := by
  refine ⟨fun pins s σ H Q I h => ?_⟩
  obtain ⟨hT, h⟩ := h
  refine PySem.W.kla_eval hdef ?_
  rw [makeFunction_eq]
  simp only [List.zip_nil_right, List.filterMap_nil, List.isEmpty_nil, if_true, pure_bind]
  refine lam_rest I TB hcode hT (n := 0) (.inl ⟨rfl, rfl⟩) (fun y hy e => (L y hy e).elim (fun z => I.ok.has _ (.inl z)) fun z => I.ok.has _ (.inr z)) fun f c' pm ctv H1 s' I1 k1 T1 n1 a1 a2 a3 => ?_
  exact ⟨.ref f, H1, I1, rfl, h f c' pm ctv .none H1 k1 T1 n1 a1 a2 a3⟩
theorem pe_lam1 {c P : Addr} {params : Arguments} {body : Expr} {scope : Scope} {pos p0 : Pos} {j : Nat} (TB : TabB X.base X.mg c P) (hcode : X.env.code = .ref c) (hdef : defaultsOf params X.env = ([eval (.Constant (.int 0) j p0) X.env], [])) (hkw : params.kwonlyargs = [])
    (L : ∀ y ∈ scope.names, y.2 = .free → X.env.scope.names.lookup y.1 = some .cell ∨ X.env.scope.names.lookup y.1 = some .free) :
    PE X (.Lambda params body scope pos) (tLamO X.env.cells P (X.env.qual ++ "<lambda>") params body scope 1) := by
  refine ⟨fun pins s σ H Q I h => ?_⟩
  obtain ⟨hT, h⟩ := h
  rw [arm_eval_Lambda, hdef]
  show wpAny _ _ (do let dv ← evalAll [eval (.Constant (.int 0) j p0) X.env]; let kdv ← holding dv (evalAllOpt []); makeFunction "<lambda>" (X.env.qual ++ "<lambda>") params (.expr body) scope X.env dv kdv [] pos pos.line) _ _ s
  have pi : PE X (.Constant (.int 0) j p0) (tC (.int 0)) := pe_int
  refine wpAny_bind ?_
  show wpAny _ _ (do let v ← eval (.Constant (.int 0) j p0) X.env; return v :: (← holding [v] (evalAll []))) _ _ s
  refine wpAny_bind (thn (pi.run pins s σ H (fun v H1 => v = .int 0 ∧ H1 = H) I ⟨rfl, rfl⟩) fun u s1 ⟨v, H1, I1, r1, ev, eH⟩ => ?_)
  subst ev
  subst eH
  refine wpAny_bind (wpAny_holding (wpAny_pure (wpAny_pure ?_)))
  refine wpAny_bind (wpAny_holding (wpAny_pure ?_))
  rw [makeFunction_eq, hkw]
  simp only [List.zip_nil_left, List.filterMap_nil, List.isEmpty_nil, List.isEmpty_cons, if_true, pure_bind, Bool.false_eq_true, if_false]
  refine wpAny_bind (wpAny_newTextTuple ?_)
  have nT : H1 s1.heap.objs.size = none := I1.hok.fresh (Nat.le_refl _)
  have I2 := I1.laid (t' := s1.toks) (a := s1.heap.objs.size) (o := .tup [.int 0]) (h' := s1.heap.push { cls := .type "tuple", data := .seq [u].toArray }) (fun b o e => Heap.get?_push_of_some _ e) (Nat.le_refl _)
    ⟨by show 1 ≤ sizeLine; rw [sizeLine_eq]; omega, [u], .cons r1 .nil, _, Heap.get?_push_size _ rfl, rfl, _, rfl⟩
  have k1 : Kp N0 H1 (upd H1 s1.heap.objs.size (.tup [.int 0])) := Kp.new nT
  have T2 : TabS (upd H1 s1.heap.objs.size (.tup [.int 0])) P (X.env.qual ++ "<lambda>") := hT.ext fun b o e => by rw [upd_ne (ne_of_none e nT)]; exact e
  refine lam_rest I2 TB hcode T2 (n := 1) (.inr ⟨rfl, _, rfl, upd_same⟩) (fun y hy e => (L y hy e).elim (fun z => I1.ok.has _ (.inl z)) fun z => I1.ok.has _ (.inr z)) fun f c' pm ctv H2 s' I3 k2 T3 n1 a1 a2 a3 => ?_
  exact ⟨.ref f, H2, I3, rfl, h f c' pm ctv _ H2 (k1.trans k2) T3 (by
    cases e : H1 f with
    | none => rfl
    | some o =>
      rw [upd_ne (ne_of_none e nT)] at n1
      rw [e] at n1
      cases n1) a1 a2 a3⟩
end
end Fc
set_option maxHeartbeats 4000000
/-! A lambda called where it is handed to. -/
namespace Fc
open PySem PySem.Spec PyProof.Rows L2 LamX
/-- the cell's object holds v -/
def CellIs (o : Obj) (v : V) : Prop := ∃ u, RelV v u ∧ o.data = .cell (some u)
/-- the captured cells, pinned -/
structure CellsP (p : Pn) (cl : List (Str × Addr)) (fr : List Str) (ws : List (Option V)) (H : Hp) : Prop where
  len : ws.length = fr.length
  all : ∀ y c, cl.lookup y = some c → ∃ o v, p.lookup c = some o ∧ o.data = .cell v
  inj : ∀ x y c, cl.lookup x = some c → cl.lookup y = some c → x = y
  has : ∀ (i : Nat) (y : Str), fr[i]? = some y → ∃ c, cl.lookup y = some c ∧ ∀ v, ws[i]? = some (some v) → ∃ o, p.lookup c = some o ∧ CellIs o v
  pin : ∀ b o, p.lookup b = some o → H b = some (pinO o)
theorem CellsP.kp {p : Pn} {cl : List (Str × Addr)} {fr : List Str} {ws : List (Option V)} {H H' : Hp} (c : CellsP p cl fr ws H) (k : Kp N0 H H') : CellsP p cl fr ws H' :=
  ⟨c.len, c.all, c.inj, c.has, fun b o h => k.obj (c.pin b o h) (fun ⟨_, e, _⟩ => nomatch e) nn⟩
/-- the pins are unknown -/
def Gone (p : Pn) (H : Hp) : Prop := ∀ b o, p.lookup b = some o → H b = none
/-- what is called without arguments, and what it makes of a heap -/
def WorkP (P : Program) (w : World) (K : PySem.W.Frag) (mg : Str → Option Value) (base : Heap) (k : Nat) (f : Addr) (R : Hp → VK → XK → Prop) : Prop :=
  ∀ (A : Around) (outer : List Env) (s : Shared) (H : Hp) (Q : VK) (E : XK), Room k A → Env0 P w K mg base A outer s H → R H Q E →
    PySem.W.FnAt f s.heap ∧ codeAny (model P w) A (.call (.ref f) ⟨[], []⟩) (CR (L2N.CX P w) outer P w H s Q E) s
/-- how its one parameter, if it has one, is bound -/
def BindsL (q : Str) (params : Arguments) (body : Expr) (scope : Scope) (ps : List Str) : Prop :=
  (ps = [] ∧ ∀ cl pm c ctv, bindArgs (lamFd q params body scope cl pm c ctv .none) ⟨[], []⟩ = pure []) ∨
  ∃ a, ps = [a] ∧ ∀ cl pm c ctv (T : Addr), ∃ kk, bindArgs (lamFd q params body scope cl pm c ctv (.ref T)) ⟨[], []⟩ = seqItems? (.ref T) >>= kk ∧ ∀ u, kk (some #[u]) = pure [(a, u)]
abbrev lamNF (q : Str) (params : Arguments) (scope : Scope) (cl : List (Str × Addr)) (c : Addr) : NdefX.NF := ⟨"<lambda>", q, params, [], scope, cl, c⟩
def zeros (ps : List Str) : List V := ps.map fun _ => .int 0
section
variable {P : Program} {w : World} {K : PySem.W.Frag} {mg : Str → Option Value} {base : Heap}
/-- the reading of a call of the lambda at f: tb its body's -/
def RLam (q : Str) (params : Arguments) (body : Expr) (scope : Scope) (cl : List (Str × Addr)) (N ps fr : List Str) (ws : List (Option V)) (f : Addr) (tb : XK → TE) : Hp → VK → XK → Prop := fun H Q E =>
  ∃ (pm ctv dV : Value) (c' : Addr) (p : Pn), H f = some (pinO (lamO q params body scope cl pm c' ctv dV)) ∧ H c' = some (CodeO c' q) ∧ DfV ps.length H dV ∧ CellsP p cl fr ws H ∧ tb (fun cls d H' => Gone p H' → E cls d (augH p H')) (NdefX.startF N (zeros ps) ws) (strH p H) fun v H' => Gone p H' → Q v (augH p H')
theorem lam_work {k : Nat} {q : Str} {params : Arguments} {body : Expr} {scope : Scope} {cl : List (Str × Addr)} {N ps fr : List Str} {ws : List (Option V)} {f : Addr} {tb : XK → TE} (S : NdefX.NScope N ps fr scope) (hb : BindsL q params body scope ps)
    (hbody : ∀ (c' : Addr) (A : Around) (outer : List Env) (s : Shared) (H : Hp) (E : XK), Room k (A.deeper (NdefX.envF (lamNF q params scope cl c') f s.heap.objs.size)) →
      L2N.Takes (NdefX.ncx (L2N.CX P w) P w K mg base N (lamNF q params scope cl c') f A outer s H E) (fun cls d _ H => E cls d H) → PE (NdefX.ncx (L2N.CX P w) P w K mg base N (lamNF q params scope cl c') f A outer s H E) body (tb E)) :
    WorkP P w K mg base (k + 1) f (RLam q params body scope cl N ps fr ws f tb) := by
  intro A outer s H Q E hr e0 h
  obtain ⟨pm, ctv, dV, c', p, af, ac, df, C, ht⟩ := h
  have of := pin_at e0.hok af
  refine ⟨⟨_, _, _, _, of⟩, ?_⟩
  have lim : s.heap.NoLimit := e0.mod.nolimit.keeps fun b o e => (e0.bs b o e).1
  have pinH : ∀ b o, p.lookup b = some o → s.heap.get? b = some o := fun b o e => pin_at e0.hok (C.pin b o e)
  have pfr : ∀ b o, p.lookup b = some o → b ∉ frs outer := fun b o e z => by
    have y := C.pin b o e
    rw [e0.frf b z] at y
    cases y
  have e0' : Env0 P w K mg base A outer s (strH p H) := ⟨e0.frames, e0.mod, fun b o e => ⟨(e0.bs b o e).1, by
    cases y : p.lookup b with
    | some ob => exact strH_in y
    | none => rw [strH_out y]; exact (e0.bs b o e).2⟩, e0.bsz, e0.funs, fun b hb => by
    cases y : p.lookup b with
    | some ob => exact strH_in y
    | none => rw [strH_out y]; exact e0.frf b hb, str_hok e0.hok C.pin, e0.bare⟩
  have CA : NdefX.CellsAt cl fr ws s.heap (strH p H) := ⟨C.len, fun y c e => by
    obtain ⟨o, v, h1, h2⟩ := C.all y c e
    exact ⟨strH_in h1, v, o, pinH _ _ h1, h2⟩, C.inj, fun i y e => by
    obtain ⟨c, h1, h2⟩ := C.has i y e
    refine ⟨c, h1, fun v hv => ?_⟩
    obtain ⟨o, h3, u, h4, h5⟩ := h2 v hv
    exact ⟨u, h4, o, pinH _ _ h3, h5⟩⟩
  obtain ⟨⟨oc, vs, t, hoc, hdc, hvc⟩, _, _⟩ := e0.hok c' _ ac
  -- the end
  have back : ∀ r s', CR (L2N.CX P w) outer P w (strH p H) s (fun v H' => Gone p H' → Q v (augH p H')) (fun cls d H' => Gone p H' → E cls d (augH p H')) r s' → CR (L2N.CX P w) outer P w H s Q E r s' := fun r s' hq => by
    cases r with
    | error u =>
      obtain ⟨a, B, H', cls, d, rfl, fl, hok, ub, na, os, ag, hE⟩ := hq
      have kB : ∀ b o, p.lookup b = some o → B.get? b = some o ∧ H' b = none := fun b o e => ⟨ub.keep b o (pinH b o e) (strH_in e) (pfr b o e), ub.free b o (pinH b o e) (strH_in e)⟩
      refine ⟨a, B, augH p H', cls, d, rfl, fl, aug_hok hok kB, ub_in ub C.pin, ?_, os, ag, hE fun b o e => (kB b o e).2⟩
      cases y : p.lookup a with
      | none => rw [augH_out y]; exact na
      | some o =>
        have z := (kB a o y).1
        rw [fl.2.1] at z
        cases z
    | ok fl =>
      cases fl with
      | ret u =>
        obtain ⟨v, H', os, bare, un, hok, r, q⟩ := hq
        exact ⟨v, augH p H', os, bare, un_in un C.pin, aug_hok hok fun b o e => ⟨un.keep b o (pinH b o e) (strH_in e) (pfr b o e) (fun z => nomatch z), un.free b o (pinH b o e) (strH_in e) (fun z => nomatch z)⟩, r, q fun b o e => un.free b o (pinH b o e) (strH_in e) (fun z => nomatch z)⟩
      | next => exact hq
      | brk => exact hq
      | cont => exact hq
  refine codeAny_mono (?_ : codeAny (model P w) A (.call (.ref f) ⟨[], []⟩) (CR (L2N.CX P w) outer P w (strH p H) s (fun v H' => Gone p H' → Q v (augH p H')) (fun cls d H' => Gone p H' → E cls d (augH p H'))) s) back
  refine PySem.W.kla_callFunE hr.depth of rfl S.co S.gen rfl ⟨c', oc, vs, t, rfl, hoc, hdc, hvc⟩ ?_
  have run : ∀ (us : List Value), Vals (zeros ps) us → wpAny (model P w) A.in1 (newFunctionEnv scope mainGlobals cl (ps.zip us) (q ++ ".<locals>.") (some f) (.ref c') none builtinsNs) (fun env s₂ => s₂.heap.NoLimit ∧ codeAny (model P w) A (.expr body env) (CR (L2N.CX P w) outer P w (strH p H) s (fun v H' => Gone p H' → Q v (augH p H')) (fun cls d H' => Gone p H' → E cls d (augH p H'))) s₂)
      (fun e s' => CR (L2N.CX P w) outer P w (strH p H) s (fun v H' => Gone p H' → Q v (augH p H')) (fun cls d H' => Gone p H' → E cls d (augH p H')) (.error e) s') s := fun us rv => by
    refine wpAny_newFunctionEnv S.nocell (fun ⟨n, _⟩ hy => S.par n (List.of_mem_zip hy).1) (fun h₁ hns hsb => ⟨lim.fresh _ hsb, ?_⟩) S.kind
    show codeAny _ _ (.expr body (NdefX.envF (lamNF q params scope cl c') f s.heap.objs.size)) _ _
    have kp : ∀ b o, s.heap.get? b = some o → h₁.get? b = some o := fun b o e => hsb.extBut b o (Nat.ne_of_lt (Heap.lt_size e)) (Heap.get?_push_of_some _ e)
    have I : Inv (NdefX.ncx (L2N.CX P w) P w K mg base N (lamNF q params scope cl c') f A outer s (strH p H) (fun cls d H' => Gone p H' → E cls d (augH p H'))) [] (NdefX.startF N (zeros ps) ws) (strH p H) { s with heap := h₁, toks := s.toks + (ps.zip us).length } :=
      NdefX.inv_startN S hr.hd e0' (by unfold zeros; rw [List.length_map]) rv CA hns kp
    have tk : L2N.Takes (NdefX.ncx (L2N.CX P w) P w K mg base N (lamNF q params scope cl c') f A outer s (strH p H) (fun cls d H' => Gone p H' → E cls d (augH p H'))) (fun cls d _ H => Gone p H → E cls d (augH p H)) := L2N.takes_of rfl rfl rfl rfl
    refine PySem.W.kla_codeExpr (wpAny_mono ((hbody c' A outer s (strH p H) _ (hr.deeper _) tk).run [] _ _ _ _ I ht) (fun v s' hq => ?_) fun e s' hq => hq)
    obtain ⟨w', H', J', rv, q⟩ := hq
    exact ⟨w', H', J'.os, J'.bare, J'.base, J'.hok, rv, q⟩
  rcases hb with ⟨rfl, hb⟩ | ⟨a, rfl, hb⟩
  · rcases df with ⟨_, rfl⟩ | ⟨z, _⟩
    · show wpAny _ _ (bindArgs (lamFd q params body scope cl pm c' ctv .none) ⟨[], []⟩) _ _ _
      rw [hb]
      exact wpAny_pure (run [] .nil)
    · cases z
  · rcases df with ⟨z, _⟩ | ⟨_, T, rfl, aT⟩
    · cases z
    · obtain ⟨kk, e1, e2⟩ := hb cl pm c' ctv T
      obtain ⟨_, its, rv, o, ho, hc, n, hd⟩ := e0.hok T _ aT
      show wpAny _ _ (bindArgs (lamFd q params body scope cl pm c' ctv (.ref T)) ⟨[], []⟩) _ _ _
      rw [e1]
      refine wpAny_bind (wpAny_seqItems ho hd ?_)
      cases rv with
      | cons r1 rt =>
        rename_i u us
        cases rt
        rw [e2]
        exact wpAny_pure (run [u] (.cons r1 .nil))
end
/-! ### a name that holds such a thing, called -/
section
variable {X : Cx} {k j i : Nat} {x : Str} {p pos : Pos} {W : WX}
def tWork (P : Program) (w : World) (K : PySem.W.Frag) (mg : Str → Option Value) (base : Heap) (k i : Nat) (W : WX) : TE := fun σ H Q => ∃ (f : Addr) (R : Hp → VK → XK → Prop), σ[i]? = some (some (.ref f)) ∧ WorkP P w K mg base k f R ∧ R H Q fun cls d H' => W cls d σ H'
theorem pe_work (hr : Room j X.A) (hk : k ≤ j) (tk : L2N.Takes X W) (hv : PE X (.Name x p) (tVar i)) : PE X (.Call (.Name x p) [] [] pos) (tWork X.prog X.w X.K X.mg X.base k i W) := by
  refine ⟨fun pins s σ H Q I h => ?_⟩
  obtain ⟨f, R, hs, hw, hR⟩ := h
  refine wpAny_Call_Name_kw (thn (hv.run pins s σ H (fun v H1 => v = .ref f ∧ H1 = H) I ⟨.ref f, hs, rfl, rfl⟩) fun u s1 ⟨v, H1, I1, r1, ev, eH⟩ => ?_)
  subst ev
  rw [eH] at I1
  obtain rfl : u = Value.ref f := r1
  obtain ⟨fa, rc⟩ := hw X.A X.stack s1 H Q _ (hr.mono hk) I1.env0 hR
  refine PySem.W.callWith_F0 fa ?_
  refine wpAny_call (codeAny_mono rc fun r s' hq => ?_)
  cases r with
  | error e => exact L2N.passAt tk σ pins H s1 e s' I1 hq
  | ok fl =>
    cases fl with
    | ret u => exact I1.after hq
    | next => exact False.elim hq
    | brk => exact False.elim hq
    | cont => exact False.elim hq
end
end Fc
set_option maxHeartbeats 4000000
/-! Calls while something is pinned; a def that leaves its cells pinned; a comprehension that knows what stood at its beginning. -/
namespace Fc
open PySem PySem.Spec PyProof.Rows L2 LamX
/-- what stands at some places -/
def pinsOf (h : Heap) (l : List Addr) : Pn := l.filterMap fun b => (h.get? b).map fun o => (b, o)
theorem pinsOf_cons {h : Heap} {a : Addr} {r : List Addr} : pinsOf h (a :: r) = match h.get? a with
    | some o => (a, o) :: pinsOf h r
    | none => pinsOf h r := by
  unfold pinsOf
  rw [List.filterMap_cons]
  cases h.get? a <;> rfl
theorem pinsOf_in {h : Heap} {l : List Addr} {b : Addr} {o : Obj} (hm : b ∈ l) (e : h.get? b = some o) : (pinsOf h l).lookup b = some o := by
  induction l with
  | nil => cases hm
  | cons a r ih =>
    rw [pinsOf_cons]
    by_cases z : b = a
    · rw [← z, e]
      exact List.lookup_cons_self
    · have hr := (List.mem_cons.mp hm).resolve_left z
      cases q : h.get? a with
      | none => exact ih hr
      | some u =>
        show List.lookup b ((a, u) :: pinsOf h r) = _
        rw [List.lookup_cons, beq_false_of_ne z]
        exact ih hr
theorem of_pinsOf {h : Heap} {l : List Addr} {b : Addr} {o : Obj} (e : (pinsOf h l).lookup b = some o) : b ∈ l ∧ h.get? b = some o := by
  induction l with
  | nil => cases e
  | cons a r ih =>
    rw [pinsOf_cons] at e
    cases q : h.get? a with
    | none =>
      rw [q] at e
      obtain ⟨h1, h2⟩ := ih e
      exact ⟨List.mem_cons_of_mem _ h1, h2⟩
    | some u =>
      rw [q] at e
      have e : List.lookup b ((a, u) :: pinsOf h r) = some o := e
      rw [List.lookup_cons] at e
      by_cases z : b = a
      · rw [z, beq_self_eq_true] at e
        cases e
        rw [z]
        exact ⟨List.mem_cons_self, q⟩
      · rw [beq_false_of_ne z] at e
        obtain ⟨h1, h2⟩ := ih e
        exact ⟨List.mem_cons_of_mem _ h1, h2⟩
/-- the pins let go, each as it was -/
def backH (p : Pn) (H H' : Hp) : Hp := fun b => if (p.lookup b).isSome = true then H b else H' b
section
variable {p : Pn} {H H' : Hp} {b : Addr} {o : Obj}
theorem backH_in (h : p.lookup b = some o) : backH p H H' b = H b := by unfold backH; rw [h]; rfl
theorem backH_out (h : p.lookup b = none) : backH p H H' b = H' b := by unfold backH; rw [h]; rfl
/-- the pins stand -/
def Stand (p : Pn) (H : Hp) : Prop := ∀ b o, p.lookup b = some o → H b = some (pinO o)
theorem backH_of {u : HO} (k : Stand p H') (e : H' b = some u) (n : ∀ o v, u ≠ .frz o v) : backH p H H' b = some u := by
  cases q : p.lookup b with
  | none => rw [backH_out q]; exact e
  | some o =>
    rw [k b o q] at e
    exact absurd (Option.some.inj e).symm (n _ _)
theorem Kp.back {S : Addr → Prop} (k : Kp S (augH p H) H') : Kp S H (backH p H H') := fun a o e => by
  cases q : p.lookup a with
  | some ob => exact ⟨o, by rw [backH_in q]; exact e, .inl rfl⟩
  | none =>
    obtain ⟨u, h1, h2⟩ := k a o (by rw [augH_out q]; exact e)
    exact ⟨u, by rw [backH_out q]; exact h1, h2⟩
mutual
theorem Dn.on {S : Addr → Prop} {H H' : Hp} (k : ∀ a xs, H a = some (.lst xs) → H' a = some (.lst xs)) (k2 : ∀ a xs, H a = some (.tup xs) → H' a = some (.tup xs)) : ∀ {v : V} {d : PyData}, Dn S H v d → Dn S H' v d
  | _, _, .non => .non
  | _, _, .bl b => .bl b
  | _, _, .int i => .int i
  | _, _, .str x => .str x
  | _, _, .lst hs e h => .lst hs (k _ _ e) (DnA.on k k2 h)
  | _, _, .tup hs e h => .tup hs (k2 _ _ e) (DnA.on k k2 h)
theorem DnA.on {S : Addr → Prop} {H H' : Hp} (k : ∀ a xs, H a = some (.lst xs) → H' a = some (.lst xs)) (k2 : ∀ a xs, H a = some (.tup xs) → H' a = some (.tup xs)) : ∀ {v : List V} {d : List PyData}, DnA S H v d → DnA S H' v d
  | _, _, .nil => .nil
  | _, _, .cons h t => .cons (Dn.on k k2 h) (DnA.on k k2 t)
end
theorem Dn.back {S : Addr → Prop} {v : V} {d : PyData} (k : Stand p H') (h : Dn S H' v d) : Dn S (backH p H H') v d :=
  Dn.on (fun _ _ e => backH_of k e fun _ _ z => nomatch z) (fun _ _ e => backH_of k e fun _ _ z => nomatch z) h
/-- what is no pin is seen through them -/
theorem augH_of {u : HO} (k : ∀ b o, p.lookup b = some o → H b = none ∨ ∃ ps, H b = some (.tbl ps)) (e : H b = some u) (n : ∀ ps, u ≠ .tbl ps) : augH p H b = some u := by
  cases q : p.lookup b with
  | none => rw [augH_out q]; exact e
  | some o =>
    rcases k b o q with z | ⟨ps, z⟩
    · rw [z] at e; cases e
    · rw [z] at e
      exact absurd (Option.some.inj e).symm (n _)
theorem Dn.aug {S : Addr → Prop} {v : V} {d : PyData} (k : ∀ b o, p.lookup b = some o → H b = none ∨ ∃ ps, H b = some (.tbl ps)) (h : Dn S H v d) : Dn S (augH p H) v d :=
  Dn.on (fun _ _ e => augH_of k e fun _ z => nomatch z) (fun _ _ e => augH_of k e fun _ z => nomatch z) h
theorem Dn.strip {S : Addr → Prop} {v : V} {d : PyData} (k : Stand p H) (h : Dn S H v d) : Dn S (strH p H) v d :=
  Dn.on (fun a xs e => by
    cases q : p.lookup a with
    | none => rw [strH_out q]; exact e
    | some o => rw [k a o q] at e; cases e) (fun a xs e => by
    cases q : p.lookup a with
    | none => rw [strH_out q]; exact e
    | some o => rw [k a o q] at e; cases e) h
end
section
variable {P : Program} {w : World} {p : Pn} {H H2 : Hp} {h h2 : Heap} {fs : List Addr}
/-- what may be pinned: nothing known yet, or a table -/
def Free (p : Pn) (H : Hp) (h : Heap) (fs : List Addr) : Prop := ∀ b o, p.lookup b = some o → h.get? b = some o ∧ b ∉ fs ∧ (H b = none ∨ ∃ ps, H b = some (.tbl ps))
theorem aug_hok2 (x : HOk P w H h) (k : Free p H h fs) : HOk P w (augH p H) h := fun a o e => by
  cases q : p.lookup a with
  | some ob =>
    rw [augH_in q] at e
    cases e
    exact ⟨(k _ _ q).1, _, (k _ _ q).1⟩
  | none =>
    rw [augH_out q] at e
    have n : ∀ c u, H c = some u → (∀ ps, u ≠ .tbl ps) → augH p H c = some u := fun c u z y => augH_of (fun b o e => (k b o e).2.2) z y
    exact (x a o e).stay (fun _ _ _ z => z) (fun c z => n _ _ z fun _ q => nomatch q) fun c xs z => n _ _ z fun _ q => nomatch q
theorem back_un (x : HOk P w H h) (u : Un fs [] (augH p H) H2 h h2) (hok : HOk P w H2 h2) (k : Free p H h fs) : Stand p H2 ∧ Un fs [] H (backH p H H2) h h2 ∧ HOk P w (backH p H H2) h2 := by
  have st : Stand p H2 := fun b o e => u.frzs b o (.own 0) (augH_in e)
  have n : ∀ c v, H c = some v → (∀ ps, v ≠ .tbl ps) → p.lookup c = none := fun c v z y => by
    cases q : p.lookup c with
    | none => rfl
    | some ob =>
      rcases (k _ _ q).2.2 with e | ⟨ps, e⟩
      · rw [e] at z; cases z
      · rw [e] at z
        exact absurd (Option.some.inj z).symm (y _)
  refine ⟨st, ⟨fun b o e z hb hx => ?_, fun b o e z hb hx => ?_, fun b o e z hx => ?_, fun b o e hx => u.there b o e hx, fun b xs z => ?_, fun b o v z => ?_, fun b ps z => ?_⟩, fun a o e => ?_⟩
  · cases q : p.lookup b with
    | some ob =>
      have e2 := pin_at hok (st b ob q)
      rw [(k _ _ q).1] at e
      cases e
      exact e2
    | none => exact u.keep b o e (by rw [augH_out q]; exact z) hb hx
  · cases q : p.lookup b with
    | some ob => exact absurd hb (k _ _ q).2.1
    | none => exact u.slot b o e (by rw [augH_out q]; exact z) hb hx
  · cases q : p.lookup b with
    | some ob => rw [backH_in q]; exact z
    | none => rw [backH_out q]; exact u.free b o e (by rw [augH_out q]; exact z) hx
  · have y := n _ _ z (fun _ q => nomatch q)
    rw [backH_out y]
    exact u.tups b xs (by rw [augH_out y]; exact z)
  · have y := n _ _ z (fun _ q => nomatch q)
    rw [backH_out y]
    exact u.frzs b o v (by rw [augH_out y]; exact z)
  · cases q : p.lookup b with
    | some ob => exact ⟨#[], by rw [backH_in q, z]; simp⟩
    | none =>
      rw [backH_out q]
      exact u.tbls b ps (by rw [augH_out q]; exact z)
  · cases q : p.lookup a with
    | some ob =>
      rw [backH_in q] at e
      rcases (k _ _ q).2.2 with y | ⟨ps, y⟩
      · rw [y] at e; cases e
      · rw [y] at e
        cases e
        have z : h.get? a = some { cls := .none, data := .fields ps } := x a _ y
        rw [(k _ _ q).1] at z
        cases z
        exact pin_at hok (st a _ q)
    | none =>
      rw [backH_out q] at e
      have f : ∀ c v, H2 c = some v → (∀ o u, v ≠ .frz o u) → backH p H H2 c = some v := fun c v z y => backH_of st z y
      exact (hok a o e).stay (fun _ _ _ z => z) (fun c z => f _ _ z fun _ _ q => nomatch q) fun c xs z => f _ _ z fun _ _ q => nomatch q
end
/-! ### a call while tables, cells are pinned -/
section
variable {X : Cx} {k j : Nat} {x : Str} {sp : Sp} {p0 pos : Pos} {e : Expr} {es : List Expr} {t : TA}
theorem run_pins {f : Addr} {fd : FuncData} {ps : List Str} {pins : List (Addr × Obj)} {σ : L2.St} {H : Hp} {s : Shared} {Q : VK} {us : List Value} {vs : List V} {p : Pn} (F : FnOk X.prog X.w X.K X.mg X.base C8.CX0 k f fd ps sp) (hr : Room k X.A) (hb : L2.Binds X.K fd ps []) (I : Inv X pins σ H s) (r : Vals vs us)
    (fr : Free p H s.heap (frs X.stack)) (nb : ∀ b o, p.lookup b = some o → X.base.get? b = none) (h : sp vs (augH p H) (fun v H' => Stand p H' → Q v (backH p H H')) C8.E0) : wpAny (model X.prog X.w) X.A (call (.ref f) us) (EP X pins σ Q) X.xe s := by
  have hl : us.length = ps.length := by rw [← r.length]; exact F.len _ _ _ _ h
  have b := hb s us I.kIn (by rw [List.append_nil]; exact hl)
  rw [List.append_nil] at b
  have e0 := I.env0
  have e1 : Env0 X.prog X.w X.K X.mg X.base X.A X.stack s (augH p H) := ⟨e0.frames, e0.mod, fun b o e => ⟨(e0.bs b o e).1, by
    cases y : p.lookup b with
    | some ob => rw [nb _ _ y] at e; cases e
    | none => rw [augH_out y]; exact (e0.bs b o e).2⟩, e0.bsz, e0.funs, fun b hb => by
    cases y : p.lookup b with
    | some ob => exact absurd hb (fr _ _ y).2.1
    | none => rw [augH_out y]; exact e0.frf b hb, aug_hok2 e0.hok fr, e0.bare⟩
  refine wpAny_call (codeAny_mono (F.run X.A X.stack s (augH p H) ⟨us, []⟩ us vs _ C8.E0 hr e1 b r h) fun r s' hq => ?_)
  cases r with
  | error e => exact False.elim hq
  | ok fl =>
    cases fl with
    | ret u =>
      obtain ⟨v, H', os, bare, un, hok, r, q⟩ := hq
      obtain ⟨st, un2, hok2⟩ := back_un I.hok un hok fr
      exact I.after ⟨v, backH p H H', os, bare, un2, hok2, r, q st⟩
    | next => exact False.elim hq
    | brk => exact False.elim hq
    | cont => exact False.elim hq
/-- which tables, told of the pins -/
def PinT (p : Pn) (H : Hp) (ts : List Addr) : Prop := (∀ P ∈ ts, ∀ ps, H P = some (.tbl ps) → p.lookup P = some { cls := .none, data := .fields ps }) ∧ ∀ b o, p.lookup b = some o → b ∈ ts ∧ ∃ ps, H b = some (.tbl ps)
def tCallT (ts : List Addr) (sp : Sp) (t : TA) : TE := fun σ H Q => t σ H fun vs H1 => (∀ P ∈ ts, ∃ ps, H1 P = some (.tbl ps)) ∧ ∀ p, PinT p H1 ts → sp vs (augH p H1) (fun v H' => Stand p H' → Q v (backH p H1 H')) C8.E0
theorem pe_cT (c : C8.Cal X.prog X.w X.K X.mg X.base k x sp []) (ts : List Addr) (hr : Room j X.A) (hk : k ≤ j) (hg : Gl X x) (ha : PA X (e :: es) t) (hdb : (x == ("__debug__" : Str)) = false := by decide)
    (he : starEach (e :: es) X.env = (false, eval e X.env) :: starEach es X.env := by rfl) (hpl : (backTo pos (starEach es X.env)).any (·.1) = false := by rfl) : PE X (.Call (.Name x p0) (e :: es) [] pos) (tCallT ts sp t) := by
  obtain ⟨f, fd, ps, ds, F, hm, hkp, hb, hd⟩ := c.ex
  cases hd
  refine ⟨fun pins s σ H Q I h => ?_⟩
  refine wpAny_Call_Name_kw (ld_glob I hg hm ?_ hdb)
  refine PySem.W.callWith_K (h₀ := X.base) I.ok.mod.kin hkp (thn (ha.run pos pins s σ H _ I h) fun us s1 ⟨vs, H1, I1, r, q1, q2⟩ => ⟨I1.kIn, ?_⟩) he hpl
  have tab : ∀ b o, (pinsOf s1.heap ts).lookup b = some o → b ∈ ts ∧ s1.heap.get? b = some o := fun b o e => of_pinsOf e
  show wpAny _ _ (call (.ref f) us) _ _ _
  refine run_pins (p := pinsOf s1.heap ts) F (hr.mono hk) hb I1 r (fun b o e => ?_) (fun b o e => ?_) (q2 _ ⟨fun P hP ps e => pinsOf_in hP (I1.hok P _ e), fun b o e => ⟨(tab b o e).1, q1 b (tab b o e).1⟩⟩)
  · obtain ⟨h1, h2⟩ := tab b o e
    obtain ⟨ps, e2⟩ := q1 b h1
    exact ⟨h2, (fun z => by rw [I1.stkFree b z] at e2; cases e2), .inr ⟨ps, e2⟩⟩
  · obtain ⟨h1, h2⟩ := tab b o e
    obtain ⟨ps, e2⟩ := q1 b h1
    cases z : X.base.get? b with
    | none => rfl
    | some ob => rw [(I1.bs b ob z).2] at e2; cases e2
end
/-! ### a def whose cells stay pinned behind it -/
structure PSR (X : Cx) (ss : List Stmt) (t : (L2.St → V → Hp → Prop) → L2.St → Hp → Prop) : Prop where
  run : ∀ (pins : List (Addr × Obj)) (s : Shared) (σ : L2.St) (H : Hp) (R : L2.St → V → Hp → Prop), Inv X pins σ H s → t R σ H → wpAny (model X.prog X.w) X.A (execs ss X.env) (fun fl s' => ∃ v u σ' H', fl = .ret u ∧ Inv X pins σ' H' s' ∧ RelV v u ∧ R σ' v H') X.xe s
section
variable {X : Cx} {st : Stmt} {ss : List Stmt} {ts : TS} {t : (L2.St → V → Hp → Prop) → L2.St → Hp → Prop} {e : Expr} {te : TE} {pos : Pos}
theorem psr_ret (he : PE X e te) : PSR X [.Return (some e) pos] (fun R σ H => te σ H (R σ)) := by
  refine ⟨fun pins s σ H R I h => ?_⟩
  refine wpAny_execs_cons (wpAny_Return_some (thn (he.run pins s σ H (R σ) I h) fun v s1 ⟨x, H1, I1, r1, q1⟩ => ?_))
  exact ⟨x, v, σ, H1, rfl, I1, r1, q1⟩
theorem psr_cons (h : PS X st ts) (h2 : PSR X ss t) : PSR X (st :: ss) (fun R σ H => ts { nx := t R, rt := fun _ _ => False } σ H) := by
  refine ⟨fun pins s σ H R I q => ?_⟩
  refine wpAny_execs_cons (thn (h.run pins s σ H _ I q) fun f s1 z => ?_)
  cases f with
  | next =>
    obtain ⟨σ1, H1, I1, q1⟩ := z
    exact h2.run pins s1 σ1 H1 R I1 q1
  | ret u =>
    obtain ⟨v, σ1, H1, I1, r, q1⟩ := z
    exact q1.elim
  | brk =>
    obtain ⟨σ1, H1, I1, q1⟩ := z
    exact False.elim q1
  | cont =>
    obtain ⟨σ1, H1, I1, q1⟩ := z
    exact False.elim q1
end
end Fc
set_option maxHeartbeats 4000000
/-! A def that leaves its cells pinned behind it; a comprehension that knows what stood at its beginning. -/
namespace Fc
open PySem PySem.Spec PyProof.Rows L2 LamX
theorem un_aug {fs ex : List Addr} {p : Pn} {H H' : Hp} {h h' : Heap} (u : Un fs ex H H' h h') (k : ∀ b o, p.lookup b = some o → H' b = none ∧ h.get? b = none) : Un fs ex H (augH p H') h h' := by
  have n : ∀ c v, H' c = some v → p.lookup c = none := fun c v z => by
    cases q : p.lookup c with
    | none => rfl
    | some ob => rw [(k _ _ q).1] at z; cases z
  refine ⟨u.keep, u.slot, fun b o e z hx => ?_, u.there, fun b xs z => ?_, fun b o v z => ?_, fun b ps z => ?_⟩
  · cases q : p.lookup b with
    | some ob => rw [(k _ _ q).2] at e; cases e
    | none => rw [augH_out q]; exact u.free b o e z hx
  · have y := u.tups b xs z
    rw [augH_out (n _ _ y)]; exact y
  · have y := u.frzs b o v z
    rw [augH_out (n _ _ y)]; exact y
  · obtain ⟨m, y⟩ := u.tbls b ps z
    exact ⟨m, by rw [augH_out (n _ _ y)]; exact y⟩
/-- the cells of X, each with what its name holds -/
structure CellsAll (X : Cx) (σ : L2.St) (H : Hp) (p : Pn) : Prop where
  all : ∀ x c, x ∈ X.N → X.env.cells.lookup x = some c → ∃ o v, p.lookup c = some o ∧ o.data = .cell v
  has : ∀ (i : Nat) (x : Str) (v : V), X.N[i]? = some x → σ[i]? = some (some v) → X.env.scope.names.lookup x = some .cell → ∃ c o, X.env.cells.lookup x = some c ∧ p.lookup c = some o ∧ CellIs o v
  none : ∀ b o, p.lookup b = some o → H b = none
  inj : ∀ x y c, X.env.cells.lookup x = some c → X.env.cells.lookup y = some c → x = y
section
variable {P : Program} {w : World} {K : PySem.W.Frag} {mg : Str → Option Value} {base : Heap}
theorem cells_all {X : Cx} {pins : List (Addr × Obj)} {σ : L2.St} {H : Hp} {s : Shared} (I : Inv X pins σ H s) (hfn : ∀ x, X.fn x = true) : ∃ p : Pn, CellsAll X σ H p ∧ ∀ b o, p.lookup b = some o → s.heap.get? b = some o ∧ X.s_0.heap.get? b = none := by
  have mem : ∀ b, b ∈ X.N.filterMap (fun x => X.env.cells.lookup x) → ∃ x, X.env.cells.lookup x = some b := fun b hb => by
    obtain ⟨x, _, e⟩ := List.mem_filterMap.mp hb
    exact ⟨x, e⟩
  refine ⟨pinsOf s.heap (X.N.filterMap fun x => X.env.cells.lookup x), ⟨fun x c hx e => ?_, fun i x v e1 e2 e3 => ?_, fun b o e => ?_, I.ok.inj⟩, fun b o e => ?_⟩
  · obtain ⟨v, o, ho, hd⟩ := I.cell x c e
    exact ⟨o, v, pinsOf_in (List.mem_filterMap.mpr ⟨x, hx, e⟩) ho, hd⟩
  · obtain ⟨m, hn, hl⟩ := I.loc
    obtain ⟨u, r, q⟩ := hl i x v e1 e2 (.inr (.inl e3))
    rcases q with ⟨k', _⟩ | ⟨_, c, e', o, ho, hd⟩
    · have k' : X.env.scope.names.lookup x = some .local := k'
      rw [e3] at k'
      cases k'
    · exact ⟨c, o, e', pinsOf_in (List.mem_filterMap.mpr ⟨x, List.mem_of_getElem? e1, e'⟩) ho, u, r, hd⟩
  · obtain ⟨x, e'⟩ := mem b (of_pinsOf e).1
    exact I.freeC x b e'
  · obtain ⟨x, e'⟩ := mem b (of_pinsOf e).1
    exact ⟨(of_pinsOf e).2, Heap.get?_none_of_le (I.ok.cab x b (hfn x) e')⟩
theorem fn_mkR {CX : CXT} {x : Str} {st : Stmt} {fd : FuncData} {N ps : List Str} {k : Nat} {sp : Sp} (F : FunD K x x (defArgs st) (defBody st) (defScope st) [] [] (He.ga K x) fd) (S : FnScope N ps (defScope st)) (len : ∀ vs H Q E, sp vs H Q E → vs.length = ps.length)
    (hbody : ∀ (A : Around) (outer : List Env) (s : Shared) (H : Hp) (vs : List V) (Q : VK) (E : XK), Room k (A.deeper (envOfC x (defScope st) s.heap.objs.size (He.ga K x) (.ref (cO K x)))) → sp vs H Q E →
      ∃ t, PSR (cxOf CX P w K mg base N x (defScope st) (He.ga K x) (.ref (cO K x)) A outer s H E) (defBody st) t ∧
        t (fun σ' v H' => ∀ p, CellsAll (cxOf CX P w K mg base N x (defScope st) (He.ga K x) (.ref (cO K x)) A outer s H E) σ' H' p → Q v (augH p H')) (L2.start N vs) H) : FnOk P w K mg base CX (k + 1) (He.ga K x) fd ps sp := by
  obtain ⟨oc, od, dV, kV, doc, pm, an, cdv, ct, osl, rfl, lk, hcd, _, _⟩ := F.ex
  obtain ⟨c, rfl⟩ := He.codeIn_ref hcd
  have ec : cO K x = c := He.codeOf_eq (p := (x, none)) lk rfl
  rw [ec] at hbody
  refine ⟨len, fun A outer s H args us vs Q E hr e0 hb r hsp => ?_⟩
  have hl := len _ _ _ _ hsp
  have KX : K.In s.heap := e0.mod.kin.keeps fun b o e => (e0.bs b o e).1
  have lim : s.heap.NoLimit := e0.mod.nolimit.keeps fun b o e => (e0.bs b o e).1
  have hkind : ∀ y ∈ ps.zip us, (defScope st).names.lookup y.1 = some .local ∨ ((defScope st).names.lookup y.1 = some .cell ∧ ((cellsFrom (s.heap.objs.size + 1) (defScope st).names []).lookup y.1).isSome = true) := fun ⟨n, v⟩ hy => by
    rcases S.par n (List.of_mem_zip hy).1 with q | q
    · exact .inl q
    · exact .inr ⟨q, PySem.W.cellsFrom_some _ _ _ (.inl q)⟩
  refine codeAny_call_function hr.depth (KX _ _ lk) rfl S.co S.gen rfl (PySem.W.codeRec_of KX hcd) (hb _ _ _ _ ?_)
  refine wpAny_newFunctionEnv_cells S.kind hkind fun env he s1 x1 => ?_
  subst he
  refine ⟨lim.keeps x1.toInCall.keep, codeAny_func ?_⟩
  obtain ⟨t, ht, hq⟩ := hbody A outer s H vs Q E (hr.deeper _) hsp
  have I : Inv (cxOf CX P w K mg base N x (defScope st) (He.ga K x) (.ref c) A outer s H E) [] (L2.start N vs) H s1 := inv_start S hr.hd e0 hl r x1
  refine wpAny_mono (ht.run [] s1 (L2.start N vs) H _ I hq) (fun fl s' hs => ?_) fun e s' hs => hs
  obtain ⟨v, u, σ', H', rfl, J, rv, q⟩ := hs
  obtain ⟨p, cp, pp⟩ := cells_all J (fun _ => rfl)
  exact ⟨v, augH p H', J.os, J.bare, un_aug J.base (fun b o e => ⟨cp.none b o e, (pp b o e).2⟩), aug_hok J.hok (fun b o e => ⟨(pp b o e).1, cp.none b o e⟩), rv, q p cp⟩
end
section
variable {X : Cx}
theorem lcI_core {pins : List (Addr × Obj)} {s : Shared} {σ : L2.St} {H : Hp} {Q : VK} {W : XK} {elt tg iter : Expr} {ifs : List Expr} {scope : Scope} {own : List (Str × Nat)} {pos pos' : Pos} {wi : TI} {g : TG} {tt : TT} {te : TE} {use : Option (Value → Sem Unit)} {Qf : Value → Shared → Prop}
    (hc : X.calm = true) (hN : X.N.Nodup) (tk : L2N.Takes X (fun cls d _ H => W cls d H)) (hst : X.stack = X.env :: X.outer) (hfr : X.env.frame = some X.env.locals) (I : Inv X pins σ H s) (hi : PI X tg iter wi) (ok : BlkOk X.N X.env.scope scope own)
    (hg : ∀ (s : Shared) (H : Hp) (C : Addr) (cl : List (Str × Addr)) (fp : List Addr), PG (X.blk s H scope (compEnvC scope cl C X.env) fp) tg g) (ht : ∀ (s : Shared) (H : Hp) (C : Addr) (cl : List (Str × Addr)) (fp : List Addr), Inv X pins σ H s → (∀ b ∈ fp, FpOk X pins H b) → PTs (X.blk s H scope (compEnvC scope cl C X.env) fp) ifs tt)
    (he : ∀ (s : Shared) (H : Hp) (C : Addr) (cl : List (Str × Addr)) (fp : List Addr) (xe : Value → Shared → Prop), (∀ σ, PassesAt (L2N.CX X.prog X.w) ((X.blk s H scope (compEnvC scope cl C X.env) fp).wish xe) σ W) → PE ((X.blk s H scope (compEnvC scope cl C X.env) fp).wish xe) elt te)
    (hs : ∀ x, foldedSetIterable iter X.env x = pure x) (h : tLc wi g tt te (own.map (·.2)) σ H Q)
    (hRR : ∀ D (ce : Env) s' m H', Inv X pins σ H' s' → Q (.ref D) H' → s'.heap.Ns ce.locals m → FpOk X pins H' ce.locals → compEnds (model X.prog X.w) X.A X.xe use Qf (.ref D) ce (.ok .next) s') :
    wpAny (model X.prog X.w) X.A (comprehension (.ListComp elt [⟨tg, iter, ifs, 0⟩] scope pos) scope X.env pos' (newList []) false (eval iter X.env) use) Qf X.xe s := by
  have hfree : ∀ y ∈ scope.names, y.2 = .free → ∃ c, X.env.cells.lookup y.1 = some c := fun y hy e =>
    (ok.free y hy e).elim (fun k => I.ok.has _ (.inl k)) fun k => I.ok.has _ (.inr k)
  refine comprehension_at (use := use) rfl hs (closure_ok hfree) ok.kind (fun y hy e => by rw [ok.uniq y hy, e])
    (thn (hi.run pins s σ H _ I h) fun xv s1 hx => thn hx fun itv s2 h2 => ?_)
  obtain ⟨it, fp, tn, J, H2, e, I2, T, st2, f2, q⟩ := h2
  subst e
  refine wpAny_newObj_type (newEnv_comp ?_) (by show 0 ≤ sizeLine; decide)
  generalize hD : s2.heap.objs.size = D
  obtain ⟨W0, ⟨m0, w0⟩, turn⟩ := q D (I2.hok.fresh (Nat.le_of_eq hD))
  generalize hs3 : ({ s2 with heap := s2.heap.push { cls := .type "list", data := .seq ([] : List Value).toArray } } : Shared) = s3
  have h3 : s3.heap = s2.heap.push { cls := .type "list", data := .seq ([] : List Value).toArray } := by rw [← hs3]
  have I3 : Inv X pins σ (upd H2 D (.lst [])) s3 := by
    rw [← hs3]
    refine I2.laid (t' := s2.toks) (fun b o e => Heap.get?_push_of_some _ e) (Nat.le_of_eq hD) ⟨Nat.zero_le _, [], 0, .nil, ?_⟩
    rw [← hD]
    exact Heap.get?_push_size _ rfl
  have f3 : ∀ b ∈ fp, FpOk X pins (upd H2 D (.lst [])) b ∧ b < s3.heap.objs.size := fun b hb => by
    obtain ⟨o, eo, _⟩ := T.obj _ _ st2 b hb
    have hlt := Heap.lt_size eo
    refine ⟨⟨?_, (f2 b hb).2⟩, by rw [h3, Heap.size_push]; exact Nat.lt_succ_of_lt hlt⟩
    rw [upd_ne (by rw [← hD]; exact Nat.ne_of_lt hlt)]
    exact (f2 b hb).1
  have st3 : tn 0 s3.heap := T.keep _ _ _ st2 fun b _ o e => by rw [h3]; exact Heap.get?_push_of_some _ e
  have I4 := block_start I3 ok hN f3
  have pg := hg s3 (upd H2 D (.lst [])) s3.heap.objs.size (cellsFrom (s3.heap.objs.size + 1) scope.names (cloFrom X.env.cells scope.names [])) fp
  have pt := ht s3 (upd H2 D (.lst [])) s3.heap.objs.size (cellsFrom (s3.heap.objs.size + 1) scope.names (cloFrom X.env.cells scope.names [])) fp I3 (fun b hb => (f3 b hb).1)
  have pe := he s3 (upd H2 D (.lst [])) s3.heap.objs.size (cellsFrom (s3.heap.objs.size + 1) scope.names (cloFrom X.env.cells scope.names [])) fp
  have nfp : ∀ b ∈ fp, (upd H2 D (.lst [])) b = none := fun b hb => (f3 b hb).1.1
  show codeAny _ _ (.compStart (.ListComp elt [⟨tg, iter, ifs, 0⟩] scope pos) 0 (.ref it) (.ref D) (compEnvC scope (cellsFrom (s3.heap.objs.size + 1) scope.names (cloFrom X.env.cells scope.names [])) s3.heap.objs.size X.env))
    (compEnds (model X.prog X.w) X.A X.xe use Qf (.ref D) (compEnvC scope (cellsFrom (s3.heap.objs.size + 1) scope.names (cloFrom X.env.cells scope.names [])) s3.heap.objs.size X.env)) { s3 with heap := pushCells (s3.heap.push { cls := .type "dict", data := .dict #[] }) scope.names }
  have cf : (compEnvC scope (cellsFrom (s3.heap.objs.size + 1) scope.names (cloFrom X.env.cells scope.names [])) s3.heap.objs.size X.env).frame = X.env.frame := rfl
  generalize hce : compEnvC scope (cellsFrom (s3.heap.objs.size + 1) scope.names (cloFrom X.env.cells scope.names [])) s3.heap.objs.size X.env = ce at I4 pg pt pe cf ⊢
  have cL : ce.locals = s3.heap.objs.size := by subst hce; rfl
  generalize hH3 : upd H2 D (.lst []) = H3 at I3 I4 pg pt pe w0 nfp f3
  generalize hs4 : ({ s3 with heap := pushCells (s3.heap.push { cls := .type "dict", data := .dict #[] }) scope.names } : Shared) = s4 at I4 ⊢
  have st4 : tn 0 s4.heap := T.keep _ _ _ st3 fun b _ o e => by rw [← hs4]; exact pushCells_keeps _ _ _ _ (Heap.get?_push_of_some _ e)
  -- a refusal's way
  have flies : ∀ σ, PassesAt (L2N.CX X.prog X.w) ((X.blk s3 H3 scope ce fp).wish (wishC X use Qf D ce)) σ W := fun σ' p' H' s' u s'' I' c' => by
    have z := comp_raise tk hst hfr cf (Nat.le_of_eq cL.symm) I3 (fun b hb => (f3 b hb).1) I' c'
    show wishC X use Qf D ce u s''
    unfold wishC
    cases use <;> exact z
  have pe := pe (wishC X use Qf D ce) flies
  have stat : ∀ {σ' : L2.St} {H' : Hp} {s' : Shared}, Inv (X.blk s3 H3 scope ce fp) [] σ' H' s' → (∀ b ∈ fp, H' b = none) → ∀ b ∈ fp, FpOk (X.blk s3 H3 scope ce fp) [] H' b := fun {σ' H' s'} I' hn b hb =>
    ⟨hn b hb, (I'.ok.exf b hb).1, I'.ok.exfs b hb, .inl hb, fun x c e => (I'.ok.exf b hb).2 x c e, fun p hp => absurd (show p ∈ ([] : List (Addr × Obj)) ++ [] from hp) (by simp)⟩
  have loop : codeAny (model X.prog X.w) X.A (.compLoop (.ListComp elt [⟨tg, iter, ifs, 0⟩] scope pos) 0 (.ref it) (.ref D) ce) (compEnds (model X.prog X.w) X.A X.xe use Qf (.ref D) ce) s4 := by
    refine compLoop_any (fun n s' => ∃ i H', Inv (X.blk s3 H3 scope ce fp) [] (wipe σ (own.map (·.2))) H' s' ∧ tn i s'.heap ∧ (∀ b ∈ fp, H' b = none) ∧ W0 i n H') ?_ m0 ⟨0, H3, I4, st4, nfp, w0⟩
    rintro n s5 ⟨i, H5, I5, st5, n5, w5⟩
    rcases turn i n H5 w5 with ⟨stop, qq⟩ | ⟨go, Nx, hNx, step⟩
    · refine thnF (T.done (X.blk s3 H3 scope ce fp) rfl rfl rfl hc i [] s5 _ H5 (fun _ _ => False) I5 (stat I5 n5) st5 stop) fun r s6 ⟨hr, I6⟩ => ?_
      subst hr
      have I7 : Inv X pins σ H5 s6 := I3.call' (ch := fp) I6.os I6.base I6.hok I6.bare fun b hb => ⟨(f3 b hb).1.2.2.2.1, (f3 b hb).1.2.1, (f3 b hb).1.2.2.2.2.1, (f3 b hb).1.2.2.2.2.2⟩
      obtain ⟨m, hn, _⟩ := I6.loc
      exact hRR D ce s6 m H5 I7 qq hn (I3.fpOk (Nat.le_of_eq cL.symm) I6.free)
    · refine thnF (T.item (X.blk s3 H3 scope ce fp) rfl rfl rfl hc i [] s5 _ H5 (fun _ _ => False) I5 (stat I5 n5) st5 go) fun r s6 ⟨u, hr, h6⟩ => ?_
      subst hr
      refine thnF h6 fun _ s7 ⟨x, H7, I7, r7, y7, st7, n7⟩ => ?_
      refine thnF (pg.run _ s7 _ H7 x u _ (I7.pinned (stat I7 n7) (T.obj _ _ st7)) r7 (step x H7 y7)) fun _ s8 ⟨σ8, H8, I8, hw8, q8⟩ => ?_
      refine thnF (pt.run _ s8 σ8 H8 _ I8 q8) fun b s9 ⟨H9, I9, q9⟩ => ?_
      have fin : ∀ {s' : Shared} {H' : Hp}, Inv (X.blk s3 H3 scope ce fp) ([] ++ pinsAt fp s7.heap) σ8 H' s' → Nx H' → ∃ m, m < n ∧ ∃ i H', Inv (X.blk s3 H3 scope ce fp) [] (wipe σ (own.map (·.2))) H' s' ∧ tn i s'.heap ∧ (∀ b ∈ fp, H' b = none) ∧ W0 i m H' := fun {s' H'} I' nx => by
        obtain ⟨m', hm, w'⟩ := hNx H' nx
        have pin' : ∀ b ∈ fp, ∀ o, s7.heap.get? b = some o → s'.heap.get? b = some o ∧ H' b = none := fun b hb o e =>
          let z := I'.pin (b, o) (List.mem_append_right _ (List.mem_append_right _ (mem_pinsAt hb e)))
          ⟨z.1, z.2.1⟩
        refine ⟨m', hm, i + 1, H', (I'.unpinned (pins := [])).weak (by rw [← hw8, wipe_length]) (fun j v e => ?_), T.keep _ _ _ st7 fun b hb o e => (pin' b hb o e).1, fun b hb => ?_, w'⟩
        · rw [← hw8] at e
          exact (wipe_some e).1
        · obtain ⟨o, e, _⟩ := T.obj _ _ st7 b hb
          exact (pin' b hb o e).2
      cases b with
      | false =>
        simp only [Bool.false_eq_true, if_false] at q9 ⊢
        exact fin I9 q9
      | true =>
        simp only [if_true] at q9 ⊢
        refine wpAny_mono (pe.run _ s9 σ8 H9 _ (I9.wish _) q9) (fun z s10 ⟨yv, H10, I10, r10, acc, hD10, hz10, nx⟩ => ?_) fun e s' z => z
        exact app_ok (X := X.blk s3 H3 scope ce fp) I10.unwish hD10 hz10 r10 fun s11 I11 => fin I11 nx
  exact codeAny_compStart_list loop (T.self X.A 0 _ _ _ st4 loop)
/-- as a value; the tests know what stood at the beginning, and the slots of then -/
theorem pe_lcI {W : XK} {elt tg iter : Expr} {ifs : List Expr} {scope : Scope} {own : List (Str × Nat)} {pos : Pos} {wi : TI} {g : TG} {tt : L2.St → TT} {te : TE} (hc : X.calm = true) (hN : X.N.Nodup) (tk : L2N.Takes X (fun cls d _ H => W cls d H)) (hst : X.stack = X.env :: X.outer) (hfr : X.env.frame = some X.env.locals) (hi : PI X tg iter wi) (ok : BlkOk X.N X.env.scope scope own)
    (hg : ∀ (s : Shared) (H : Hp) (C : Addr) (cl : List (Str × Addr)) (fp : List Addr), PG (X.blk s H scope (compEnvC scope cl C X.env) fp) tg g)
    (ht : ∀ (pins : List (Addr × Obj)) (σ : L2.St) (s : Shared) (H : Hp) (C : Addr) (cl : List (Str × Addr)) (fp : List Addr), Inv X pins σ H s → (∀ b ∈ fp, FpOk X pins H b) → PTs (X.blk s H scope (compEnvC scope cl C X.env) fp) ifs (tt σ))
    (he : ∀ (s : Shared) (H : Hp) (C : Addr) (cl : List (Str × Addr)) (fp : List Addr) (xe : Value → Shared → Prop), (∀ σ, PassesAt (L2N.CX X.prog X.w) ((X.blk s H scope (compEnvC scope cl C X.env) fp).wish xe) σ W) → PE ((X.blk s H scope (compEnvC scope cl C X.env) fp).wish xe) elt te)
    (hs : ∀ x, foldedSetIterable iter X.env x = pure x := by intro _; rfl) :
    PE X (.ListComp elt [⟨tg, iter, ifs, 0⟩] scope pos) (fun σ H Q => tLc wi g (tt σ) te (own.map (·.2)) σ H Q) := by
  refine ⟨fun pins s σ H Q I h => ?_⟩
  rw [eval_ListComp]
  refine lcI_core hc hN tk hst hfr I hi ok hg (fun s H C cl fp => ht pins σ s H C cl fp) he hs h fun D ce s' m H' I' q hn f => ⟨m, hn, fun h'' sb => ?_⟩
  obtain ⟨f0, f1, f2, f3, f4, f5⟩ := f
  exact ⟨.ref D, H', I'.turned (t' := s'.toks) (fun b o hb e => (sb.2 b hb).trans e) f0 f1 f3 f4 f5, rfl, q⟩
end
/-! ### a call within such a comprehension, a cell of the def around pinned -/
section
variable {X : Cx} {k j i : Nat} {x y : Str} {sp : Sp} {p0 pos : Pos} {e : Expr} {es : List Expr} {t : TA} {c : Addr}
/-- the cell of the name in slot i of X, told -/
def tCallC (σ0 : L2.St) (i : Nat) (c : Addr) (sp : Sp) (t : TA) : TE := fun σ H Q => t σ H fun vs H1 => ∃ v, σ0[i]? = some (some v) ∧ ∀ o, CellIs o v → H1 c = none → sp vs (augH [(c, o)] H1) (fun y H' => Stand [(c, o)] H' → Q y (backH [(c, o)] H1 H')) C8.E0
theorem pe_cC {pins : List (Addr × Obj)} {σ0 : L2.St} {s3 : Shared} {H3 : Hp} {scope : Scope} {ce : Env} {fp : List Addr} (I3 : Inv X pins σ0 H3 s3) (f3 : ∀ b ∈ fp, FpOk X pins H3 b) (hfn : ∀ x, X.fn x = true) (hN : X.N[i]? = some y) (hy : X.env.scope.names.lookup y = some .cell) (hcy : X.env.cells.lookup y = some c)
    (cl : C8.Cal X.prog X.w X.K X.mg X.base k x sp []) (hr : Room j X.A) (hk : k ≤ j) (hg : Gl (X.blk s3 H3 scope ce fp) x) (ha : PA (X.blk s3 H3 scope ce fp) (e :: es) t) (hdb : (x == ("__debug__" : Str)) = false := by decide)
    (he : starEach (e :: es) ce = (false, eval e ce) :: starEach es ce := by rfl) (hpl : (backTo pos (starEach es ce)).any (·.1) = false := by rfl) : PE (X.blk s3 H3 scope ce fp) (.Call (.Name x p0) (e :: es) [] pos) (tCallC σ0 i c sp t) := by
  obtain ⟨f, fd, ps, ds, F, hm, hkp, hb, hd⟩ := cl.ex
  cases hd
  refine ⟨fun pins1 s σ H Q I h => ?_⟩
  refine wpAny_Call_Name_kw (ld_glob I hg hm ?_ hdb)
  refine PySem.W.callWith_K (h₀ := X.base) I.ok.mod.kin hkp (thn (ha.run pos pins1 s σ H _ I h) fun us s1 ⟨vs, H1, I1, r, v, hv, q2⟩ => ⟨I1.kIn, ?_⟩) he hpl
  show wpAny _ _ (call (.ref f) us) _ _ _
  -- the cell
  obtain ⟨m, hn, hl⟩ := I3.loc
  obtain ⟨u, ru, q⟩ := hl i y v hN hv (.inr (.inl hy))
  have cell : ∃ o, s3.heap.get? c = some o ∧ o.data = .cell (some u) := by
    rcases q with ⟨k', _⟩ | ⟨_, c', e', o, ho, hd⟩
    · have k' : X.env.scope.names.lookup y = some .local := k'
      rw [hy] at k'
      cases k'
    · rw [hcy] at e'
      cases e'
      exact ⟨o, ho, hd⟩
  obtain ⟨o, ho, hd⟩ := cell
  have n3 : H3 c = none := I3.freeC y c hcy
  have cge : X.s_0.heap.objs.size ≤ c := I3.ok.cab y c (hfn y) hcy
  have nstk : c ∉ frs X.stack := fun z => by
    rcases List.mem_cons.mp (I3.stkSub c z) with e | z
    · exact I3.cne y c hcy e
    · obtain ⟨_, ob, hob, _⟩ := I3.ok.funs.mem z
      exact absurd (Heap.lt_size hob) (Nat.not_lt.mpr cge)
  have nfp : c ∉ fp := fun z => (f3 c z).2.2.2.2.1 y c hcy rfl
  have a1 : s1.heap.get? c = some o := I1.base.keep c o ho n3 nstk nfp
  have n1 : H1 c = none := I1.base.free c o ho n3 nfp
  have lk : ∀ b ob, List.lookup b [(c, o)] = some ob → b = c ∧ ob = o := fun b ob e => by
    rw [List.lookup_cons] at e
    by_cases z : b = c
    · rw [z, beq_self_eq_true] at e
      cases e
      exact ⟨z, rfl⟩
    · rw [beq_false_of_ne z] at e
      cases e
  refine run_pins (X := X.blk s3 H3 scope ce fp) (p := [(c, o)]) F (hr.mono hk) hb I1 r (fun b ob e => ?_) (fun b ob e => ?_) (q2 o ⟨u, ru, hd⟩ n1)
  · obtain ⟨e1, e2⟩ := lk b ob e
    rw [e1, e2]
    exact ⟨a1, nstk, .inl n1⟩
  · obtain ⟨e1, _⟩ := lk b ob e
    rw [e1]
    cases z : X.base.get? c with
    | none => rfl
    | some u => exact absurd (Nat.lt_of_lt_of_le (Heap.lt_size z) I3.ok.bsz) (Nat.not_lt.mpr cge)
end
end Fc
set_option maxHeartbeats 4000000
/-! Defs that refuse a rule ahead of all else. -/
namespace Fc
open PySem PySem.Spec PyProof.Rows L2 LamX
theorem start_at {N : List Str} {vs : List V} {i : Nat} {v : V} (h : vs[i]? = some v) : (L2.start N vs)[i]? = some (some v) := by
  have hi := (List.getElem?_eq_some_iff.mp h).1
  unfold L2.start
  rw [List.getElem?_append_left (by rw [List.length_map]; exact hi), List.getElem?_map, h]
  rfl
theorem pss_nevs {X : Cx} {ss : List Stmt} : PSs X ss tNev := ⟨fun _ _ _ _ _ _ h => h.elim⟩
/-- refused: the rule in place i cannot be -/
def spRefX (K : PySem.W.Frag) (T : List Addr) (n i : Nat) : Sp := fun vs H Q E => vs.length = n ∧ ∃ (v : V) (rs : List Row), vs[i]? = some v ∧ Dn N0 H v (ruleD rs) ∧ LenR rs ∧ Tbs T H ∧ badR rs < rs.length ∧ Refus K E "BadRule" "number" (.int (badR rs : Nat)) H
/-- the first of two rules cannot be, or the second -/
def spRef2X (K : PySem.W.Frag) (T : List Addr) : Sp := fun vs H Q E => ∃ (v u : V) (r1 r2 : List Row), vs = [v, u] ∧ Dn N0 H v (ruleD r1) ∧ Dn N0 H u (ruleD r2) ∧ LenR r1 ∧ LenR r2 ∧ Tbs T H ∧
  ((badR r1 < r1.length ∧ Refus K E "BadRule" "number" (.int (badR r1 : Nat)) H) ∨ (badR r1 = r1.length ∧ badR r2 < r2.length ∧ Refus K E "BadRule" "number" (.int (badR r2 : Nat)) H))
section
variable {P : Program} {w : World} {K : PySem.W.Frag} {mg : Str → Option Value} {base : Heap}
theorem ref_first {x : Str} {st : Stmt} {N ps : List Str} {T : List Addr} {r : Str} {n : Nat} {p1 p2 p3 p4 : Pos} {rest : List Stmt} (D : DefAt K mg x st) (S : FnScope N ps (defScope st)) (C : CalX P w K mg base 5 "check_rule" (spCheckX K T)) (hn : ps.length = n) (hN : N[0]? = some r) (hp : r ∈ ps)
    (hbody : defBody st = .Expr (.Call (.Name "check_rule" p1) [.Name r p2] [] p3) p4 :: rest) (hg : (defScope st).names.lookup ("check_rule" : Str) = some .globalImplicit) (hd1 : (r == ("__debug__" : Str)) = false) (hd2 : (r == ("__classdict__" : Str)) = false)
    (hb : ∀ (kV doc pm : Value) (an : Option Addr) (cdv ct : Value) (us : List Value), us.length = ps.length → bindArgs (PySem.W.fnOf x x (defArgs st) (defBody st) (defScope st) .none kV doc pm an cdv ct) ⟨us, []⟩ = pure (ps.zip us)) :
    CalX P w K mg base 6 x (spRefX K T n 0) := by
  refine cal_mkX D S (fun vs H Q E h => h.1.trans hn.symm) hb (fun A outer s H vs Q E hr h tk => ?_)
  obtain ⟨_, v, rs, hv, hd, hl, ht, hbad, hE⟩ := h
  rw [hbody]
  refine ⟨_, pss_cons (ps_expr (pe_cX C hr (by decide) hg tk (pa_cons (pe_var (i := 0) hN ((S.par r hp).elim .inl fun z => .inr (.inl z)) hd1 hd2) pa_nil))) pss_nevs, ?_⟩
  exact ⟨v, start_at hv, v, rs, rfl, hd, hl, ht, fun z => absurd hbad (by omega), fun _ => hE⟩
end
end Fc
set_option maxHeartbeats 4000000
/-! What is refused, told. -/
namespace Fc
open PySem PySem.Spec PyProof.Rows L2 LamX
theorem pe_workK {X : Cx} {k j i : Nat} {x : Str} {p pos : Pos} {W : WX} {P : Program} {w : World} {K : PySem.W.Frag} {mg : Str → Option Value} {base : Heap} (e1 : X.prog = P) (e2 : X.w = w) (e3 : X.K = K) (e4 : X.mg = mg) (e5 : X.base = base) (hr : Room j X.A) (hk : k ≤ j) (tk : L2N.Takes X W) (hv : PE X (.Name x p) (tVar i)) :
    PE X (.Call (.Name x p) [] [] pos) (tWork P w K mg base k i W) := by
  subst e1 e2 e3 e4 e5
  exact pe_work hr hk tk hv
/-- a refusal of the class x with a number, to be told -/
def HandN (K : PySem.W.Frag) (x : Str) (Q : VK) : XK := fun cls d H' => ∃ (dd : Addr) (n : Int), d = some dd ∧ cls = .ref (He.ga K x) ∧ H' dd = some (.xd [(("number" : Str), .int n)]) ∧ ∀ t H2, Kp N0 H' H2 → H2 t = some (.tup [.str x, .int n]) → Q (.ref t) H2
def spRefused (P : Program) (w : World) (K : PySem.W.Frag) (mg : Str → Option Value) (base : Heap) (k : Nat) : Sp := fun vs H Q _ => ∃ (f : Addr) (R : Hp → VK → XK → Prop), vs = [.ref f] ∧ WorkP P w K mg base k f R ∧ ∀ (Q' : VK) (E' : XK), (∀ v H', Q .non H' → Q' v H') → (∀ cls d H', HandN K "BadRule" Q cls d H' → E' cls d H') → R H Q' E'
end Fc
set_option maxHeartbeats 4000000
/-! Works: lambdas that refuse. -/
namespace Fc
open PySem PySem.Spec PyProof.Rows L2 LamX
/-- at f a lambda, made where the cells were these -/
def LamF (H : Hp) (f : Addr) (q : Str) (params : Arguments) (body : Expr) (scope : Scope) (cells : List (Str × Addr)) (n : Nat) : Prop := ∃ (c' : Addr) (pm ctv dV : Value), H f = some (pinO (lamO q params body scope (cloFrom cells scope.names []) pm c' ctv dV)) ∧ H c' = some (CodeO c' q) ∧ DfV n H dV
theorem LamF.kp {H H' : Hp} {f : Addr} {q : Str} {params : Arguments} {body : Expr} {scope : Scope} {cells : List (Str × Addr)} {n : Nat} (h : LamF H f q params body scope cells n) (k : Kp N0 H H') : LamF H' f q params body scope cells n := by
  obtain ⟨c', pm, ctv, dV, h1, h2, h3⟩ := h
  exact ⟨c', pm, ctv, dV, k.obj h1 (fun ⟨_, e, _⟩ => nomatch e) nn, k.obj h2 (fun ⟨_, e, _⟩ => codeO_ne _ e) nn, h3.kp k⟩
theorem augH_keep {p : Pn} {H : Hp} {b : Addr} {u : HO} (k : ∀ b o, p.lookup b = some o → H b = none) (e : H b = some u) : augH p H b = some u := by
  cases q : p.lookup b with
  | none => rw [augH_out q]; exact e
  | some o => rw [k b o q] at e; cases e
theorem LamF.aug {p : Pn} {H : Hp} {f : Addr} {q : Str} {params : Arguments} {body : Expr} {scope : Scope} {cells : List (Str × Addr)} {n : Nat} (h : LamF H f q params body scope cells n) (k : ∀ b o, p.lookup b = some o → H b = none) : LamF (augH p H) f q params body scope cells n := by
  obtain ⟨c', pm, ctv, dV, h1, h2, h3⟩ := h
  refine ⟨c', pm, ctv, dV, augH_keep k h1, augH_keep k h2, ?_⟩
  rcases h3 with h3 | ⟨a, T, b, c⟩
  · exact .inl h3
  · exact .inr ⟨a, T, b, augH_keep k c⟩
def tLamF (cells : List (Str × Addr)) (P : Addr) (q : Str) (params : Arguments) (body : Expr) (scope : Scope) (n : Nat) : TE := fun σ H Q => TabS H P q ∧ ∀ (f : Addr) (H1 : Hp), Kp N0 H H1 → TabS H1 P q → H f = none → LamF H1 f q params body scope cells n → Q (.ref f) H1
section
variable {X : Cx}
theorem pe_lamF0 {c P : Addr} {params : Arguments} {body : Expr} {scope : Scope} {pos : Pos} (TB : TabB X.base X.mg c P) (hcode : X.env.code = .ref c) (hdef : defaultsOf params X.env = ([], [])) (L : ∀ y ∈ scope.names, y.2 = .free → X.env.scope.names.lookup y.1 = some .cell ∨ X.env.scope.names.lookup y.1 = some .free) :
    PE X (.Lambda params body scope pos) (tLamF X.env.cells P (X.env.qual ++ "<lambda>") params body scope 0) :=
  pe_conv (pe_lam0 TB hcode hdef L) fun σ H Q ⟨h1, h2⟩ => ⟨h1, fun f c' pm ctv dV H1 k T n a b d => h2 f H1 k T n ⟨c', pm, ctv, dV, a, b, d⟩⟩
theorem pe_lamF1 {c P : Addr} {params : Arguments} {body : Expr} {scope : Scope} {pos p0 : Pos} {j : Nat} (TB : TabB X.base X.mg c P) (hcode : X.env.code = .ref c) (hdef : defaultsOf params X.env = ([eval (.Constant (.int 0) j p0) X.env], [])) (hkw : params.kwonlyargs = [])
    (L : ∀ y ∈ scope.names, y.2 = .free → X.env.scope.names.lookup y.1 = some .cell ∨ X.env.scope.names.lookup y.1 = some .free) :
    PE X (.Lambda params body scope pos) (tLamF X.env.cells P (X.env.qual ++ "<lambda>") params body scope 1) :=
  pe_conv (pe_lam1 TB hcode hdef hkw L) fun σ H Q ⟨h1, h2⟩ => ⟨h1, fun f c' pm ctv dV H1 k T n a b d => h2 f H1 k T n ⟨c', pm, ctv, dV, a, b, d⟩⟩
end
/-! ### what is read where the pins are let go -/
section
variable {p : Pn} {H H' : Hp}
theorem Kp.unstrip (st : Stand p H) (k : Kp N0 (strH p H) H') : Kp N0 H (augH p H') := fun a o e => by
  cases q : p.lookup a with
  | some ob =>
    rw [st a ob q] at e
    cases e
    exact ⟨_, augH_in q, .inl rfl⟩
  | none =>
    obtain ⟨u, h1, h2⟩ := k a o (by rw [strH_out q]; exact e)
    exact ⟨u, by rw [augH_out q]; exact h1, h2⟩
theorem Refus.strip {K : PySem.W.Frag} {E : XK} {x fld : Str} {y : V} (h : Refus K E x fld y H) (st : Stand p H) : Refus K (fun cls d H' => Gone p H' → E cls d (augH p H')) x fld y (strH p H) := fun dd H' k a gone =>
  h dd _ (Kp.unstrip st k) (augH_keep gone a)
theorem Tbs.strip {T : List Addr} (h : Tbs T H) (st : Stand p H) : Tbs T (strH p H) := fun P hP => by
  obtain ⟨ps, e, t⟩ := h P hP
  cases q : p.lookup P with
  | some ob => rw [st P ob q] at e; cases e
  | none => exact ⟨ps, by rw [strH_out q]; exact e, t⟩
theorem Stand.kp (st : Stand p H) (k : Kp N0 H H') : Stand p H' := fun b o e => k.obj (st b o e) (fun ⟨_, e, _⟩ => nomatch e) nn
end
/-- what is refused, whenever it is called -/
def Item (P : Program) (w : World) (K : PySem.W.Frag) (mg : Str → Option Value) (base : Heap) (H : Hp) (x : V) (m : Int) : Prop := ∃ (f : Addr) (R : Hp → VK → XK → Prop), x = .ref f ∧ WorkP P w K mg base 8 f R ∧ ∀ H2, Kp N0 H H2 → ∀ (Q : VK) (E : XK), Refus K E "BadRule" "number" (.int m) H2 → R H2 Q E
/-- what the captured names hold, in the slots of their def -/
structure CapS (X : Cx) (scope : Scope) (fr : List Str) (ws : List (Option V)) (σ : L2.St) : Prop where
  len : ws.length = fr.length
  free : ∀ y ∈ scope.names, y.2 = .free → y.1 ∈ X.N ∧ X.env.scope.names.lookup y.1 = some .cell
  got : ∀ y ∈ fr, (y, NameKind.free) ∈ scope.names
  at_ : ∀ (i : Nat) (y : Str), fr[i]? = some y → ∃ (j : Nat) (v : V), X.N[j]? = some y ∧ σ[j]? = some (some v) ∧ ws[i]? = some (some v)
theorem cellsP_of {X : Cx} {σ : L2.St} {H : Hp} {p : Pn} {scope : Scope} {fr : List Str} {ws : List (Option V)} (ca : CellsAll X σ H p) (cs : CapS X scope fr ws σ) (hhas : ∀ x, X.env.scope.names.lookup x = some .cell → ∃ c, X.env.cells.lookup x = some c) : CellsP p (cloFrom X.env.cells scope.names []) fr ws (augH p H) := by
  have hfree : ∀ y ∈ scope.names, y.2 = .free → ∃ c, X.env.cells.lookup y.1 = some c := fun y hy e => hhas _ (cs.free y hy e).2
  have cm : ∀ {y c}, (cloFrom X.env.cells scope.names []).lookup y = some c → X.env.cells.lookup y = some c := fun {y c} e => NdefX.clo_cm hfree e
  refine ⟨cs.len, fun y c e => ?_, fun x y c e1 e2 => ca.inj x y c (cm e1) (cm e2), fun i y e => ?_, fun b o e => augH_in e⟩
  · have hy : (y, NameKind.free) ∈ scope.names := by
      rcases cloFrom_mem (PySem.mem_of_lookup e) with hm | ⟨h1, _⟩
      · cases hm
      · exact h1
    exact ca.all y c (cs.free _ hy rfl).1 (cm e)
  · have hy := cs.got y (List.mem_of_getElem? e)
    obtain ⟨c, hc⟩ := hfree _ hy rfl
    refine ⟨c, NdefX.clo_has hfree hy hc, fun v hv => ?_⟩
    obtain ⟨j, v2, h1, h2, h3⟩ := cs.at_ i y e
    rw [h3] at hv
    cases hv
    obtain ⟨c2, o, e2, e3, e4⟩ := ca.has j y _ h1 h2 (cs.free _ hy rfl).2
    have e2 : X.env.cells.lookup y = some c2 := e2
    have hc : X.env.cells.lookup y = some c := hc
    rw [hc] at e2
    cases e2
    exact ⟨o, e3, e4⟩
section
variable {P : Program} {w : World} {K : PySem.W.Frag} {mg : Str → Option Value} {base : Heap}
theorem work_item {X : Cx} {σ : L2.St} {H : Hp} {p : Pn} {f : Addr} {q : Str} {params : Arguments} {body : Expr} {scope : Scope} {n : Nat} {N ps fr : List Str} {ws : List (Option V)} {tb : XK → TE} {m : Int} (l : LamF H f q params body scope X.env.cells n) (ca : CellsAll X σ H p) (cs : CapS X scope fr ws σ)
    (hhas : ∀ x, X.env.scope.names.lookup x = some .cell → ∃ c, X.env.cells.lookup x = some c) (S : NdefX.NScope N ps fr scope) (hps : ps.length = n) (hb : BindsL q params body scope ps)
    (hbody : ∀ (c' : Addr) (A : Around) (outer : List Env) (s : Shared) (H : Hp) (E : XK), Room 7 (A.deeper (NdefX.envF (lamNF q params scope (cloFrom X.env.cells scope.names []) c') f s.heap.objs.size)) →
      L2N.Takes (NdefX.ncx (L2N.CX P w) P w K mg base N (lamNF q params scope (cloFrom X.env.cells scope.names []) c') f A outer s H E) (fun cls d _ H => E cls d H) → PE (NdefX.ncx (L2N.CX P w) P w K mg base N (lamNF q params scope (cloFrom X.env.cells scope.names []) c') f A outer s H E) body (tb E))
    (hread : ∀ H2, Stand p H2 → Kp N0 (augH p H) H2 → ∀ (Q : VK) (E : XK), Refus K E "BadRule" "number" (.int m) H2 → tb (fun cls d H' => Gone p H' → E cls d (augH p H')) (NdefX.startF N (zeros ps) ws) (strH p H2) fun v H' => Gone p H' → Q v (augH p H')) :
    Item P w K mg base (augH p H) (.ref f) m := by
  subst hps
  refine ⟨f, RLam q params body scope (cloFrom X.env.cells scope.names []) N ps fr ws f tb, rfl, lam_work (k := 7) S hb hbody, fun H2 k2 Q E hE => ?_⟩
  have cp := cellsP_of ca cs hhas
  obtain ⟨c', pm, ctv, dV, h1, h2, h3⟩ := (l.aug ca.none).kp k2
  exact ⟨pm, ctv, dV, c', p, h1, h2, h3, cp.kp k2, hread H2 (cp.kp k2).pin k2 Q E hE⟩
end
theorem Kp.aug {p : Pn} {H H' : Hp} (k : Kp N0 H H') (n : ∀ b o, p.lookup b = some o → H' b = none) : Kp N0 H (augH p H') := fun a o e => by
  obtain ⟨u, h1, h2⟩ := k a o e
  exact ⟨u, augH_keep n h1, h2⟩
theorem tabS_new {H : Hp} {P L : Addr} {q : Str} {o : HO} (h : TabS H P q) (f : H L = none) : TabS (upd H L o) P q := h.ext fun b u e => by rw [upd_ne (ne_of_none e f)]; exact e
section
variable {P : Program} {w : World} {K : PySem.W.Frag} {mg : Str → Option Value} {base : Heap}
theorem cal_mkR {x : Str} {st : Stmt} {N ps : List Str} {k : Nat} {sp : Sp} (D : DefAt K mg x st) (S : FnScope N ps (defScope st)) (len : ∀ vs H Q E, sp vs H Q E → vs.length = ps.length)
    (hb : ∀ (kV doc pm : Value) (an : Option Addr) (cdv ct : Value) (us : List Value), us.length = ps.length → bindArgs (PySem.W.fnOf x x (defArgs st) (defBody st) (defScope st) .none kV doc pm an cdv ct) ⟨us, []⟩ = pure (ps.zip us))
    (hbody : ∀ (A : Around) (outer : List Env) (s : Shared) (H : Hp) (vs : List V) (Q : VK) (E : XK), Room k (A.deeper (envOfC x (defScope st) s.heap.objs.size (He.ga K x) (.ref (cO K x)))) → sp vs H Q E →
      ∃ t, PSR (cxOf C8.CX0 P w K mg base N x (defScope st) (He.ga K x) (.ref (cO K x)) A outer s H E) (defBody st) t ∧
        t (fun σ' v H' => ∀ p, CellsAll (cxOf C8.CX0 P w K mg base N x (defScope st) (He.ga K x) (.ref (cO K x)) A outer s H E) σ' H' p → Q v (augH p H')) (L2.start N vs) H) : C8.Cal P w K mg base (k + 1) x sp [] := by
  obtain ⟨fd, F⟩ := D.fn
  exact ⟨_, fd, ps, [], fn_mkR F S len hbody, D.mgf, F.kp, F.bindsN hb, .nil⟩
end
def worksQ : Str := "_law_works.<locals>.<lambda>"
/-- _law_works(rule), of a rule that cannot be: all refuse it -/
def spWorksX (P : Program) (w : World) (K : PySem.W.Frag) (mg : Str → Option Value) (base : Heap) (T : List Addr) (Pt : Addr) : Sp := fun vs H Q _ => ∃ (v : V) (rs : List Row), vs = [v] ∧ Dn N0 H v (ruleD rs) ∧ LenR rs ∧ Tbs T H ∧ TabS H Pt worksQ ∧ badR rs < rs.length ∧
  ∀ (W : Addr) (xs : List V) (H' : Hp), H W = none → Kp N0 H H' → H' W = some (.lst xs) → xs.length = 16 → (∀ x ∈ xs, Item P w K mg base H' x (badR rs : Nat)) → Q (.ref W) H'
theorem capR1 {v w : V} {o1 : Option V} {i : Nat} {y : Str} (e : ([("_law_rule_here" : Str)] : List Str)[i]? = some y) : ∃ (j : Nat) (u : V), ([("_law_rule_here" : Str), "_law_works_here", "_law_papers_here"] : List Str)[j]? = some y ∧ ([some v, o1, some w] : L2.St)[j]? = some (some u) ∧ ([some v] : List (Option V))[i]? = some (some u) :=
  match i, e with
  | 0, e => by
    cases e
    exact ⟨0, v, rfl, rfl, rfl⟩
theorem capR2 {v w : V} {o1 : Option V} {i : Nat} {y : Str} (e : ([("_law_rule_here" : Str), "_law_papers_here"] : List Str)[i]? = some y) : ∃ (j : Nat) (u : V), ([("_law_rule_here" : Str), "_law_works_here", "_law_papers_here"] : List Str)[j]? = some y ∧ ([some v, o1, some w] : L2.St)[j]? = some (some u) ∧ ([some v, some w] : List (Option V))[i]? = some (some u) :=
  match i, e with
  | 0, e => by
    cases e
    exact ⟨0, v, rfl, rfl, rfl⟩
  | 1, e => by
    cases e
    exact ⟨2, w, rfl, rfl, rfl⟩
theorem lst_keep {H H' : Hp} {b : Addr} {xs : List V} (e : H b = some (.lst xs)) (k : Kp N0 H H') : H' b = some (.lst xs) := k.obj e ntl nn
end Fc
set_option maxHeartbeats 4000000
/-! Rules that cannot be, put together. -/
namespace Fc
open PySem PySem.Spec PyProof.Rows L2 LamX
/-! ### written data, while a box stands -/
def tDB (b l : Addr) (d : PyData) : TE := fun _ H Q => Box H b l ∧ ∀ v H', Box H' b l → Kp (sB b l) H H' → Dn (sB b l) H' v d → Q v H'
def aDB (b l : Addr) (ds : List PyData) : TA := fun _ H Q => Box H b l ∧ ∀ vs H', Box H' b l → Kp (sB b l) H H' → DnA (sB b l) H' vs ds → Q vs H'
section
variable {X : Cx} {b l : Addr}
theorem pa_conv {es : List Expr} {t t' : TA} (h : PA X es t) (c : ∀ σ H Q, t' σ H Q → t σ H Q) : PA X es t' := ⟨fun pos pins s σ H Q I h' => h.run pos pins s σ H Q I (c σ H Q h')⟩
theorem pe_strB {z : Str} {j : Nat} {p : Pos} : PE X (.Constant (.str z) j p) (tDB b l (.str z)) := pe_conv pe_str fun σ H Q ⟨hB, q⟩ => q _ H hB Kp.refl (.str _)
theorem pa_nilB : PA X [] (aDB b l []) := pa_conv pa_nil fun σ H Q ⟨hB, q⟩ => q _ H hB Kp.refl .nil
theorem pa_consB {e : Expr} {es : List Expr} {d : PyData} {ds : List PyData} (he : PE X e (tDB b l d)) (ha : PA X es (aDB b l ds)) (hs : starEach (e :: es) X.env = (false, eval e X.env) :: starEach es X.env := by rfl) : PA X (e :: es) (aDB b l (d :: ds)) :=
  pa_conv (pa_cons he ha hs) fun σ H Q ⟨hB, q⟩ => ⟨hB, fun v H1 hB1 k1 d1 => ⟨hB1, fun vs H2 hB2 k2 d2 => q _ H2 hB2 (k1.trans k2) (.cons (d1.kp k2) d2)⟩⟩
theorem pe_tupB {es : List Expr} {k : Nat} {pos : Pos} {ds : List PyData} (ha : PA X es (aDB b l ds)) (hz : ds.length ≤ 1000 := by decide) : PE X (.Tuple es k pos) (tDB b l (.tuple ds)) :=
  pe_conv (pe_tup ha) fun σ H Q ⟨hB, q⟩ => ⟨hB, fun vs H1 hB1 k1 d1 => ⟨by rw [d1.len, sizeLine_eq]; omega, fun t ft => by
    have s := fun z => hB1.on t z ft
    exact q _ _ (hB1.upd s) (k1.trans (Kp.new ft)) (.tup s upd_same (d1.kp (Kp.new ft)))⟩⟩
theorem pe_lstB {es : List Expr} {pos : Pos} {ds : List PyData} (ha : PA X es (aDB b l ds)) (hz : ds.length ≤ 1000 := by decide) : PE X (.List es pos) (tDB b l (.list ds)) :=
  pe_conv (pe_lst ha) fun σ H Q ⟨hB, q⟩ => ⟨hB, fun vs H1 hB1 k1 d1 => ⟨by rw [d1.len, sizeLine_eq]; omega, fun t ft => by
    have s := fun z => hB1.on t z ft
    exact q _ _ (hB1.upd s) (k1.trans (Kp.new ft)) (.lst s upd_same (d1.kp (Kp.new ft)))⟩⟩
/-- name + written list -/
theorem pe_catB {i : Nat} {e e2 : Expr} {pos : Pos} {ds es : List PyData} (h1 : PE X e (tVar i)) (h2 : PE X e2 (tDB b l (.list es))) : PE X (.BinOp e .Add e2 pos) (fun σ H Q => Box H b l ∧ (∃ v, σ[i]? = some (some v) ∧ Dn (sB b l) H v (.list ds)) ∧ ds.length + es.length ≤ 1000 ∧ ∀ v H', Box H' b l → Kp (sB b l) H H' → Dn (sB b l) H' v (.list (ds ++ es)) → Q v H') :=
  pe_conv (pe_op op_cat h1 h2) fun σ H Q ⟨hB, ⟨v, hv, hd⟩, hz, q⟩ => ⟨v, hv, hB, fun u H1 hB1 k1 d1 => by
    obtain ⟨a, xs, rfl, s1, a1, x1⟩ := (hd.kp k1).lst_ex
    obtain ⟨c, ys, rfl, s2, a2, x2⟩ := d1.lst_ex
    refine ⟨a, c, xs, ys, rfl, rfl, a1, a2, by rw [x1.len, x2.len, sizeLine_eq]; omega, fun p fp => ?_⟩
    have s := fun z => hB1.on p z fp
    exact q _ _ (hB1.upd s) (k1.trans (Kp.new fp)) (.lst s upd_same ((x1.app x2).kp (Kp.new fp)))⟩
end
theorem DnA.rep {S : Addr → Prop} {H : Hp} {v : V} {d : PyData} (h : Dn S H v d) : ∀ n : Nat, DnA S H (List.replicate n [v]).flatten (List.replicate n d)
  | 0 => .nil
  | n + 1 => by
    rw [List.replicate_succ, List.flatten_cons, List.replicate_succ]
    exact .cons h (DnA.rep h n)
/-- a drawn number, and more -/
def tTk (i : Nat) (b l : Addr) (lo hi : Nat) : TE := fun σ H Q => σ[i]? = some (some (.ref b)) ∧ Box H b l ∧ ∀ (r : Nat) H', r < hi → Box H' b l → Kp (sB b l) H H' → Q (.int ((lo + r : Nat) : Int)) H'
section
variable {X : Cx} {b l : Addr}
theorem pe_repB {i : Nat} {e1 e2 : Expr} {pos : Pos} {d : PyData} {lo hi : Nat} (h1 : PE X e1 (tDB b l (.list [d]))) (h2 : PE X e2 (tTk i b l lo hi)) (hz : lo + hi ≤ 1000 := by decide) : PE X (.BinOp e1 .Mult e2 pos) (fun σ H Q => σ[i]? = some (some (.ref b)) ∧ Box H b l ∧
    ∀ (r : Nat) p ws H', r < hi → H' p = some (.lst ws) → ¬ sB b l p → DnA (sB b l) H' ws (List.replicate (lo + r) d) → Box H' b l → Kp (sB b l) H H' → Q (.ref p) H') :=
  pe_conv (pe_op op_rep h1 h2) fun σ H Q ⟨hs, hB, q⟩ => ⟨hB, fun v H1 hB1 k1 d1 => ⟨hs, hB1, fun r H2 hr hB2 k2 => by
    obtain ⟨a, ws, rfl, s1, a1, x1⟩ := d1.lst_ex
    obtain ⟨e0, ws', e1, e2, e3⟩ := x1.cons_ex
    obtain rfl := e3.nil_eq
    subst e1
    refine ⟨a, _, _, rfl, rfl, k2.obj a1 ntl s1, by omega, by omega, by rw [sizeLine_eq]; show 1 * (((lo + r : Nat) : Int)).toNat ≤ _; omega, fun p fp => ?_⟩
    have s := fun z => hB2.on p z fp
    rw [Int.toNat_natCast]
    exact q r p _ _ hr upd_same s ((DnA.rep (e2.kp k2) (lo + r)).kp (Kp.new fp)) (hB2.upd s) (k1.trans (k2.trans (Kp.new fp)))⟩⟩
theorem pe_takeB {P : Program} {i j : Nat} {p0 pos : Pos} {e e2 : Expr} {hi : Nat} (C : C8.Cal X.prog X.w X.K X.mg X.base 1 "_law_take" spTake []) (hr : Room j X.A) (hk : 1 ≤ j) (hg : Gl X "_law_take") (h1 : PE X e (tVar i)) (h2 : PE X e2 (tC (.int hi))) (h0 : 0 < hi) (hh : hi < 1000)
    (he : starEach [e, e2] X.env = (false, eval e X.env) :: starEach [e2] X.env := by rfl) (he2 : starEach [e2] X.env = (false, eval e2 X.env) :: starEach [] X.env := by rfl) (hpl : (backTo pos (starEach [e2] X.env)).any (·.1) = false := by rfl) : PE X (.Call (.Name "_law_take" p0) [e, e2] [] pos) (tTk i b l 0 hi) :=
  pe_conv (C8.pe_c C hr hk hg (pa_cons h1 (pa_cons h2 pa_nil he2) he) (by decide) he hpl) fun σ H Q ⟨hs, hB, q⟩ => ⟨_, hs, b, l, hi, rfl, hB, by omega, by omega, fun r H' r0 r1 hB' k' => by
    have z := q r.toNat H' (by omega) hB' k'
    have e : ((0 + r.toNat : Nat) : Int) = r := by omega
    rw [e] at z
    exact z⟩
theorem pe_addB {i : Nat} {e e2 : Expr} {pos : Pos} {lo hi : Nat} (h1 : PE X e (tC (.int lo))) (h2 : PE X e2 (tTk i b l 0 hi)) : PE X (.BinOp e .Add e2 pos) (tTk i b l lo hi) :=
  pe_conv (pe_op op_add h1 h2) fun σ H Q ⟨hs, hB, q⟩ => ⟨hs, hB, fun r H' hr hB' k' => ⟨_, _, rfl, rfl, by
    have z := q r H' hr hB' k'
    have e : ((lo : Int) + ((0 + r : Nat) : Int)) = ((lo + r : Nat) : Int) := by omega
    show Q (.int ((lo : Int) + ((0 + r : Nat) : Int))) H'
    rw [e]
    exact z⟩⟩
end
/-! ### which rows cannot be -/
def some1 : List Row := [("", "a", ""), ("sevenxx", "", ""), ("rest", "a", ""), ("A", "", ""), ("a b", "", ""), ("a1", "", "")]
def some2 : List Row := [("x", "ba", ""), ("x", "aa", ""), ("x", "i", ""), ("x", "", "i"), ("x", "", "hg"), ("x", "a b", "")]
def some3 : List Row := [("x", "ab", "bc"), ("x", "h", "h"), ("x", "A", ""), ("x", "-", "")]
def someT : List Row := (some1 ++ some2) ++ some3
theorem some_bad : ∀ r ∈ someT, isRowM r = false ∧ r.1.length ≤ 7 ∧ r.2.1.length ≤ 7 ∧ r.2.2.length ≤ 7 := by decide +kernel
def wide6 : List Row := [("ha", "", ""), ("hb", "", ""), ("hc", "", ""), ("hd", "", ""), ("he", "", ""), ("hf", "", "")]
def rowHa : Row := ("ha", "a", "")
def rowHg : Row := ("hg", "", "")
def rowE : Row := ("", "", "")
def rowX : Row := ("x", "", "a")
def rowsB (k : Nat) : List Row := (wide6 ++ List.replicate k rowHa) ++ [rowHg]
theorem badB : ∀ k : Fin 3, ∀ j : Fin 2, badR (rowsB k ++ List.replicate j rowE) = 6 + k ∧ (rowsB k).length = 7 + k := by decide +kernel
theorem badC : ∀ k : Fin 3, badR (List.replicate (13 + k) rowX) = 12 := by decide +kernel
theorem lenR_by {rs : List Row} (h1 : rs.length ≤ 1000) (h2 : (rs.all fun r => decide (r.1.length ≤ 1000) && (decide (r.2.1.length ≤ 1000) && decide (r.2.2.length ≤ 1000))) = true) : LenR rs := ⟨h1, fun r hr => by
  have z := List.all_eq_true.mp h2 r hr
  simp only [Bool.and_eq_true, decide_eq_true_eq] at z
  exact z⟩
theorem lenB : ∀ k : Fin 3, ∀ j : Fin 2, ((rowsB k ++ List.replicate j rowE).all fun r => decide (r.1.length ≤ 1000) && (decide (r.2.1.length ≤ 1000) && decide (r.2.2.length ≤ 1000))) = true ∧ (rowsB k ++ List.replicate j rowE).length ≤ 1000 := by decide +kernel
theorem lenC : ∀ k : Fin 3, ((List.replicate (13 + k) rowX).all fun r => decide (r.1.length ≤ 1000) && (decide (r.2.1.length ≤ 1000) && decide (r.2.2.length ≤ 1000))) = true ∧ (List.replicate (13 + k) rowX).length ≤ 1000 := by decide +kernel
theorem goodR_at {rs : List Row} (g : GoodR rs) (h11 : rs.length ≤ 11) {i : Nat} (hi : i < rs.length) (more : List Row) : goodAt (rs ++ more) i = true := by
  have e1 : (rs ++ more)[i]? = some rs[i] := by rw [List.getElem?_append_left hi, List.getElem?_eq_getElem hi]
  unfold goodAt
  rw [getD_at e1, g.row _ (List.getElem_mem hi), decide_eq_true (by omega : i < 12), Bool.true_and, Bool.true_and]
  obtain ⟨hs, h6, hm⟩ := g.heads
  refine decide_eq_true ?_
  have e2 : (rs ++ more).take (i + 1) = rs.take (i + 1) := List.take_append_of_le_length (by omega)
  unfold headsTo
  rw [e2]
  have nd := (riseS_rs ((rs.take (i + 1)).map (·.1))).nodup
  refine Nat.le_trans (nodup_le nd fun x hx => ?_) h6
  have hx2 := (riseS_mem _ _).mp hx
  obtain ⟨r, hr, e⟩ := List.mem_map.mp hx2
  rw [← e]
  exact hm r (List.mem_of_mem_take hr)
theorem goodR_take {rs : List Row} (g : GoodR rs) (n : Nat) : GoodR (rs.take n) := by
  obtain ⟨hs, h6, hm⟩ := g.heads
  exact ⟨by rw [List.length_take]; have := g.few; omega, fun r hr => g.row r (List.mem_of_mem_take hr), hs, h6, fun r hr => hm r (List.mem_of_mem_take hr)⟩
theorem badA {rs : List Row} (g : GoodR rs) (h10 : rs.length ≤ 10) {n : Nat} (hn : n ≤ rs.length) {r : Row} (hr : isRowM r = false) (more : List Row) : badR ((rs.take n ++ [r]) ++ more) = n := by
  have ln : (rs.take n).length = n := by rw [List.length_take]; omega
  refine firstN_is (by simp only [List.length_append, ln, List.length_singleton]; omega) (fun j hj => ?_) ?_
  · rw [List.append_assoc]
    exact goodR_at (goodR_take g n) (by omega) (by omega) _
  · have e1 : ((rs.take n ++ [r]) ++ more)[n]? = some r := by
      rw [List.getElem?_append_left (by simp only [List.length_append, ln, List.length_singleton]; omega), List.getElem?_append_right (by omega), ln, Nat.sub_self]
      rfl
    unfold goodAt
    rw [getD_at e1, hr, Bool.and_false, Bool.false_and]
theorem wide_eq : (((("abcdef" : Str)).cps.toList.filter fun _ => true).map fun c => rowD ("h" ++ ⟨#[c]⟩, "", "")) = wide6.map rowD := rfl
/-- _law_bad(box, rule): rows that cannot be, and the first of them -/
def spBad : Sp := fun vs H Q _ => ∃ (b l : Addr) (v : V) (rs : List Row), vs = [.ref b, v] ∧ Box H b l ∧ Dn (sB b l) H v (ruleD rs) ∧ GoodR rs ∧ rs.length ≤ 10 ∧ ∀ (rows : List Row) (t : Addr) (R : V) (H' : Hp), LenR rows → badR rows < rows.length → Box H' b l → Kp (sB b l) H H' → H' t = some (.tup [R, .int (badR rows : Nat)]) → Dn (sB b l) H' R (ruleD rows) → Q (.ref t) H'
end Fc
set_option maxHeartbeats 4000000
namespace Fc
open PySem PySem.Spec PyProof.Rows L2
section
variable {P : Program} {w : World} {K : PySem.W.Frag} {mg : Str → Option Value} {base : Heap}
theorem scBadL : FnScope ["_law_box", "_law_rule_here", "_law_at", "_law_some", "_law_rows", "_law_sign"] ["_law_box", "_law_rule_here"] (defScope sBadL) := ⟨rfl, rfl, rfl, by decide +kernel, rfl, by decide +kernel, by decide +kernel⟩
theorem ok_badL (D : DefAt K mg "_law_bad" sBadL) (C : C8.Cal P w K mg base 1 "_law_take" spTake []) (gL : mg "len" = none) : C8.Cal P w K mg base 2 "_law_bad" spBad [] := by
  refine cal_mk D scBadL (fun vs H Q E h => ?_) (fun _ _ _ _ _ _ us hl => match us, hl with | [_, _], _ => rfl) (fun A outer s H vs Q E hr h => ?_)
  · obtain ⟨b, l, v, rs, rfl, _⟩ := h
    rfl
  · obtain ⟨b, l, v, rs, rfl, hB, hd, hg, h10, k⟩ := h
    refine ⟨_, pss_cons (ps_set (i := 2) scBadL.nd rfl (Or.inl rfl) (C8.pe_c C hr (by decide) rfl (pa_cons (pv 0) (pa_cons (pe_op op_add (pe_callB call_len_seq (by rfl) gL PySem.boot_len (pa_cons (pv 1) pa_nil)) pe_int) pa_nil))))
      (pss_cons (ps_set (i := 3) scBadL.nd rfl (Or.inl rfl) (pe_lstB (b := b) (l := l) (pa_consB (pe_tupB (pa_consB pe_strB (pa_consB pe_strB (pa_consB pe_strB pa_nilB)))) (pa_consB (pe_tupB (pa_consB pe_strB (pa_consB pe_strB (pa_consB pe_strB pa_nilB)))) (pa_consB (pe_tupB (pa_consB pe_strB (pa_consB pe_strB (pa_consB pe_strB pa_nilB)))) (pa_consB (pe_tupB (pa_consB pe_strB (pa_consB pe_strB (pa_consB pe_strB pa_nilB)))) (pa_consB (pe_tupB (pa_consB pe_strB (pa_consB pe_strB (pa_consB pe_strB pa_nilB)))) (pa_consB (pe_tupB (pa_consB pe_strB (pa_consB pe_strB (pa_consB pe_strB pa_nilB)))) pa_nilB))))))))
      (pss_cons (ps_set (i := 3) scBadL.nd rfl (Or.inl rfl) (pe_catB (b := b) (l := l) (ds := some1.map rowD) (pv 3) (pe_lstB (pa_consB (pe_tupB (pa_consB pe_strB (pa_consB pe_strB (pa_consB pe_strB pa_nilB)))) (pa_consB (pe_tupB (pa_consB pe_strB (pa_consB pe_strB (pa_consB pe_strB pa_nilB)))) (pa_consB (pe_tupB (pa_consB pe_strB (pa_consB pe_strB (pa_consB pe_strB pa_nilB)))) (pa_consB (pe_tupB (pa_consB pe_strB (pa_consB pe_strB (pa_consB pe_strB pa_nilB)))) (pa_consB (pe_tupB (pa_consB pe_strB (pa_consB pe_strB (pa_consB pe_strB pa_nilB)))) (pa_consB (pe_tupB (pa_consB pe_strB (pa_consB pe_strB (pa_consB pe_strB pa_nilB)))) pa_nilB)))))))))
      (pss_cons (ps_set (i := 3) scBadL.nd rfl (Or.inl rfl) (pe_catB (b := b) (l := l) (ds := (some1 ++ some2).map rowD) (pv 3) (pe_lstB (pa_consB (pe_tupB (pa_consB pe_strB (pa_consB pe_strB (pa_consB pe_strB pa_nilB)))) (pa_consB (pe_tupB (pa_consB pe_strB (pa_consB pe_strB (pa_consB pe_strB pa_nilB)))) (pa_consB (pe_tupB (pa_consB pe_strB (pa_consB pe_strB (pa_consB pe_strB pa_nilB)))) (pa_consB (pe_tupB (pa_consB pe_strB (pa_consB pe_strB (pa_consB pe_strB pa_nilB)))) pa_nilB)))))))
      (pss_cons (ps_set (i := 4) scBadL.nd rfl (Or.inl rfl) (pe_op op_cat (pe_op op_cat (pe_op op_cat (pe_slice sl_list (pv 1) po_none (po_some (pv 2))) (pe_lst (pa_cons (pe_ix ix_list (pv 3) (C8.pe_c C hr (by decide) rfl (pa_cons (pv 0) (pa_cons pe_int pa_nil))) (fun _ _ => rfl)) pa_nil))) (pe_slice sl_list (pv 1) (po_some (pv 2)) po_none)) (pe_op op_rep (pe_lstB (b := b) (l := l) (pa_consB (pe_tupB (pa_consB pe_strB (pa_consB pe_strB (pa_consB pe_strB pa_nilB)))) pa_nilB)) (C8.pe_c C hr (by decide) rfl (pa_cons (pv 0) (pa_cons pe_int pa_nil))))))
      (pss_cons (ps_if (pt_cmpR op_eq (C8.pe_c C hr (by decide) rfl (pa_cons (pv 0) (pa_cons pe_int pa_nil))) pe_int (nomark _))
        (pss_cons (ps_set (i := 4) scBadL.nd rfl (Or.inl rfl) (pe_op op_cat (pe_op op_cat (pe_lc (own := [("_law_sign", 5)]) (g := gName 5) (tt := tYes) rfl scBadL.nd (pi_str pe_str) (blkOk_by (N := ["_law_box", "_law_rule_here", "_law_at", "_law_some", "_law_rows", "_law_sign"]) (sc := defScope sBadL) (by decide +kernel)) (fun _ _ _ _ _ => pg_name (i := 5) scBadL.nd rfl (Or.inl rfl)) (fun _ _ _ _ _ => pts_nil) (fun _ _ _ _ _ => pe_tup (pa_cons (pe_op op_add_str pe_str (pv 5)) (pa_cons pe_str (pa_cons pe_str pa_nil)))))
            (pe_repB (b := b) (l := l) (i := 0) (lo := 0) (hi := 3) (d := rowD rowHa) (pe_lstB (pa_consB (pe_tupB (pa_consB pe_strB (pa_consB pe_strB (pa_consB pe_strB pa_nilB)))) pa_nilB)) (pe_takeB (P := P) (i := 0) (hi := 3) C hr (by decide) rfl (pv 0) pe_int (by decide) (by decide)))) (pe_lstB (b := b) (l := l) (pa_consB (pe_tupB (pa_consB pe_strB (pa_consB pe_strB (pa_consB pe_strB pa_nilB)))) pa_nilB))))
        (pss_one (ps_ret (pe_tup (pa_cons (pe_op op_cat (pv 4) (pe_repB (b := b) (l := l) (i := 0) (lo := 0) (hi := 2) (d := rowD rowE) (pe_lstB (pa_consB (pe_tupB (pa_consB pe_strB (pa_consB pe_strB (pa_consB pe_strB pa_nilB)))) pa_nilB)) (pe_takeB (P := P) (i := 0) (hi := 2) C hr (by decide) rfl (pv 0) pe_int (by decide) (by decide)))) (pa_cons (pe_op op_sub (pe_callB call_len_seq (by rfl) gL PySem.boot_len (pa_cons (pv 4) pa_nil)) pe_int) pa_nil)))))) pss_nil)
      (pss_cons (ps_if (pt_cmpR op_eq (C8.pe_c C hr (by decide) rfl (pa_cons (pv 0) (pa_cons pe_int pa_nil))) pe_int (nomark _))
        (pss_one (ps_ret (pe_tup (pa_cons (pe_repB (b := b) (l := l) (i := 0) (lo := 13) (hi := 3) (d := rowD rowX) (pe_lstB (pa_consB (pe_tupB (pa_consB pe_strB (pa_consB pe_strB (pa_consB pe_strB pa_nilB)))) pa_nilB)) (pe_addB pe_int (pe_takeB (P := P) (i := 0) (hi := 3) C hr (by decide) rfl (pv 0) pe_int (by decide) (by decide)))) (pa_cons pe_int pa_nil))))) pss_nil)
      (pss_one (ps_ret (pe_tup (pa_cons (pv 4) (pa_cons (pv 2) pa_nil))))))))))), ?_⟩
    have sz : ∀ n : Nat, n ≤ 5000 → n ≤ sizeLine := fun n h => by rw [sizeLine_eq]; omega
    obtain ⟨a, xs, rfl, sa, aa, hx⟩ := hd.lst_ex
    have xl : xs.length = rs.length := by rw [hx.len, List.length_map]
    refine ⟨_, rfl, _, rfl, a, xs, rfl, .inl (SqL.of aa), _, _, rfl, rfl, b, l, _, rfl, hB, by omega, by omega, fun at_ H1 p0 p1 hB1 k1 => ?_⟩
    obtain ⟨n, rfl⟩ : ∃ n : Nat, at_ = (n : Int) := ⟨at_.toNat, by omega⟩
    have hn : n ≤ rs.length := by omega
    refine ⟨hB1, fun v1 H2 hB2 k2 d1 => ⟨hB2, ⟨v1, rfl, d1⟩, by decide, fun v2 H3 hB3 k3 d2 => ⟨hB3, ⟨v2, rfl, d2⟩, by decide, fun v3 H4 hB4 k4 d3 => ?_⟩⟩⟩
    have k14 := k1.trans (k2.trans (k3.trans k4))
    have d3 : Dn (sB b l) H4 v3 (.list (someT.map rowD)) := d3
    clear d1 d2 k1 k2 k3 k4 hB1 hB2 hB3
    obtain ⟨S4, ys, rfl, sS, aS, hy⟩ := d3.lst_ex
    have aa4 := k14.obj aa ntl sa
    have hx4 := hx.kp k14
    have ly : ys.length = 16 := by rw [hy.len, List.length_map]; rfl
    have N1 : ∀ {H : Hp} {q : Addr}, Box H b l → H q = none → ¬ sB b l q := fun hB f z => hB.on _ z f
    -- the rows
    refine ⟨_, rfl, _, rfl, _, rfl, a, xs, rfl, SqL.of aa4, fun q1 f1 => ?_⟩
    have ec : cutV xs none (some (n : Int)) = xs.take n := by rw [cutV_take _ (by omega), Int.toNat_natCast]
    rw [ec]
    have s1 := N1 hB4 f1
    have m1 : Kp N0 H4 (upd H4 q1 (.lst (xs.take n))) := Kp.new f1
    have b1 : (upd H4 q1 (.lst (xs.take n))) q1 = some (.lst (xs.take n)) := upd_same
    generalize upd H4 q1 (.lst (xs.take n)) = G1 at m1 b1 ⊢
    refine ⟨_, rfl, _, rfl, b, l, 16, rfl, hB4.kp m1, by decide, by decide, fun r G2 r0 r1 hB5 m2 => ?_⟩
    have i16 : r.toNat < ys.length := by omega
    have i16' : r.toNat < someT.length := by have e : someT.length = 16 := rfl; omega
    have hyr : ys[r.toNat]? = some ys[r.toNat] := List.getElem?_eq_getElem i16
    have m12 := m1.up.trans m2
    have dr := (hy.kp m12).map_at hyr (List.getElem?_eq_getElem i16')
    obtain ⟨nb, w1, w2, w3⟩ := some_bad _ (List.getElem_mem i16')
    generalize someT[r.toNat] = bad at dr nb w1 w2 w3
    generalize ys[r.toNat] = y at hyr dr
    refine ⟨S4, ys, r, y, rfl, rfl, SqL.of (m12.obj aS ntl sS), at_of (by omega) hyr, sz 1 (by decide), fun q2 f2 => ?_⟩
    have s2 := N1 hB5 f2
    have m3 : Kp N0 G2 (upd G2 q2 (.lst [y])) := Kp.new f2
    have b2 : (upd G2 q2 (.lst [y])) q2 = some (.lst [y]) := upd_same
    have b13 := m3.obj (m2.obj b1 ntl s1) ntl nn
    generalize upd G2 q2 (.lst [y]) = G3 at m3 b2 b13 ⊢
    have lx1 : (xs.take n).length ≤ 10 := by rw [List.length_take]; omega
    refine ⟨q1, q2, _, _, rfl, rfl, b13, b2, sz _ (by simp only [List.length_singleton]; omega), fun q3 f3 => ?_⟩
    have m4 : Kp N0 G3 (upd G3 q3 (.lst (xs.take n ++ [y]))) := Kp.new f3
    have b3 : (upd G3 q3 (.lst (xs.take n ++ [y]))) q3 = some (.lst (xs.take n ++ [y])) := upd_same
    generalize upd G3 q3 (.lst (xs.take n ++ [y])) = G4 at m4 b3 ⊢
    have m24 := m3.trans m4
    have m14 := m12.trans m24.up
    have hB6 := hB5.kp m24
    refine ⟨_, rfl, _, rfl, _, rfl, a, xs, rfl, SqL.of (m14.obj aa4 ntl sa), fun q4 f4 => ?_⟩
    have ec2 : cutV xs (some (n : Int)) none = xs.drop n := by rw [cutV_drop _ (by omega), Int.toNat_natCast]
    rw [ec2]
    have m5 : Kp N0 G4 (upd G4 q4 (.lst (xs.drop n))) := Kp.new f4
    have b4 : (upd G4 q4 (.lst (xs.drop n))) q4 = some (.lst (xs.drop n)) := upd_same
    have b34 := m5.obj b3 ntl nn
    generalize upd G4 q4 (.lst (xs.drop n)) = G5 at m5 b4 b34 ⊢
    have lx2 : (xs.drop n).length ≤ 10 := by rw [List.length_drop]; omega
    refine ⟨q3, q4, _, _, rfl, rfl, b34, b4, sz _ (by rw [List.length_append, List.length_singleton]; omega), fun q5 f5 => ?_⟩
    have m6 : Kp N0 G5 (upd G5 q5 (.lst ((xs.take n ++ [y]) ++ xs.drop n))) := Kp.new f5
    have b5 : (upd G5 q5 (.lst ((xs.take n ++ [y]) ++ xs.drop n))) q5 = some (.lst ((xs.take n ++ [y]) ++ xs.drop n)) := upd_same
    have m46 := m5.trans m6
    have hB7 := hB6.kp m46
    have s5 := N1 (hB6.kp m5) f5
    have m16 := m14.trans m46.up
    generalize upd G5 q5 (.lst ((xs.take n ++ [y]) ++ xs.drop n)) = G6 at m46 b5 hB7 m16 ⊢
    have dA : DnA (sB b l) G6 ((xs.take n ++ [y]) ++ xs.drop n) (((rs.take n ++ [bad]) ++ rs.drop n).map rowD) := by
      rw [List.map_append, List.map_append]
      have e1 := (hx4.kp m16).take n
      have e2 := (hx4.kp m16).drop n
      rw [← List.map_take] at e1
      rw [← List.map_drop] at e2
      exact (e1.app (.one (dr.kp (m24.trans m46).up))).app e2
    clear m1 b1 m2 m12 hyr b2 b13 m3 b3 m4 m24 m14 hB6 hB5 b4 b34 m5 m46 f1 f2 f3 f4 f5 s1 s2 hy ly i16 i16' aS sS d3 ec ec2
    refine ⟨hB7, fun v1 G7 hB8 m7 d1 => ⟨_, rfl, b, l, 2, rfl, hB8, by decide, by decide, fun r2 G8 c0 c1 hB9 m8 => ?_⟩⟩
    obtain ⟨q6, ws, rfl, s6, b6, hw⟩ := d1.lst_ex
    obtain ⟨e0, ev0⟩ : ∃ e0, ws = [e0] ∧ Dn (sB b l) G7 e0 (rowD rowE) := by
      obtain ⟨e0, ws', e1, e2, e3⟩ := hw.cons_ex
      exact ⟨e0, by rw [e1, e3.nil_eq], e2⟩
    obtain ⟨ew, ed0⟩ := ev0
    subst ew
    have b68 := m8.obj b6 ntl s6
    have kr : r2.toNat ≤ 1 := by omega
    refine ⟨q6, r2, _, rfl, rfl, b68, by omega, by omega, sz _ (by show 1 * r2.toNat ≤ _; omega), fun q7 f7 => ?_⟩
    have m9 : Kp N0 G8 (upd G8 q7 (.lst (List.replicate r2.toNat [e0]).flatten)) := Kp.new f7
    have b7 : (upd G8 q7 (.lst (List.replicate r2.toNat [e0]).flatten)) q7 = some (.lst (List.replicate r2.toNat [e0]).flatten) := upd_same
    have dE := (DnA.rep ed0 r2.toNat).kp (m8.trans m9.up)
    have m79 := m7.trans (m8.trans m9.up)
    have b59 := m79.obj b5 ntl s5
    have dA9 := dA.kp m79
    have hB10 := hB9.kp m9
    have m19 := m16.trans m79
    generalize upd G8 q7 (.lst (List.replicate r2.toNat [e0]).flatten) = G9 at m9 b7 dE b59 dA9 hB10 m19 ⊢
    have lE : (List.replicate r2.toNat [e0]).flatten.length ≤ 1 := by rw [dE.len, List.length_replicate]; omega
    refine ⟨q5, q7, _, _, rfl, rfl, b59, b7, sz _ (by rw [List.length_append, List.length_append, List.length_singleton]; omega), fun q8 f8 => ?_⟩
    have s8 := N1 hB10 f8
    have m10 : Kp N0 G9 (upd G9 q8 (.lst (((xs.take n ++ [y]) ++ xs.drop n) ++ (List.replicate r2.toNat [e0]).flatten))) := Kp.new f8
    have b8 : (upd G9 q8 (.lst (((xs.take n ++ [y]) ++ xs.drop n) ++ (List.replicate r2.toNat [e0]).flatten))) q8 = some (.lst (((xs.take n ++ [y]) ++ xs.drop n) ++ (List.replicate r2.toNat [e0]).flatten)) := upd_same
    have hB11 := hB10.kp m10
    have dR := (dA9.app dE).kp m10.up
    have m20 := m19.trans m10.up
    show tSeq _ _ _ _ (upd G9 q8 (.lst (((xs.take n ++ [y]) ++ xs.drop n) ++ (List.replicate r2.toNat [e0]).flatten)))
    generalize upd G9 q8 (.lst (((xs.take n ++ [y]) ++ xs.drop n) ++ (List.replicate r2.toNat [e0]).flatten)) = G10 at b8 hB11 dR m20 ⊢
    have emap : (((rs.take n ++ [bad]) ++ rs.drop n).map rowD) ++ List.replicate r2.toNat (rowD rowE) = (((rs.take n ++ [bad]) ++ (rs.drop n ++ List.replicate r2.toNat rowE)).map rowD) := by
      simp [List.map_append, List.map_replicate]
    rw [emap] at dR
    clear m10 dA9 dE b59 m79 m9 b7 b68 hw b6 m8 hB8 hB9 hB10 m19 dA m7 hB7 b5 m16 emap
    have kAll := k14.trans m20
    -- six heads and one more
    refine ⟨_, rfl, b, l, 5, rfl, hB11, by decide, by decide, fun r3 G11 z0 z1 hB12 m11 => ⟨rfl, _, rfl, ite2 (fun c => ?_) fun c => ?_⟩⟩
    · refine ⟨_, rfl, fun D hD => lc_txt (fun _ => true) (fun c => rowD ("h" ++ ⟨#[c]⟩, "", "")) (sB b l) hB12.on hD (by decide) (fun _ => rfl) (fun c H2 _ k2 Q2 q2 => q2 H2 Kp.refl) (fun c H2 _ _ k2 S' _ hS' Q2 q2 => ?_) fun F1 out k21 hout hdn => ?_⟩
      · exact ⟨_, rfl, _, _, rfl, rfl, sz _ (by show 1 + 1 ≤ 5000; decide), sz 3 (by decide), fun t ft => q2 _ _ (Kp.new ft) (.tup (fun z => hS' _ z ft) upd_same (DnA.strs ["h" ++ ⟨#[c]⟩, "", ""]))⟩
      rw [wide_eq] at hdn
      have hBa := hB12.kp k21
      have sD := N1 hB12 hD
      refine ⟨rfl, hBa, fun r5 p5 ws5 F2 h5 a5 s5' d5 hBb k22 => ?_⟩
      have hout2 := k22.obj hout ntl sD
      have lo6 : out.length = 6 := by rw [hdn.len]; rfl
      have lw5 : ws5.length ≤ 3 := by rw [d5.len, List.length_replicate]; omega
      refine ⟨D, p5, _, _, rfl, rfl, hout2, a5, sz _ (by omega), fun p6 f6 => ?_⟩
      have s6' := N1 hBb f6
      have k23 : Kp N0 F2 (upd F2 p6 (.lst (out ++ ws5))) := Kp.new f6
      have a6 : (upd F2 p6 (.lst (out ++ ws5))) p6 = some (.lst (out ++ ws5)) := upd_same
      have hBc := hBb.kp k23
      have d6 := ((hdn.weak (fun a z => .inl z) |>.kp k22).app d5).kp k23.up
      generalize upd F2 p6 (.lst (out ++ ws5)) = F3 at k23 a6 hBc d6 ⊢
      refine ⟨hBc, fun v7 F4 hBd k24 d7 => ?_⟩
      obtain ⟨p7, ws7, rfl, s7', a7, x7⟩ := d7.lst_ex
      have a64 := k24.obj a6 ntl s6'
      have lw7 : ws7.length = 1 := by rw [x7.len]; rfl
      refine ⟨p6, p7, _, _, rfl, rfl, a64, a7, sz _ (by rw [List.length_append]; omega), fun p8 f8 => ?_⟩
      have s8' := N1 hBd f8
      have k25 : Kp N0 F4 (upd F4 p8 (.lst ((out ++ ws5) ++ ws7))) := Kp.new f8
      have a8 : (upd F4 p8 (.lst ((out ++ ws5) ++ ws7))) p8 = some (.lst ((out ++ ws5) ++ ws7)) := upd_same
      have hBe := hBd.kp k25
      have d8 := ((d6.kp k24).app x7).kp k25.up
      have k2all : Kp (sB b l) G11 (upd F4 p8 (.lst ((out ++ ws5) ++ ws7))) := k21.up.trans (k22.trans (k23.up.trans (k24.trans k25.up)))
      dsimp only [gName]
      generalize upd F4 p8 (.lst ((out ++ ws5) ++ ws7)) = F5 at a8 hBe d8 k2all ⊢
      refine ⟨_, rfl, rfl, hBe, fun r9 p9 ws9 F6 h9 a9 s9' d9 hBf k26 => ?_⟩
      have a86 := k26.obj a8 ntl s8'
      have lw9 : ws9.length ≤ 2 := by rw [d9.len, List.length_replicate]; omega
      have ll : ((out ++ ws5) ++ ws7).length = 7 + r5 := by
        rw [List.length_append, List.length_append, d5.len, List.length_replicate]
        omega
      refine ⟨p8, p9, _, _, rfl, rfl, a86, a9, sz _ (by rw [ll]; omega), fun p10 f10 => ?_⟩
      have s10' := N1 hBf f10
      have k27 : Kp N0 F6 (upd F6 p10 (.lst (((out ++ ws5) ++ ws7) ++ ws9))) := Kp.new f10
      have a10 : (upd F6 p10 (.lst (((out ++ ws5) ++ ws7) ++ ws9))) p10 = some (.lst (((out ++ ws5) ++ ws7) ++ ws9)) := upd_same
      have hBg := hBf.kp k27
      have d10 := ((d8.kp k26).app d9).kp k27.up
      have a810 := k27.obj a86 ntl nn
      generalize upd F6 p10 (.lst (((out ++ ws5) ++ ws7) ++ ws9)) = F7 at k27 a10 hBg d10 a810 ⊢
      refine ⟨_, rfl, p8, _, rfl, .inl (SqL.of a810), _, _, rfl, rfl, sz 2 (by decide), fun t ft => ?_⟩
      have kt : Kp N0 F7 (upd F7 t (.tup [.ref p10, .int ((((out ++ ws5) ++ ws7).length : Nat) - 1)])) := Kp.new ft
      obtain ⟨eb, _⟩ := badB ⟨r5, h5⟩ ⟨r9, h9⟩
      obtain ⟨el1, el2⟩ := lenB ⟨r5, h5⟩ ⟨r9, h9⟩
      have eb : badR (rowsB r5 ++ List.replicate r9 rowE) = 6 + r5 := eb
      have em : (((wide6.map rowD ++ List.replicate (0 + r5) (rowD rowHa)) ++ [rowD rowHg]) ++ List.replicate (0 + r9) (rowD rowE)) = (rowsB r5 ++ List.replicate r9 rowE).map rowD := by
        unfold rowsB
        simp [List.map_append, List.map_replicate]
      have d10 : DnA (sB b l) F7 (((out ++ ws5) ++ ws7) ++ ws9) ((rowsB r5 ++ List.replicate r9 rowE).map rowD) := by
        rw [← em]
        exact d10
      have ei : ((((out ++ ws5) ++ ws7).length : Nat) : Int) - 1 = ((6 + r5 : Nat) : Int) := by rw [ll]; omega
      refine k _ t (.ref p10) _ (lenR_by el2 el1) ?_ (hBg.kp kt) (kAll.trans (m11.trans (k2all.trans (k26.trans (k27.trans kt).up)))) (by rw [eb, ← ei]; exact upd_same) (.lst s10' (kt.obj a10 ntl nn) (d10.kp kt.up))
      rw [eb]
      unfold rowsB
      simp only [List.length_append, List.length_replicate, List.length_singleton]
      have : wide6.length = 6 := rfl
      omega
    have b9 := m11.obj b8 ntl s8
    refine ⟨_, rfl, b, l, 5, rfl, hB12, by decide, by decide, fun r4 G12 z0 z1 hB13 m12 => ⟨rfl, _, rfl, ite2 (fun c => ?_) fun c => ?_⟩⟩
    · refine ⟨rfl, hB13, fun r5 p5 ws5 F2 h5 a5 s5' d5 hBb k22 => ⟨sz 2 (by decide), fun t ft => ?_⟩⟩
      have kt : Kp N0 F2 (upd F2 t (.tup [.ref p5, .int 12])) := Kp.new ft
      have eb : badR (List.replicate (13 + r5) rowX) = 12 := badC ⟨r5, h5⟩
      obtain ⟨el1, el2⟩ := lenC ⟨r5, h5⟩
      refine k (List.replicate (13 + r5) rowX) t (.ref p5) _ (lenR_by el2 el1) (by rw [eb, List.length_replicate]; omega) (hBb.kp kt) (kAll.trans (m11.trans (m12.trans (k22.trans kt.up)))) (by rw [eb]; exact upd_same) (.lst s5' (kt.obj a5 ntl nn) ?_)
      have z := d5.kp kt.up
      rw [List.map_replicate]
      exact z
    have b10 := m12.obj b9 ntl s8
    have k12 := kAll.trans (m11.trans m12)
    refine ⟨_, rfl, _, rfl, sz 2 (by decide), fun t ft => ?_⟩
    have eb : badR ((rs.take n ++ [bad]) ++ (rs.drop n ++ List.replicate r2.toNat rowE)) = n := badA hg h10 hn nb _
    have len : LenR ((rs.take n ++ [bad]) ++ (rs.drop n ++ List.replicate r2.toNat rowE)) := by
      refine ⟨by simp only [List.length_append, List.length_take, List.length_drop, List.length_replicate, List.length_singleton]; omega, fun q hq => ?_⟩
      have ok : ∀ q ∈ rs, q.1.length ≤ 1000 ∧ q.2.1.length ≤ 1000 ∧ q.2.2.length ≤ 1000 := fun q hq => by
        obtain ⟨a1, a2, a3⟩ := isRowM_len (hg.row q hq)
        omega
      rcases List.mem_append.mp hq with h1 | h1
      · rcases List.mem_append.mp h1 with h2 | h2
        · exact ok q (List.mem_of_mem_take h2)
        · rw [List.mem_singleton.mp h2]
          omega
      · rcases List.mem_append.mp h1 with h2 | h2
        · exact ok q (List.mem_of_mem_drop h2)
        · rw [(List.mem_replicate.mp h2).2]
          decide
    have kt : Kp N0 G12 (upd G12 t (.tup [.ref q8, .int (n : Nat)])) := Kp.new ft
    refine k _ t (.ref q8) _ len (by rw [eb]; simp only [List.length_append, List.length_take, List.length_singleton]; omega) (hB13.kp kt) (k12.trans kt.up) (by rw [eb]; exact upd_same) ?_
    exact .lst s8 (kt.obj b10 ntl nn) (dR.kp ((m11.trans m12).trans kt.up))
end
end Fc
set_option maxHeartbeats 4000000
namespace Fc
open PySem PySem.Spec PyProof.Rows L2
section
variable {P : Program} {w : World} {K : PySem.W.Frag} {mg : Str → Option Value} {base : Heap}
theorem scIsSmall : FnScope ["text"] ["text"] (defScope sIsSmall) := ⟨rfl, rfl, rfl, by decide +kernel, rfl, by decide +kernel, by decide +kernel⟩
theorem ok_isSmall {T : List Addr} (D : DefAt K mg "is_small" sIsSmall) (TB : GxR.TabB base mg (cO K "is_small") (tO K "is_small")) (hT : tO K "is_small" ∈ T) (gAll : mg "all" = none) (gL : ∃ t, mg "LETTERS" = some (.str abc t)) :
    C8.Cal P w K mg base 2 "is_small" (spIsSmall T) [] := by
  refine cal_mk D scIsSmall (fun vs H Q E h => ?_) (fun _ _ _ _ _ _ us hl => match us, hl with | [_], _ => rfl) (fun A outer s H vs Q E hr h => ?_)
  · obtain ⟨t, rfl, _⟩ := h
    rfl
  · obtain ⟨t, rfl, ht, k⟩ := h
    refine ⟨_, pss_one (ps_ret (pe_and (pe_cmpR op_ne (pv 0) pe_str (nomark _)) (pe_one (pe_allGlo hr gAll TB rfl (pv 0) gL)))), ?_⟩
    have e : isSmallM t = (!decide (t = "") && t.cps.toList.all (sg abc)) := rfl
    have ed : (!decide (V.str t = V.str "")) = !decide (t = "") := by simp
    refine ⟨_, rfl, rfl, _, rfl, ?_⟩
    rw [ed]
    refine ite2 (fun c => ?_) (fun c => ?_)
    · rw [c, Bool.true_and] at e
      refine ⟨_, rfl, t, rfl, ht _ hT, fun H2 t2 => ?_⟩
      have q := k H2 (Kp.tabbed (ht _ hT) t2)
      rw [e] at q
      rw [if_pos rfl]
      exact q
    · have c' : (!decide (t = "")) = false := by simpa using c
      rw [c', Bool.false_and] at e
      have q := k H Kp.refl
      rw [e] at q
      exact q
end
end Fc
set_option maxHeartbeats 4000000
namespace Fc
open PySem PySem.Spec PyProof.Rows L2
section
variable {P : Program} {w : World} {K : PySem.W.Frag} {mg : Str → Option Value} {base : Heap}
theorem scIsWord : FnScope ["text"] ["text"] (defScope sIsWord) := ⟨rfl, rfl, rfl, by decide +kernel, rfl, by decide +kernel, by decide +kernel⟩
theorem ok_isWord {T : List Addr} (D : DefAt K mg "is_word" sIsWord) (C : C8.Cal P w K mg base 2 "is_small" (spIsSmall T) []) (gLen : mg "len" = none) (gW : ∃ t, mg "LONGEST_WORD" = some (.int 6 t)) :
    C8.Cal P w K mg base 3 "is_word" (spIsWord T) [] := by
  refine cal_mk D scIsWord (fun vs H Q E h => ?_) (fun _ _ _ _ _ _ us hl => match us, hl with | [_], _ => rfl) (fun A outer s H vs Q E hr h => ?_)
  · obtain ⟨t, rfl, _⟩ := h
    rfl
  · obtain ⟨t, rfl, hl, ht, k⟩ := h
    refine ⟨_, pss_one (ps_ret (pe_and (C8.pe_c C hr (by decide) rfl (pa_cons (pv 0) pa_nil)) (pe_one (pe_cmpR op_le (pe_callB call_len_str (by rfl) gLen PySem.boot_len (pa_cons (pv 0) pa_nil)) (pe_gi gW) (nomark _))))), ?_⟩
    have e := isWord_small t
    refine ⟨_, rfl, t, rfl, ht, fun H1 k1 => ⟨_, rfl, ?_⟩⟩
    refine ite2 (fun c => ?_) (fun c => ?_)
    · rw [c, Bool.true_and] at e
      refine ⟨_, rfl, t, rfl, by rw [sizeLine_eq]; omega, _, _, rfl, rfl, ?_⟩
      have q := k H1 k1
      rw [e] at q
      exact q
    · have c' : isSmallM t = false := by simpa using c
      rw [c', Bool.false_and] at e
      have q := k H1 k1
      rw [e] at q
      exact q
end
end Fc
set_option maxHeartbeats 4000000
namespace Fc
open PySem PySem.Spec PyProof.Rows L2
section
variable {P : Program} {w : World} {K : PySem.W.Frag} {mg : Str → Option Value} {base : Heap}
theorem scIsMarks : FnScope ["text", "mark"] ["text"] (defScope sIsMarks) := ⟨rfl, rfl, rfl, by decide +kernel, rfl, by decide +kernel, by decide +kernel⟩
theorem ok_isMarks (D : DefAt K mg "is_marks" sIsMarks) (gM : ∃ t, mg "MARKS" = some (.str a2h t)) : C8.Cal P w K mg base 3 "is_marks" spIsMarks [] := by
  refine cal_mk D scIsMarks (fun vs H Q E h => ?_) (fun _ _ _ _ _ _ us hl => match us, hl with | [_], _ => rfl) (fun A outer s H vs Q E hr h => ?_)
  · obtain ⟨t, rfl, _⟩ := h
    rfl
  · obtain ⟨t, rfl, hl, k⟩ := h
    refine ⟨_, pss_one (ps_ret (pe_cmpR op_eq (pv 0) (pe_joinK (K := K) rfl pe_str (pe_lc (own := [("mark", 1)]) (g := gName 1) rfl scIsMarks.nd (pi_str (pe_gs gM)) (blkOk_by (N := ["text", "mark"]) (sc := defScope sIsMarks) (by decide +kernel)) (fun _ _ _ _ _ => pg_name (i := 1) scIsMarks.nd rfl (Or.inl rfl))
      (fun _ _ _ _ _ => pts_one (pt_cmpR op_in_sign (pv 1) (pv 0) rfl)) (fun _ _ _ _ _ => pv 1))) (nomark _))), ?_⟩
    refine ⟨_, rfl, ⟨_, rfl⟩, a2h, rfl, fun D hD => lc_txt (fun c => sg t c) (fun c => PyData.str ⟨#[c]⟩) N0 (fun _ z => z.elim) hD (by decide) (fun _ => rfl) (fun c H2 _ k2 Q2 q2 => ?_) (fun c H2 _ _ k2 S' _ _ Q2 q2 => ?_) fun H' out k2 hout hdn => ?_⟩
    · exact ⟨_, rfl, _, rfl, c, t, rfl, rfl, _, rfl, q2 H2 Kp.refl⟩
    · exact ⟨_, rfl, q2 _ H2 Kp.refl (.str _)⟩
    · rw [signs_map] at hdn
      have eo := hdn.strs_eq
      subst eo
      have small : (a2h.cps.toList.filter fun c => sg t c).length ≤ 8 := List.length_filter_le _ _
      refine ⟨"", D, _, rfl, rfl, .inl (SqL.of hout), ?_, rfl, ?_⟩
      · rw [signs_sum, List.length_map]
        show _ + _ * 0 ≤ _
        omega
      · rw [join_signs]
        have q := k H' k2
        unfold isMarksM at q
        have e : decide (V.str t = V.str (oS (a2h.cps.toList.filter fun c => sg t c))) = decide (t = oS (a2h.cps.toList.filter (sg t))) := by simp
        show Q (.bl (decide (V.str t = V.str (oS (a2h.cps.toList.filter fun c => sg t c))))) H'
        rw [e]
        exact q
end
end Fc
set_option maxHeartbeats 4000000
namespace Fc
open PySem PySem.Spec PyProof.Rows L2
section
variable {P : Program} {w : World} {K : PySem.W.Frag} {mg : Str → Option Value} {base : Heap}
theorem scIsRow : FnScope ["row", "head", "needs", "bars"] ["row"] (defScope sIsRow) := ⟨rfl, rfl, rfl, by decide +kernel, rfl, by decide +kernel, by decide +kernel⟩
theorem ok_isRow {T : List Addr} (D : DefAt K mg "is_row" sIsRow) (TB : GxR.TabB base mg (cO K "is_row") (tO K "is_row")) (hT : tO K "is_row" ∈ T) (C1 : C8.Cal P w K mg base 3 "is_word" (spIsWord T) []) (C2 : C8.Cal P w K mg base 3 "is_marks" spIsMarks []) (gAny : mg "any" = none) (gR : ∃ t, mg "REST" = some (.str "rest" t)) :
    C8.Cal P w K mg base 4 "is_row" (spIsRow T) [] := by
  refine cal_mk D scIsRow (fun vs H Q E h => ?_) (fun _ _ _ _ _ _ us hl => match us, hl with | [_], _ => rfl) (fun A outer s H vs Q E hr h => ?_)
  · obtain ⟨v, r, rfl, _⟩ := h
    rfl
  · obtain ⟨v, r, rfl, hd, l1, l2, l3, ht, k⟩ := h
    obtain ⟨a, rfl, _, ha⟩ := rowD_ex hd
    refine ⟨_, pss_cons (ps_asg (pv 0) (pg_tup rfl (pgs_cons (pg_name (i := 1) scIsRow.nd rfl (Or.inl rfl)) (pgs_cons (pg_name (i := 2) scIsRow.nd rfl (Or.inl rfl)) (pgs_cons (pg_name (i := 3) scIsRow.nd rfl (Or.inr rfl)) pgs_nil)))))
      (pss_cons (ps_if (PW.pt (pw_or (pt_not (pt_val (C8.pe_c C1 hr (by decide) rfl (pa_cons (pv 1) pa_nil)))) (pw_or1 (pt_cmpR op_eq (pv 1) (pe_gs gR) (nomark _))))) (pss_one (ps_ret pe_bl)) pss_nil)
      (pss_cons (ps_if (PW.pt (pw_or (pt_not (pt_val (C8.pe_c C2 hr (by decide) rfl (pa_cons (pv 2) pa_nil)))) (pw_or1 (pt_not (pt_val (C8.pe_c C2 hr (by decide) rfl (pa_cons (pv 3) pa_nil))))))) (pss_one (ps_ret pe_bl)) pss_nil)
      (pss_one (ps_ret (pe_not (pe_anyCap (j := 3) hr gAny TB rfl (pv 2))))))), ?_⟩
    have e : isRowM r = ((isWordM r.1 && !decide (r.1 = "rest")) && ((isMarksM r.2.1 && isMarksM r.2.2) && !r.2.1.cps.toList.any (sg r.2.2))) := rfl
    have fin : ∀ b H', isRowM r = b → Kp N0 H H' → Q (.bl b) H' := fun b H' eb k' => by
      rw [← eb]
      exact k H' k'
    clear k
    refine ⟨_, rfl, a, _, rfl, SqT.of ha, rfl, _, _, rfl, _, _, rfl, _, _, rfl, rfl, ?_⟩
    refine ⟨_, rfl, r.1, rfl, l1, ht, fun H1 k1 => ⟨_, rfl, ?_⟩⟩
    cases c1 : isWordM r.1 with
    | false => exact fin false _ (by rw [e, c1] <;> rfl) k1
    | true =>
    refine iteF ⟨_, rfl, rfl, _, rfl, ?_⟩
    have ed : decide (V.str r.1 = V.str "rest") = decide (r.1 = "rest") := by simp
    refine ite2 (fun c2 => ?_) (fun c2 => ?_)
    · rw [ed] at c2
      exact fin false _ (by rw [e, c1, c2] <;> rfl) k1
    · rw [ed] at c2
      have c2' : decide (r.1 = "rest") = false := by simpa using c2
      refine ⟨_, rfl, r.2.1, rfl, l2, fun H2 k2 => ⟨_, rfl, ?_⟩⟩
      cases c3 : isMarksM r.2.1 with
      | false => exact fin false _ (by rw [e, c1, c2', c3] <;> rfl) (k1.trans k2)
      | true =>
      refine iteF ⟨_, rfl, r.2.2, rfl, l3, fun H3 k3 => ⟨_, rfl, ?_⟩⟩
      have k13 := k1.trans (k2.trans k3)
      cases c4 : isMarksM r.2.2 with
      | false => exact fin false _ (by rw [e, c1, c2', c3, c4] <;> rfl) k13
      | true =>
      refine iteF ⟨_, rfl, r.2.1, r.2.2, rfl, rfl, (k13.tbs ht) _ hT, fun H4 t4 => ⟨_, rfl, ?_⟩⟩
      rw [if_neg Bool.false_ne_true]
      exact fin _ _ (by rw [e, c1, c2', c3, c4] <;> rfl) (k13.trans (Kp.tabbed ((k13.tbs ht) _ hT) t4))
end
end Fc
set_option maxHeartbeats 4000000
namespace Fc
open PySem PySem.Spec PyProof.Rows L2
section
variable {P : Program} {w : World} {K : PySem.W.Frag} {mg : Str → Option Value} {base : Heap}
theorem scCheckX : FnScope ["rule", "heads", "number", "row"] ["rule"] (defScope sCheckX) := ⟨rfl, rfl, rfl, by decide +kernel, rfl, by decide +kernel, by decide +kernel⟩
theorem ok_checkX {T : List Addr} (D : DefAt K mg "check_rule" sCheckX) (C : C8.Cal P w K mg base 4 "is_row" (spIsRow T) []) (R : RefC P w K mg base "BadRule" "number") (gS : mg "set" = none) (gE : mg "enumerate" = none) (gLen : mg "len" = none) (gMR : ∃ t, mg "MOST_ROWS" = some (.int 12 t)) (gMH : ∃ t, mg "MOST_HEADS" = some (.int 6 t)) :
    CalX P w K mg base 5 "check_rule" (spCheckX K T) := by
  refine cal_mkX D scCheckX (fun vs H Q E h => ?_) (fun _ _ _ _ _ _ us hl => match us, hl with | [_], _ => rfl) (fun A outer s H vs Q E hr h tk => ?_)
  · obtain ⟨v, rs, rfl, _⟩ := h
    rfl
  · obtain ⟨v, rs, rfl, hd, ⟨hl1, hl2⟩, ht, k, kE⟩ := h
    obtain ⟨a, xs, rfl, _, ha, hx⟩ := hd.lst_ex
    have hlen : xs.length = rs.length := by rw [hx.len, List.length_map]
    refine ⟨_, pss_cons (ps_set (i := 1) scCheckX.nd rfl (Or.inl rfl) (pe_callTy0 cr_set0S (by rfl) gS boot_set))
      (pss_one (ps_for (PassesOwn.leaving) rfl (pi_enum (by rfl) gE (pa_cons (pv 0) pa_nil)) (pg_tup rfl (pgs_cons (pg_name (i := 2) scCheckX.nd rfl (Or.inl rfl)) (pgs_cons (pg_name (i := 3) scCheckX.nd rfl (Or.inl rfl)) pgs_nil)))
        (pss_cons (ps_if (PW.pt (pw_or (pt_cmpR op_ge (pv 2) (pe_gi gMR) (nomark _)) (pw_or1 (pt_not (pt_val (C8.pe_c C hr (by decide) rfl (pa_cons (pv 3) pa_nil))))))) (pss_one (L2N.ps_raise rfl tk (pmk_ref R (hr.mono (by decide)) rfl (pv 2)))) pss_nil)
        (pss_cons (ps_expr (pe_saddS (pv 1) (pa_cons (pe_ix ix_tup (pv 3) pe_int (fun _ _ => rfl)) pa_nil)))
        (pss_one (ps_if (pt_cmpR op_gt (pe_callB call_lenSS (by rfl) gLen PySem.boot_len (pa_cons (pv 1) pa_nil)) (pe_gi gMH) (nomark _)) (pss_one (L2N.ps_raise rfl tk (pmk_ref R (hr.mono (by decide)) rfl (pv 2)))) pss_nil)))))), ?_⟩
    refine ⟨rfl, fun p hp => ?_⟩
    refine ⟨_, rfl, a, xs, rfl, SqL.of ((Kp.new hp).obj ha ntl nn), for_it (walk_enum (xs := xs)) (fun i σ' H' => ∃ (l : List Str) (o2 o3 : Option V), σ' = [some (.ref a), some (.ref p), o2, o3] ∧ Kp N0 H H' ∧ H' p = some (SetSO w p l) ∧ l.Nodup ∧ (∀ x, x ∈ l ↔ x ∈ (rs.take i).map (·.1)) ∧ ∀ j, j < i → goodAt rs j = true)
      ⟨[], none, none, rfl, Kp.new hp, upd_same, List.nodup_nil, (fun x => by simp), fun j z => absurd z (Nat.not_lt_zero _)⟩ (fun i σ' H' _ ⟨_, _, _, _, k1, _⟩ => SqL.of (k1.obj ha ntl nn)) (fun i x σ' H' H2 hi ⟨l, o2, o3, es, k1, hl, nd, hm, hgo⟩ y => ?_) fun σ' H' ⟨_, _, _, _, k1, _, _, _, hgo⟩ => k (firstN_all fun j hj => hgo j (by rw [hlen]; exact hj)) H' k1⟩
    obtain ⟨U, u, z, rfl, hU, rfl, eu, ez⟩ := y
    cases eu
    subst es
    have hi2 : i < rs.length := by rw [← hlen]; exact hi
    have hr2 : rs[i]? = some rs[i] := List.getElem?_eq_getElem hi2
    have hin : rs[i] ∈ rs := List.getElem_mem hi2
    generalize rs[i] = r at hr2 hin
    obtain ⟨l1, l2, l3⟩ := hl2 r hin
    have eg : goodAt rs i = ((decide (i < 12) && isRowM r) && decide ((headsTo rs (i + 1)).length ≤ 6)) := by
      unfold goodAt
      rw [getD_at hr2]
    have bad : goodAt rs i = false → Refus K E "BadRule" "number" (.int (i : Nat)) H := fun z => by
      have e : badR rs = i := firstN_is hi2 hgo z
      have q := kE (by rw [e]; exact hi2)
      rw [e] at q
      exact q
    have pU : p ≠ U := ne_of_none hl hU
    have k2 : Kp N0 H (upd H' U (.tup [.int (i : Nat), z])) := k1.trans (Kp.new hU)
    refine ⟨U, _, rfl, SqT.of upd_same, rfl, _, _, rfl, _, _, rfl, rfl, ?_⟩
    refine ⟨_, rfl, _, _, rfl, rfl, _, rfl, ite2 (fun c => ?_) fun c => ?_⟩
    · have c' : (12 : Int) ≤ (i : Int) := of_decide_eq_true c
      have f : goodAt rs i = false := by
        rw [eg, decide_eq_false (by omega)]
        rfl
      exact ⟨_, rfl, small_int (by omega), ((bad f).kp k2).new⟩
    have i12 : i < 12 := by
      have c' : ¬ (12 : Int) ≤ (i : Int) := fun z => c (decide_eq_true z)
      omega
    refine ⟨_, rfl, z, r, rfl, (hx.map_at ez hr2).kp k2, by omega, by omega, by omega, k2.tbs ht, fun H3 k3 => ⟨_, rfl, ?_⟩⟩
    have k23 := k2.trans k3
    cases row : isRowM r with
    | false =>
      refine iteT ⟨_, rfl, small_int (by omega), ((bad ?_).kp k23).new⟩
      rw [eg, row, Bool.and_false, Bool.false_and]
    | true =>
    refine iteF ?_
    have hl3 : H3 p = some (SetSO w p l) := k3.obj (by rw [upd_ne pU]; exact hl) nte nn
    obtain ⟨b, rfl, _, hb⟩ := rowD_ex ((hx.map_at ez hr2).kp k23)
    have small : l.length ≤ 6 := by
      rw [heads_len nd hm]
      cases i with
      | zero => exact Nat.zero_le _
      | succ m =>
        have z1 := hgo m (Nat.lt_succ_self m)
        unfold goodAt at z1
        rw [Bool.and_eq_true] at z1
        exact of_decide_eq_true z1.2
    refine ⟨_, rfl, ⟨p, l, rfl, hl3⟩, _, rfl, b, _, 0, _, rfl, rfl, SqT.of hb, rfl, p, r.1, l, rfl, rfl, hl3, by omega, ?_⟩
    have nd' : (if r.1 ∈ l then l else r.1 :: l).Nodup := by
      split
      · exact nd
      · rename_i c
        exact List.nodup_cons.mpr ⟨c, nd⟩
    have hm' : ∀ x, x ∈ (if r.1 ∈ l then l else r.1 :: l) ↔ x ∈ (rs.take (i + 1)).map (·.1) := fun x => by
      rw [take_head hr2, List.mem_append, List.mem_singleton, ← hm x]
      split
      · rename_i c
        exact ⟨fun q => .inl q, fun q => q.elim (fun q => q) fun q => by rw [q]; exact c⟩
      · rw [List.mem_cons]
        exact ⟨fun q => q.symm, fun q => q.symm⟩
    have len' := heads_len nd' hm'
    have small' : (if r.1 ∈ l then l else r.1 :: l).length ≤ 1001 := by
      split
      · omega
      · rw [List.length_cons]
        omega
    have k4 : Kp N0 H (upd H3 p (SetSO w p (if r.1 ∈ l then l else r.1 :: l))) := k23.mut hp
    refine ⟨_, rfl, p, _, rfl, upd_same, _, _, rfl, rfl, _, rfl, ite2 (fun c => ?_) fun c => ?_⟩
    · have c' : (6 : Int) < (((if r.1 ∈ l then l else r.1 :: l).length : Nat) : Int) := of_decide_eq_true c
      refine ⟨_, rfl, small_int (by omega), ((bad ?_).kp k4).new⟩
      have z1 : decide ((if r.1 ∈ l then l else r.1 :: l).length ≤ 6) = false := decide_eq_false (by omega)
      rw [eg, ← len', z1, Bool.and_false]
    · have c' : ¬ (6 : Int) < (((if r.1 ∈ l then l else r.1 :: l).length : Nat) : Int) := fun z => c (decide_eq_true z)
      have z1 : decide ((if r.1 ∈ l then l else r.1 :: l).length ≤ 6) = true := decide_eq_true (by omega)
      refine ⟨_, _, _, rfl, k4, upd_same, nd', hm', fun j hj => ?_⟩
      rcases Nat.lt_succ_iff_lt_or_eq.mp hj with q | q
      · exact hgo j q
      · rw [q, eg, row, ← len', decide_eq_true i12, z1]
        rfl
end
end Fc
set_option maxHeartbeats 4000000
namespace Fc
open PySem PySem.Spec PyProof.Rows L2
section
variable {P : Program} {w : World} {K : PySem.W.Frag} {mg : Str → Option Value} {base : Heap}
theorem sc_sHeadsOfX : FnScope ["rule", "marks"] ["rule", "marks"] (defScope sHeadsOfX) := ⟨rfl, rfl, rfl, by decide +kernel, rfl, by decide +kernel, by decide +kernel⟩
theorem ok_sHeadsOfX {T : List Addr} (D : DefAt K mg "heads_of" sHeadsOfX) (C : CalX P w K mg base 5 "check_rule" (spCheckX K T)) : CalX P w K mg base 6 "heads_of" (spRefX K T 2 0) :=
  ref_first D sc_sHeadsOfX C rfl rfl (by simp) rfl rfl (by decide) (by decide) (fun _ _ _ _ _ _ us hl => match us, hl with | [_, _], _ => rfl)
end
end Fc
set_option maxHeartbeats 4000000
namespace Fc
open PySem PySem.Spec PyProof.Rows L2
section
variable {P : Program} {w : World} {K : PySem.W.Frag} {mg : Str → Option Value} {base : Heap}
theorem sc_sMainOfX : FnScope ["rule", "marks"] ["rule", "marks"] (defScope sMainOfX) := ⟨rfl, rfl, rfl, by decide +kernel, rfl, by decide +kernel, by decide +kernel⟩
theorem ok_sMainOfX {T : List Addr} (D : DefAt K mg "main_of" sMainOfX) (C : CalX P w K mg base 5 "check_rule" (spCheckX K T)) : CalX P w K mg base 6 "main_of" (spRefX K T 2 0) :=
  ref_first D sc_sMainOfX C rfl rfl (by simp) rfl rfl (by decide) (by decide) (fun _ _ _ _ _ _ us hl => match us, hl with | [_, _], _ => rfl)
end
end Fc
set_option maxHeartbeats 4000000
namespace Fc
open PySem PySem.Spec PyProof.Rows L2
section
variable {P : Program} {w : World} {K : PySem.W.Frag} {mg : Str → Option Value} {base : Heap}
theorem sc_sRightX : FnScope ["rule", "papers", "drawers", "name", "marks"] ["rule", "papers"] (defScope sRightX) := ⟨rfl, rfl, rfl, by decide +kernel, rfl, by decide +kernel, by decide +kernel⟩
theorem ok_sRightX {T : List Addr} (D : DefAt K mg "right" sRightX) (C : CalX P w K mg base 5 "check_rule" (spCheckX K T)) : CalX P w K mg base 6 "right" (spRefX K T 2 0) :=
  ref_first D sc_sRightX C rfl rfl (by simp) rfl rfl (by decide) (by decide) (fun _ _ _ _ _ _ us hl => match us, hl with | [_, _], _ => rfl)
end
end Fc
set_option maxHeartbeats 4000000
namespace Fc
open PySem PySem.Spec PyProof.Rows L2
section
variable {P : Program} {w : World} {K : PySem.W.Frag} {mg : Str → Option Value} {base : Heap}
theorem sc_sFoundByX : FnScope ["rule", "papers", "name", "marks_by_name", "heads", "others", "hiding"] ["rule", "papers", "name"] (defScope sFoundByX) := ⟨rfl, rfl, rfl, by decide +kernel, rfl, by decide +kernel, by decide +kernel⟩
theorem ok_sFoundByX {T : List Addr} (D : DefAt K mg "found_by" sFoundByX) (C : CalX P w K mg base 5 "check_rule" (spCheckX K T)) : CalX P w K mg base 6 "found_by" (spRefX K T 3 0) :=
  ref_first D sc_sFoundByX C rfl rfl (by simp) rfl rfl (by decide) (by decide) (fun _ _ _ _ _ _ us hl => match us, hl with | [_, _, _], _ => rfl)
end
end Fc
set_option maxHeartbeats 4000000
namespace Fc
open PySem PySem.Spec PyProof.Rows L2
section
variable {P : Program} {w : World} {K : PySem.W.Frag} {mg : Str → Option Value} {base : Heap}
theorem sc_sSlipsX : FnScope ["rule", "marks", "head"] ["rule", "marks", "head"] (defScope sSlipsX) := ⟨rfl, rfl, rfl, by decide +kernel, rfl, by decide +kernel, by decide +kernel⟩
theorem ok_sSlipsX {T : List Addr} (D : DefAt K mg "slips" sSlipsX) (C : CalX P w K mg base 5 "check_rule" (spCheckX K T)) : CalX P w K mg base 6 "slips" (spRefX K T 3 0) :=
  ref_first D sc_sSlipsX C rfl rfl (by simp) rfl rfl (by decide) (by decide) (fun _ _ _ _ _ _ us hl => match us, hl with | [_, _, _], _ => rfl)
end
end Fc
set_option maxHeartbeats 4000000
namespace Fc
open PySem PySem.Spec PyProof.Rows L2
section
variable {P : Program} {w : World} {K : PySem.W.Frag} {mg : Str → Option Value} {base : Heap}
theorem sc_sSearchX : FnScope ["rule", "cabinet", "name", "marks", "drawers", "looked", "head"] ["rule", "cabinet", "name", "marks"] (defScope sSearchX) := ⟨rfl, rfl, rfl, by decide +kernel, rfl, by decide +kernel, by decide +kernel⟩
theorem ok_sSearchX {T : List Addr} (D : DefAt K mg "search" sSearchX) (C : CalX P w K mg base 5 "check_rule" (spCheckX K T)) : CalX P w K mg base 6 "search" (spRefX K T 4 0) :=
  ref_first D sc_sSearchX C rfl rfl (by simp) rfl rfl (by decide) (by decide) (fun _ _ _ _ _ _ us hl => match us, hl with | [_, _, _, _], _ => rfl)
end
end Fc
set_option maxHeartbeats 4000000
namespace Fc
open PySem PySem.Spec PyProof.Rows L2
section
variable {P : Program} {w : World} {K : PySem.W.Frag} {mg : Str → Option Value} {base : Heap}
theorem sc_sAmissX : FnScope ["rule", "papers", "cabinet", "found", "name", "marks"] ["rule", "papers", "cabinet"] (defScope sAmissX) := ⟨rfl, rfl, rfl, by decide +kernel, rfl, by decide +kernel, by decide +kernel⟩
theorem ok_sAmissX {T : List Addr} (D : DefAt K mg "amiss" sAmissX) (C : CalX P w K mg base 5 "check_rule" (spCheckX K T)) : CalX P w K mg base 6 "amiss" (spRefX K T 3 0) :=
  ref_first D sc_sAmissX C rfl rfl (by simp) rfl rfl (by decide) (by decide) (fun _ _ _ _ _ _ us hl => match us, hl with | [_, _, _], _ => rfl)
end
end Fc
set_option maxHeartbeats 4000000
namespace Fc
open PySem PySem.Spec PyProof.Rows L2
section
variable {P : Program} {w : World} {K : PySem.W.Frag} {mg : Str → Option Value} {base : Heap}
theorem sc_sMendedX : FnScope ["rule", "papers", "cabinet", "found", "mains"] ["rule", "papers", "cabinet"] (defScope sMendedX) := ⟨rfl, rfl, rfl, by decide +kernel, rfl, by decide +kernel, by decide +kernel⟩
theorem ok_sMendedX {T : List Addr} (D : DefAt K mg "mended" sMendedX) (C : CalX P w K mg base 6 "amiss" (spRefX K T 3 0)) : CalX P w K mg base 7 "mended" (spRefX K T 3 0) := by
  refine cal_mkX D sc_sMendedX (fun vs H Q E h => h.1) (fun _ _ _ _ _ _ us hl => match us, hl with | [_, _, _], _ => rfl) (fun A outer s H vs Q E hr h tk => ?_)
  obtain ⟨hn, v, rs, hv, hd, hl, ht, hbad, hE⟩ := h
  refine ⟨_, pss_cons (ps_set (i := 3) sc_sMendedX.nd rfl (Or.inl rfl) (pe_cX C hr (by decide) rfl tk (pa_cons (pv 0) (pa_cons (pv 1) (pa_cons (pv 2) pa_nil))))) pss_nevs, ?_⟩
  match vs, hn with
  | [x0, x1, x2], _ =>
    exact ⟨_, rfl, _, rfl, _, rfl, rfl, v, rs, hv, hd, hl, ht, hbad, hE⟩
end
end Fc
set_option maxHeartbeats 4000000
namespace Fc
open PySem PySem.Spec PyProof.Rows L2
section
variable {P : Program} {w : World} {K : PySem.W.Frag} {mg : Str → Option Value} {base : Heap}
theorem sc_sDoneX : FnScope ["rule", "cabinet", "deeds", "drawers", "deed"] ["rule", "cabinet", "deeds"] (defScope sDoneX) := ⟨rfl, rfl, rfl, by decide +kernel, rfl, by decide +kernel, by decide +kernel⟩
theorem ok_sDoneX {T : List Addr} (D : DefAt K mg "done" sDoneX) (C : CalX P w K mg base 5 "check_rule" (spCheckX K T)) : CalX P w K mg base 6 "done" (spRefX K T 3 0) :=
  ref_first D sc_sDoneX C rfl rfl (by simp) rfl rfl (by decide) (by decide) (fun _ _ _ _ _ _ us hl => match us, hl with | [_, _, _], _ => rfl)
end
end Fc
set_option maxHeartbeats 4000000
namespace Fc
open PySem PySem.Spec PyProof.Rows L2
section
variable {P : Program} {w : World} {K : PySem.W.Frag} {mg : Str → Option Value} {base : Heap}
theorem sc_sPartingX : FnScope ["one", "other", "named", "count", "some", "marks", "by_one", "by_other"] ["one", "other"] (defScope sPartingX) := ⟨rfl, rfl, rfl, by decide +kernel, rfl, by decide +kernel, by decide +kernel⟩
theorem ok_sPartingX {T : List Addr} (D : DefAt K mg "parting" sPartingX) (C : CalX P w K mg base 5 "check_rule" (spCheckX K T)) : CalX P w K mg base 6 "parting" (spRef2X K T) := by
  refine cal_mkX D sc_sPartingX (fun vs H Q E h => ?_) (fun _ _ _ _ _ _ us hl => match us, hl with | [_, _], _ => rfl) (fun A outer s H vs Q E hr h tk => ?_)
  · obtain ⟨v, u, r1, r2, rfl, _⟩ := h
    rfl
  · obtain ⟨v, u, r1, r2, rfl, hd, he, l1, l2, ht, hE⟩ := h
    refine ⟨_, pss_cons (ps_expr (pe_cX C hr (by decide) rfl tk (pa_cons (pv 0) pa_nil))) (pss_cons (ps_expr (pe_cX C hr (by decide) rfl tk (pa_cons (pv 1) pa_nil))) pss_nevs), ?_⟩
    rcases hE with ⟨b1, hE⟩ | ⟨b1, b2, hE⟩
    · exact ⟨_, rfl, v, r1, rfl, hd, l1, ht, fun z => absurd b1 (by omega), fun _ => hE⟩
    · exact ⟨_, rfl, v, r1, rfl, hd, l1, ht, fun _ H1 k1 => ⟨_, rfl, u, r2, rfl, he.kp k1, l2, k1.tbs ht, fun z => absurd b2 (by omega), fun _ => hE.kp k1⟩, fun z => absurd z (by omega)⟩
end
end Fc
set_option maxHeartbeats 4000000
namespace Fc
open PySem PySem.Spec PyProof.Rows L2
section
variable {P : Program} {w : World} {K : PySem.W.Frag} {mg : Str → Option Value} {base : Heap}
theorem sc_sAlikePX : FnScope ["one", "other"] ["one", "other"] (defScope sAlikePX) := ⟨rfl, rfl, rfl, by decide +kernel, rfl, by decide +kernel, by decide +kernel⟩
theorem ok_sAlikePX {T : List Addr} (D : DefAt K mg "alike" sAlikePX) (C : CalX P w K mg base 6 "parting" (spRef2X K T)) : CalX P w K mg base 7 "alike" (spRef2X K T) := by
  refine cal_mkX D sc_sAlikePX (fun vs H Q E h => ?_) (fun _ _ _ _ _ _ us hl => match us, hl with | [_, _], _ => rfl) (fun A outer s H vs Q E hr h tk => ?_)
  · obtain ⟨v, u, r1, r2, rfl, _⟩ := h
    rfl
  · obtain ⟨v, u, r1, r2, rfl, hd, he, l1, l2, ht, hE⟩ := h
    refine ⟨_, pss_one (ps_ret (pe_cmpR op_isN (pe_cX C hr (by decide) rfl tk (pa_cons (pv 0) (pa_cons (pv 1) pa_nil))) pe_non (nomark _))), ?_⟩
    exact ⟨_, rfl, _, rfl, v, u, r1, r2, rfl, hd, he, l1, l2, ht, hE⟩
end
end Fc
set_option maxHeartbeats 4000000
namespace Fc
open PySem PySem.Spec PyProof.Rows L2
section
variable {P : Program} {w : World} {K : PySem.W.Frag} {mg : Str → Option Value} {base : Heap}
theorem sc_sWrittenX : FnScope ["rule"] ["rule"] (defScope sWrittenX) := ⟨rfl, rfl, rfl, by decide +kernel, rfl, by decide +kernel, by decide +kernel⟩
theorem ok_sWrittenX {T : List Addr} (D : DefAt K mg "written" sWrittenX) (C : CalX P w K mg base 5 "check_rule" (spCheckX K T)) : CalX P w K mg base 6 "written" (spRefX K T 1 0) :=
  ref_first D sc_sWrittenX C rfl rfl (by simp) rfl rfl (by decide) (by decide) (fun _ _ _ _ _ _ us hl => match us, hl with | [_], _ => rfl)
end
end Fc
set_option maxHeartbeats 4000000
namespace Fc
open PySem PySem.Spec PyProof.Rows L2
section
variable {P : Program} {w : World} {K : PySem.W.Frag} {mg : Str → Option Value} {base : Heap}
theorem sc_sNeededX : FnScope ["rule", "papers"] ["rule", "papers"] (defScope sNeededX) := ⟨rfl, rfl, rfl, by decide +kernel, rfl, by decide +kernel, by decide +kernel⟩
theorem ok_sNeededX {T : List Addr} (D : DefAt K mg "needed" sNeededX) (C : CalX P w K mg base 5 "check_rule" (spCheckX K T)) : CalX P w K mg base 6 "needed" (spRefX K T 2 0) :=
  ref_first D sc_sNeededX C rfl rfl (by simp) rfl rfl (by decide) (by decide) (fun _ _ _ _ _ _ us hl => match us, hl with | [_, _], _ => rfl)
end
end Fc
set_option maxHeartbeats 4000000
namespace Fc
open PySem PySem.Spec PyProof.Rows L2
section
variable {P : Program} {w : World} {K : PySem.W.Frag} {mg : Str → Option Value} {base : Heap}
theorem sc_sEnoughX : FnScope ["rule", "papers", "cards", "needs", "start", "goal"] ["rule", "papers", "cards"] (defScope sEnoughX) := ⟨rfl, rfl, rfl, by decide +kernel, rfl, by decide +kernel, by decide +kernel⟩
theorem ok_sEnoughX {T : List Addr} (D : DefAt K mg "enough" sEnoughX) (C : CalX P w K mg base 6 "needed" (spRefX K T 2 0)) : CalX P w K mg base 7 "enough" (spRefX K T 3 0) := by
  refine cal_mkX D sc_sEnoughX (fun vs H Q E h => h.1) (fun _ _ _ _ _ _ us hl => match us, hl with | [_, _, _], _ => rfl) (fun A outer s H vs Q E hr h tk => ?_)
  obtain ⟨hn, v, rs, hv, hd, hl, ht, hbad, hE⟩ := h
  refine ⟨_, pss_cons (ps_set (i := 3) sc_sEnoughX.nd rfl (Or.inl rfl) (pe_cX C hr (by decide) rfl tk (pa_cons (pv 0) (pa_cons (pv 1) pa_nil)))) pss_nevs, ?_⟩
  match vs, hn with
  | [x0, x1, x2], _ =>
    exact ⟨_, rfl, _, rfl, rfl, v, rs, hv, hd, hl, ht, hbad, hE⟩
end
end Fc
set_option maxHeartbeats 4000000
namespace Fc
open PySem PySem.Spec PyProof.Rows L2
section
variable {P : Program} {w : World} {K : PySem.W.Frag} {mg : Str → Option Value} {base : Heap}
theorem sc_sFewestX : FnScope ["rule", "papers", "needs", "cards", "group"] ["rule", "papers"] (defScope sFewestX) := ⟨rfl, rfl, rfl, by decide +kernel, rfl, by decide +kernel, by decide +kernel⟩
theorem ok_sFewestX {T : List Addr} (D : DefAt K mg "fewest" sFewestX) (C : CalX P w K mg base 6 "needed" (spRefX K T 2 0)) : CalX P w K mg base 7 "fewest" (spRefX K T 2 0) := by
  refine cal_mkX D sc_sFewestX (fun vs H Q E h => h.1) (fun _ _ _ _ _ _ us hl => match us, hl with | [_, _], _ => rfl) (fun A outer s H vs Q E hr h tk => ?_)
  obtain ⟨hn, v, rs, hv, hd, hl, ht, hbad, hE⟩ := h
  refine ⟨_, pss_cons (ps_set (i := 2) sc_sFewestX.nd rfl (Or.inl rfl) (pe_cX C hr (by decide) rfl tk (pa_cons (pv 0) (pa_cons (pv 1) pa_nil)))) pss_nevs, ?_⟩
  match vs, hn with
  | [x0, x1], _ =>
    exact ⟨_, rfl, _, rfl, rfl, v, rs, hv, hd, hl, ht, hbad, hE⟩
end
end Fc
set_option maxHeartbeats 4000000
namespace Fc
open PySem PySem.Spec PyProof.Rows L2
section
variable {P : Program} {w : World} {K : PySem.W.Frag} {mg : Str → Option Value} {base : Heap}
theorem scWorksX : FnScope ["_law_rule_here", "_law_works_here", "_law_papers_here"] ["_law_rule_here"] (defScope sWorksX) := ⟨rfl, rfl, rfl, by decide +kernel, rfl, by decide +kernel, by decide +kernel⟩
theorem ok_worksX {T : List Addr} (D : DefAt K mg "_law_works" sWorksX) (Y0 : CalX P w K mg base 6 "heads_of" (spRefX K T 2 0)) (Y1 : CalX P w K mg base 6 "main_of" (spRefX K T 2 0)) (Y2 : CalX P w K mg base 6 "right" (spRefX K T 2 0)) (Y3 : CalX P w K mg base 6 "found_by" (spRefX K T 3 0)) (Y4 : CalX P w K mg base 6 "slips" (spRefX K T 3 0)) (Y5 : CalX P w K mg base 6 "search" (spRefX K T 4 0)) (Y6 : CalX P w K mg base 6 "amiss" (spRefX K T 3 0)) (Y7 : CalX P w K mg base 7 "mended" (spRefX K T 3 0)) (Y8 : CalX P w K mg base 6 "done" (spRefX K T 3 0)) (Y9 : CalX P w K mg base 6 "parting" (spRef2X K T)) (Y10 : CalX P w K mg base 7 "alike" (spRef2X K T)) (Y11 : CalX P w K mg base 6 "written" (spRefX K T 1 0)) (Y12 : CalX P w K mg base 6 "needed" (spRefX K T 2 0)) (Y13 : CalX P w K mg base 7 "enough" (spRefX K T 3 0)) (Y14 : CalX P w K mg base 7 "fewest" (spRefX K T 2 0))
    (TB0 : GxR.TabB base mg (cO K "_law_works") (tO K "_law_works")) : C8.Cal P w K mg base 1 "_law_works" (spWorksX P w K mg base T (tO K "_law_works")) [] := by
  have TB : LamX.TabB base mg (cO K "_law_works") (tO K "_law_works") := ⟨TB0.code, TB0.bm, TB0.gP⟩
  refine cal_mkR D scWorksX (fun vs H Q E h => ?_) (fun _ _ _ _ _ _ us hl => match us, hl with | [_], _ => rfl) (fun A outer s H vs Q E hr h => ?_)
  · obtain ⟨v, rs, rfl, _⟩ := h
    rfl
  · obtain ⟨v, rs, rfl, hd, hl, ht, hT, hbad, k⟩ := h
    refine ⟨_, psr_cons (ps_set (i := 2) scWorksX.nd rfl (Or.inr rfl) (pe_lst (pa_cons (pe_tup (pa_cons pe_str (pa_cons pe_str pa_nil))) pa_nil)))
      (psr_cons (ps_set (i := 1) scWorksX.nd rfl (Or.inl rfl) (pe_lst (pa_cons (pe_lamF0 TB rfl rfl (show ∀ y ∈ (_ : List (Str × NameKind)), y.2 = NameKind.free → (defScope sWorksX).names.lookup y.1 = some .cell ∨ (defScope sWorksX).names.lookup y.1 = some .free by decide +kernel)) (pa_cons (pe_lamF1 TB rfl rfl rfl (show ∀ y ∈ (_ : List (Str × NameKind)), y.2 = NameKind.free → (defScope sWorksX).names.lookup y.1 = some .cell ∨ (defScope sWorksX).names.lookup y.1 = some .free by decide +kernel)) (pa_cons (pe_lamF1 TB rfl rfl rfl (show ∀ y ∈ (_ : List (Str × NameKind)), y.2 = NameKind.free → (defScope sWorksX).names.lookup y.1 = some .cell ∨ (defScope sWorksX).names.lookup y.1 = some .free by decide +kernel)) pa_nil)))))
      (psr_cons (ps_set (i := 1) scWorksX.nd rfl (Or.inl rfl) (pe_op op_cat (pv 1) (pe_lst (pa_cons (pe_lamF1 TB rfl rfl rfl (show ∀ y ∈ (_ : List (Str × NameKind)), y.2 = NameKind.free → (defScope sWorksX).names.lookup y.1 = some .cell ∨ (defScope sWorksX).names.lookup y.1 = some .free by decide +kernel)) (pa_cons (pe_lamF1 TB rfl rfl rfl (show ∀ y ∈ (_ : List (Str × NameKind)), y.2 = NameKind.free → (defScope sWorksX).names.lookup y.1 = some .cell ∨ (defScope sWorksX).names.lookup y.1 = some .free by decide +kernel)) pa_nil)))))
      (psr_cons (ps_set (i := 1) scWorksX.nd rfl (Or.inl rfl) (pe_op op_cat (pv 1) (pe_lst (pa_cons (pe_lamF1 TB rfl rfl rfl (show ∀ y ∈ (_ : List (Str × NameKind)), y.2 = NameKind.free → (defScope sWorksX).names.lookup y.1 = some .cell ∨ (defScope sWorksX).names.lookup y.1 = some .free by decide +kernel)) (pa_cons (pe_lamF1 TB rfl rfl rfl (show ∀ y ∈ (_ : List (Str × NameKind)), y.2 = NameKind.free → (defScope sWorksX).names.lookup y.1 = some .cell ∨ (defScope sWorksX).names.lookup y.1 = some .free by decide +kernel)) pa_nil)))))
      (psr_cons (ps_set (i := 1) scWorksX.nd rfl (Or.inl rfl) (pe_op op_cat (pv 1) (pe_lst (pa_cons (pe_lamF1 TB rfl rfl rfl (show ∀ y ∈ (_ : List (Str × NameKind)), y.2 = NameKind.free → (defScope sWorksX).names.lookup y.1 = some .cell ∨ (defScope sWorksX).names.lookup y.1 = some .free by decide +kernel)) (pa_cons (pe_lamF1 TB rfl rfl rfl (show ∀ y ∈ (_ : List (Str × NameKind)), y.2 = NameKind.free → (defScope sWorksX).names.lookup y.1 = some .cell ∨ (defScope sWorksX).names.lookup y.1 = some .free by decide +kernel)) pa_nil)))))
      (psr_cons (ps_set (i := 1) scWorksX.nd rfl (Or.inl rfl) (pe_op op_cat (pv 1) (pe_lst (pa_cons (pe_lamF1 TB rfl rfl rfl (show ∀ y ∈ (_ : List (Str × NameKind)), y.2 = NameKind.free → (defScope sWorksX).names.lookup y.1 = some .cell ∨ (defScope sWorksX).names.lookup y.1 = some .free by decide +kernel)) (pa_cons (pe_lamF1 TB rfl rfl rfl (show ∀ y ∈ (_ : List (Str × NameKind)), y.2 = NameKind.free → (defScope sWorksX).names.lookup y.1 = some .cell ∨ (defScope sWorksX).names.lookup y.1 = some .free by decide +kernel)) (pa_cons (pe_lamF1 TB rfl rfl rfl (show ∀ y ∈ (_ : List (Str × NameKind)), y.2 = NameKind.free → (defScope sWorksX).names.lookup y.1 = some .cell ∨ (defScope sWorksX).names.lookup y.1 = some .free by decide +kernel)) pa_nil))))))
      (psr_cons (ps_set (i := 1) scWorksX.nd rfl (Or.inl rfl) (pe_op op_cat (pv 1) (pe_lst (pa_cons (pe_lamF1 TB rfl rfl rfl (show ∀ y ∈ (_ : List (Str × NameKind)), y.2 = NameKind.free → (defScope sWorksX).names.lookup y.1 = some .cell ∨ (defScope sWorksX).names.lookup y.1 = some .free by decide +kernel)) (pa_cons (pe_lamF1 TB rfl rfl rfl (show ∀ y ∈ (_ : List (Str × NameKind)), y.2 = NameKind.free → (defScope sWorksX).names.lookup y.1 = some .cell ∨ (defScope sWorksX).names.lookup y.1 = some .free by decide +kernel)) pa_nil)))))
      (psr_ret (pe_op op_cat (pv 1) (pe_lst (pa_cons (pe_lamF1 TB rfl rfl rfl (show ∀ y ∈ (_ : List (Str × NameKind)), y.2 = NameKind.free → (defScope sWorksX).names.lookup y.1 = some .cell ∨ (defScope sWorksX).names.lookup y.1 = some .free by decide +kernel)) (pa_cons (pe_lamF1 TB rfl rfl rfl (show ∀ y ∈ (_ : List (Str × NameKind)), y.2 = NameKind.free → (defScope sWorksX).names.lookup y.1 = some .cell ∨ (defScope sWorksX).names.lookup y.1 = some .free by decide +kernel)) pa_nil))))))))))), ?_⟩
    have sz : ∀ n : Nat, n ≤ 1000 → n ≤ sizeLine := fun n h => by rw [sizeLine_eq]; omega
    refine ⟨sz 2 (by decide), fun t0 ft => ⟨sz 1 (by decide), fun p0 fp0 => ?_⟩⟩
    have kk : Kp N0 H (upd (upd H t0 (.tup [.str "", .str ""])) p0 (.lst [.ref t0])) := (Kp.new ft).trans (Kp.new fp0)
    have TT : LamX.TabS (upd (upd H t0 (.tup [.str "", .str ""])) p0 (.lst [.ref t0])) (tO K "_law_works") worksQ := tabS_new (tabS_new hT ft) fp0
    dsimp only [gName]
    generalize upd (upd H t0 (.tup [.str "", .str ""])) p0 (.lst [.ref t0]) = G0 at kk TT ⊢
    refine ⟨TT, fun f0 A0 k0 TT n0 l0 => ⟨TT, fun f1 A1 k1 TT n1 l1 => ⟨TT, fun f2 A2 k2 TT n2 l2 => ⟨sz 3 (by decide), fun M0 fM0 => ?_⟩⟩⟩⟩
    have kM0 : Kp N0 A2 (upd A2 M0 (.lst [.ref f0, .ref f1, .ref f2])) := (Kp.refl).trans (Kp.new fM0)
    have c0 : Kp N0 G0 A2 := ((k0).trans k1).trans k2
    replace l0 := l0.kp ((k1).trans k2)
    replace l1 := l1.kp (k2)
    replace l0 := l0.kp kM0
    replace l1 := l1.kp kM0
    replace l2 := l2.kp kM0
    have aM0 : (upd A2 M0 (.lst [.ref f0, .ref f1, .ref f2])) M0 = some (.lst [.ref f0, .ref f1, .ref f2]) := upd_same
    have TM0 := tabS_new TT fM0 (o := .lst [.ref f0, .ref f1, .ref f2])
    have kk := kk.trans (c0.trans kM0)
    dsimp only [gName]
    generalize upd A2 M0 (.lst [.ref f0, .ref f1, .ref f2]) = B0 at kM0 aM0 TM0 kk l0 l1 l2 ⊢
    have aL := aM0
    have TT := TM0
    clear c0 kM0 aM0 TM0
    refine ⟨_, rfl, TT, fun f3 A3 k3 TT n3 l3 => ⟨TT, fun f4 A4 k4 TT n4 l4 => ⟨sz 2 (by decide), fun M1 fM1 => ?_⟩⟩⟩
    have kM1 : Kp N0 A4 (upd A4 M1 (.lst [.ref f3, .ref f4])) := (Kp.refl).trans (Kp.new fM1)
    have c1 : Kp N0 B0 A4 := (k3).trans k4
    replace l3 := l3.kp (k4)
    replace l0 := l0.kp c1
    replace l1 := l1.kp c1
    replace l2 := l2.kp c1
    replace l0 := l0.kp kM1
    replace l1 := l1.kp kM1
    replace l2 := l2.kp kM1
    replace l3 := l3.kp kM1
    replace l4 := l4.kp kM1
    have aM1 : (upd A4 M1 (.lst [.ref f3, .ref f4])) M1 = some (.lst [.ref f3, .ref f4]) := upd_same
    have TM1 := tabS_new TT fM1 (o := .lst [.ref f3, .ref f4])
    have aL1 := lst_keep (lst_keep aL c1) kM1
    have kk := kk.trans (c1.trans kM1)
    generalize upd A4 M1 (.lst [.ref f3, .ref f4]) = B1 at kM1 aM1 TM1 kk aL1 l0 l1 l2 l3 l4 ⊢
    refine ⟨M0, M1, _, _, rfl, rfl, aL1, aM1, sz _ (by simp), fun R1 fR1 => ?_⟩
    have kR1 : Kp N0 B1 (upd B1 R1 (.lst ([.ref f0, .ref f1, .ref f2] ++ [.ref f3, .ref f4]))) := Kp.new fR1
    have aR1 : (upd B1 R1 (.lst ([.ref f0, .ref f1, .ref f2] ++ [.ref f3, .ref f4]))) R1 = some (.lst [.ref f0, .ref f1, .ref f2, .ref f3, .ref f4]) := upd_same
    have TR1 := tabS_new TM1 fR1 (o := .lst ([.ref f0, .ref f1, .ref f2] ++ [.ref f3, .ref f4]))
    replace l0 := l0.kp kR1
    replace l1 := l1.kp kR1
    replace l2 := l2.kp kR1
    replace l3 := l3.kp kR1
    replace l4 := l4.kp kR1
    have nR1 := kk.fresh fR1
    have kk := kk.trans kR1
    dsimp only [gName]
    generalize upd B1 R1 (.lst ([.ref f0, .ref f1, .ref f2] ++ [.ref f3, .ref f4])) = D1 at kR1 aR1 TR1 kk l0 l1 l2 l3 l4 ⊢
    have aL := aR1
    have TT := TR1
    clear c1 kM1 aM1 TM1 aL1 kR1 aR1 TR1
    refine ⟨_, rfl, TT, fun f5 A5 k5 TT n5 l5 => ⟨TT, fun f6 A6 k6 TT n6 l6 => ⟨sz 2 (by decide), fun M2 fM2 => ?_⟩⟩⟩
    have kM2 : Kp N0 A6 (upd A6 M2 (.lst [.ref f5, .ref f6])) := (Kp.refl).trans (Kp.new fM2)
    have c2 : Kp N0 D1 A6 := (k5).trans k6
    replace l5 := l5.kp (k6)
    replace l0 := l0.kp c2
    replace l1 := l1.kp c2
    replace l2 := l2.kp c2
    replace l3 := l3.kp c2
    replace l4 := l4.kp c2
    replace l0 := l0.kp kM2
    replace l1 := l1.kp kM2
    replace l2 := l2.kp kM2
    replace l3 := l3.kp kM2
    replace l4 := l4.kp kM2
    replace l5 := l5.kp kM2
    replace l6 := l6.kp kM2
    have aM2 : (upd A6 M2 (.lst [.ref f5, .ref f6])) M2 = some (.lst [.ref f5, .ref f6]) := upd_same
    have TM2 := tabS_new TT fM2 (o := .lst [.ref f5, .ref f6])
    have aL2 := lst_keep (lst_keep aL c2) kM2
    have kk := kk.trans (c2.trans kM2)
    generalize upd A6 M2 (.lst [.ref f5, .ref f6]) = B2 at kM2 aM2 TM2 kk aL2 l0 l1 l2 l3 l4 l5 l6 ⊢
    refine ⟨R1, M2, _, _, rfl, rfl, aL2, aM2, sz _ (by simp), fun R2 fR2 => ?_⟩
    have kR2 : Kp N0 B2 (upd B2 R2 (.lst ([.ref f0, .ref f1, .ref f2, .ref f3, .ref f4] ++ [.ref f5, .ref f6]))) := Kp.new fR2
    have aR2 : (upd B2 R2 (.lst ([.ref f0, .ref f1, .ref f2, .ref f3, .ref f4] ++ [.ref f5, .ref f6]))) R2 = some (.lst [.ref f0, .ref f1, .ref f2, .ref f3, .ref f4, .ref f5, .ref f6]) := upd_same
    have TR2 := tabS_new TM2 fR2 (o := .lst ([.ref f0, .ref f1, .ref f2, .ref f3, .ref f4] ++ [.ref f5, .ref f6]))
    replace l0 := l0.kp kR2
    replace l1 := l1.kp kR2
    replace l2 := l2.kp kR2
    replace l3 := l3.kp kR2
    replace l4 := l4.kp kR2
    replace l5 := l5.kp kR2
    replace l6 := l6.kp kR2
    have nR2 := kk.fresh fR2
    have kk := kk.trans kR2
    dsimp only [gName]
    generalize upd B2 R2 (.lst ([.ref f0, .ref f1, .ref f2, .ref f3, .ref f4] ++ [.ref f5, .ref f6])) = D2 at kR2 aR2 TR2 kk l0 l1 l2 l3 l4 l5 l6 ⊢
    have aL := aR2
    have TT := TR2
    clear c2 kM2 aM2 TM2 aL2 kR2 aR2 TR2
    refine ⟨_, rfl, TT, fun f7 A7 k7 TT n7 l7 => ⟨TT, fun f8 A8 k8 TT n8 l8 => ⟨sz 2 (by decide), fun M3 fM3 => ?_⟩⟩⟩
    have kM3 : Kp N0 A8 (upd A8 M3 (.lst [.ref f7, .ref f8])) := (Kp.refl).trans (Kp.new fM3)
    have c3 : Kp N0 D2 A8 := (k7).trans k8
    replace l7 := l7.kp (k8)
    replace l0 := l0.kp c3
    replace l1 := l1.kp c3
    replace l2 := l2.kp c3
    replace l3 := l3.kp c3
    replace l4 := l4.kp c3
    replace l5 := l5.kp c3
    replace l6 := l6.kp c3
    replace l0 := l0.kp kM3
    replace l1 := l1.kp kM3
    replace l2 := l2.kp kM3
    replace l3 := l3.kp kM3
    replace l4 := l4.kp kM3
    replace l5 := l5.kp kM3
    replace l6 := l6.kp kM3
    replace l7 := l7.kp kM3
    replace l8 := l8.kp kM3
    have aM3 : (upd A8 M3 (.lst [.ref f7, .ref f8])) M3 = some (.lst [.ref f7, .ref f8]) := upd_same
    have TM3 := tabS_new TT fM3 (o := .lst [.ref f7, .ref f8])
    have aL3 := lst_keep (lst_keep aL c3) kM3
    have kk := kk.trans (c3.trans kM3)
    generalize upd A8 M3 (.lst [.ref f7, .ref f8]) = B3 at kM3 aM3 TM3 kk aL3 l0 l1 l2 l3 l4 l5 l6 l7 l8 ⊢
    refine ⟨R2, M3, _, _, rfl, rfl, aL3, aM3, sz _ (by simp), fun R3 fR3 => ?_⟩
    have kR3 : Kp N0 B3 (upd B3 R3 (.lst ([.ref f0, .ref f1, .ref f2, .ref f3, .ref f4, .ref f5, .ref f6] ++ [.ref f7, .ref f8]))) := Kp.new fR3
    have aR3 : (upd B3 R3 (.lst ([.ref f0, .ref f1, .ref f2, .ref f3, .ref f4, .ref f5, .ref f6] ++ [.ref f7, .ref f8]))) R3 = some (.lst [.ref f0, .ref f1, .ref f2, .ref f3, .ref f4, .ref f5, .ref f6, .ref f7, .ref f8]) := upd_same
    have TR3 := tabS_new TM3 fR3 (o := .lst ([.ref f0, .ref f1, .ref f2, .ref f3, .ref f4, .ref f5, .ref f6] ++ [.ref f7, .ref f8]))
    replace l0 := l0.kp kR3
    replace l1 := l1.kp kR3
    replace l2 := l2.kp kR3
    replace l3 := l3.kp kR3
    replace l4 := l4.kp kR3
    replace l5 := l5.kp kR3
    replace l6 := l6.kp kR3
    replace l7 := l7.kp kR3
    replace l8 := l8.kp kR3
    have nR3 := kk.fresh fR3
    have kk := kk.trans kR3
    dsimp only [gName]
    generalize upd B3 R3 (.lst ([.ref f0, .ref f1, .ref f2, .ref f3, .ref f4, .ref f5, .ref f6] ++ [.ref f7, .ref f8])) = D3 at kR3 aR3 TR3 kk l0 l1 l2 l3 l4 l5 l6 l7 l8 ⊢
    have aL := aR3
    have TT := TR3
    clear c3 kM3 aM3 TM3 aL3 kR3 aR3 TR3
    refine ⟨_, rfl, TT, fun f9 A9 k9 TT n9 l9 => ⟨TT, fun f10 A10 k10 TT n10 l10 => ⟨TT, fun f11 A11 k11 TT n11 l11 => ⟨sz 3 (by decide), fun M4 fM4 => ?_⟩⟩⟩⟩
    have kM4 : Kp N0 A11 (upd A11 M4 (.lst [.ref f9, .ref f10, .ref f11])) := (Kp.refl).trans (Kp.new fM4)
    have c4 : Kp N0 D3 A11 := ((k9).trans k10).trans k11
    replace l9 := l9.kp ((k10).trans k11)
    replace l10 := l10.kp (k11)
    replace l0 := l0.kp c4
    replace l1 := l1.kp c4
    replace l2 := l2.kp c4
    replace l3 := l3.kp c4
    replace l4 := l4.kp c4
    replace l5 := l5.kp c4
    replace l6 := l6.kp c4
    replace l7 := l7.kp c4
    replace l8 := l8.kp c4
    replace l0 := l0.kp kM4
    replace l1 := l1.kp kM4
    replace l2 := l2.kp kM4
    replace l3 := l3.kp kM4
    replace l4 := l4.kp kM4
    replace l5 := l5.kp kM4
    replace l6 := l6.kp kM4
    replace l7 := l7.kp kM4
    replace l8 := l8.kp kM4
    replace l9 := l9.kp kM4
    replace l10 := l10.kp kM4
    replace l11 := l11.kp kM4
    have aM4 : (upd A11 M4 (.lst [.ref f9, .ref f10, .ref f11])) M4 = some (.lst [.ref f9, .ref f10, .ref f11]) := upd_same
    have TM4 := tabS_new TT fM4 (o := .lst [.ref f9, .ref f10, .ref f11])
    have aL4 := lst_keep (lst_keep aL c4) kM4
    have kk := kk.trans (c4.trans kM4)
    generalize upd A11 M4 (.lst [.ref f9, .ref f10, .ref f11]) = B4 at kM4 aM4 TM4 kk aL4 l0 l1 l2 l3 l4 l5 l6 l7 l8 l9 l10 l11 ⊢
    refine ⟨R3, M4, _, _, rfl, rfl, aL4, aM4, sz _ (by simp), fun R4 fR4 => ?_⟩
    have kR4 : Kp N0 B4 (upd B4 R4 (.lst ([.ref f0, .ref f1, .ref f2, .ref f3, .ref f4, .ref f5, .ref f6, .ref f7, .ref f8] ++ [.ref f9, .ref f10, .ref f11]))) := Kp.new fR4
    have aR4 : (upd B4 R4 (.lst ([.ref f0, .ref f1, .ref f2, .ref f3, .ref f4, .ref f5, .ref f6, .ref f7, .ref f8] ++ [.ref f9, .ref f10, .ref f11]))) R4 = some (.lst [.ref f0, .ref f1, .ref f2, .ref f3, .ref f4, .ref f5, .ref f6, .ref f7, .ref f8, .ref f9, .ref f10, .ref f11]) := upd_same
    have TR4 := tabS_new TM4 fR4 (o := .lst ([.ref f0, .ref f1, .ref f2, .ref f3, .ref f4, .ref f5, .ref f6, .ref f7, .ref f8] ++ [.ref f9, .ref f10, .ref f11]))
    replace l0 := l0.kp kR4
    replace l1 := l1.kp kR4
    replace l2 := l2.kp kR4
    replace l3 := l3.kp kR4
    replace l4 := l4.kp kR4
    replace l5 := l5.kp kR4
    replace l6 := l6.kp kR4
    replace l7 := l7.kp kR4
    replace l8 := l8.kp kR4
    replace l9 := l9.kp kR4
    replace l10 := l10.kp kR4
    replace l11 := l11.kp kR4
    have nR4 := kk.fresh fR4
    have kk := kk.trans kR4
    dsimp only [gName]
    generalize upd B4 R4 (.lst ([.ref f0, .ref f1, .ref f2, .ref f3, .ref f4, .ref f5, .ref f6, .ref f7, .ref f8] ++ [.ref f9, .ref f10, .ref f11])) = D4 at kR4 aR4 TR4 kk l0 l1 l2 l3 l4 l5 l6 l7 l8 l9 l10 l11 ⊢
    have aL := aR4
    have TT := TR4
    clear c4 kM4 aM4 TM4 aL4 kR4 aR4 TR4
    refine ⟨_, rfl, TT, fun f12 A12 k12 TT n12 l12 => ⟨TT, fun f13 A13 k13 TT n13 l13 => ⟨sz 2 (by decide), fun M5 fM5 => ?_⟩⟩⟩
    have kM5 : Kp N0 A13 (upd A13 M5 (.lst [.ref f12, .ref f13])) := (Kp.refl).trans (Kp.new fM5)
    have c5 : Kp N0 D4 A13 := (k12).trans k13
    replace l12 := l12.kp (k13)
    replace l0 := l0.kp c5
    replace l1 := l1.kp c5
    replace l2 := l2.kp c5
    replace l3 := l3.kp c5
    replace l4 := l4.kp c5
    replace l5 := l5.kp c5
    replace l6 := l6.kp c5
    replace l7 := l7.kp c5
    replace l8 := l8.kp c5
    replace l9 := l9.kp c5
    replace l10 := l10.kp c5
    replace l11 := l11.kp c5
    replace l0 := l0.kp kM5
    replace l1 := l1.kp kM5
    replace l2 := l2.kp kM5
    replace l3 := l3.kp kM5
    replace l4 := l4.kp kM5
    replace l5 := l5.kp kM5
    replace l6 := l6.kp kM5
    replace l7 := l7.kp kM5
    replace l8 := l8.kp kM5
    replace l9 := l9.kp kM5
    replace l10 := l10.kp kM5
    replace l11 := l11.kp kM5
    replace l12 := l12.kp kM5
    replace l13 := l13.kp kM5
    have aM5 : (upd A13 M5 (.lst [.ref f12, .ref f13])) M5 = some (.lst [.ref f12, .ref f13]) := upd_same
    have TM5 := tabS_new TT fM5 (o := .lst [.ref f12, .ref f13])
    have aL5 := lst_keep (lst_keep aL c5) kM5
    have kk := kk.trans (c5.trans kM5)
    generalize upd A13 M5 (.lst [.ref f12, .ref f13]) = B5 at kM5 aM5 TM5 kk aL5 l0 l1 l2 l3 l4 l5 l6 l7 l8 l9 l10 l11 l12 l13 ⊢
    refine ⟨R4, M5, _, _, rfl, rfl, aL5, aM5, sz _ (by simp), fun R5 fR5 => ?_⟩
    have kR5 : Kp N0 B5 (upd B5 R5 (.lst ([.ref f0, .ref f1, .ref f2, .ref f3, .ref f4, .ref f5, .ref f6, .ref f7, .ref f8, .ref f9, .ref f10, .ref f11] ++ [.ref f12, .ref f13]))) := Kp.new fR5
    have aR5 : (upd B5 R5 (.lst ([.ref f0, .ref f1, .ref f2, .ref f3, .ref f4, .ref f5, .ref f6, .ref f7, .ref f8, .ref f9, .ref f10, .ref f11] ++ [.ref f12, .ref f13]))) R5 = some (.lst [.ref f0, .ref f1, .ref f2, .ref f3, .ref f4, .ref f5, .ref f6, .ref f7, .ref f8, .ref f9, .ref f10, .ref f11, .ref f12, .ref f13]) := upd_same
    have TR5 := tabS_new TM5 fR5 (o := .lst ([.ref f0, .ref f1, .ref f2, .ref f3, .ref f4, .ref f5, .ref f6, .ref f7, .ref f8, .ref f9, .ref f10, .ref f11] ++ [.ref f12, .ref f13]))
    replace l0 := l0.kp kR5
    replace l1 := l1.kp kR5
    replace l2 := l2.kp kR5
    replace l3 := l3.kp kR5
    replace l4 := l4.kp kR5
    replace l5 := l5.kp kR5
    replace l6 := l6.kp kR5
    replace l7 := l7.kp kR5
    replace l8 := l8.kp kR5
    replace l9 := l9.kp kR5
    replace l10 := l10.kp kR5
    replace l11 := l11.kp kR5
    replace l12 := l12.kp kR5
    replace l13 := l13.kp kR5
    have nR5 := kk.fresh fR5
    have kk := kk.trans kR5
    dsimp only [gName]
    generalize upd B5 R5 (.lst ([.ref f0, .ref f1, .ref f2, .ref f3, .ref f4, .ref f5, .ref f6, .ref f7, .ref f8, .ref f9, .ref f10, .ref f11] ++ [.ref f12, .ref f13])) = D5 at kR5 aR5 TR5 kk l0 l1 l2 l3 l4 l5 l6 l7 l8 l9 l10 l11 l12 l13 ⊢
    have aL := aR5
    have TT := TR5
    clear c5 kM5 aM5 TM5 aL5 kR5 aR5 TR5
    refine ⟨_, rfl, TT, fun f14 A14 k14 TT n14 l14 => ⟨TT, fun f15 A15 k15 TT n15 l15 => ⟨sz 2 (by decide), fun M6 fM6 => ?_⟩⟩⟩
    have kM6 : Kp N0 A15 (upd A15 M6 (.lst [.ref f14, .ref f15])) := (Kp.refl).trans (Kp.new fM6)
    have c6 : Kp N0 D5 A15 := (k14).trans k15
    replace l14 := l14.kp (k15)
    replace l0 := l0.kp c6
    replace l1 := l1.kp c6
    replace l2 := l2.kp c6
    replace l3 := l3.kp c6
    replace l4 := l4.kp c6
    replace l5 := l5.kp c6
    replace l6 := l6.kp c6
    replace l7 := l7.kp c6
    replace l8 := l8.kp c6
    replace l9 := l9.kp c6
    replace l10 := l10.kp c6
    replace l11 := l11.kp c6
    replace l12 := l12.kp c6
    replace l13 := l13.kp c6
    replace l0 := l0.kp kM6
    replace l1 := l1.kp kM6
    replace l2 := l2.kp kM6
    replace l3 := l3.kp kM6
    replace l4 := l4.kp kM6
    replace l5 := l5.kp kM6
    replace l6 := l6.kp kM6
    replace l7 := l7.kp kM6
    replace l8 := l8.kp kM6
    replace l9 := l9.kp kM6
    replace l10 := l10.kp kM6
    replace l11 := l11.kp kM6
    replace l12 := l12.kp kM6
    replace l13 := l13.kp kM6
    replace l14 := l14.kp kM6
    replace l15 := l15.kp kM6
    have aM6 : (upd A15 M6 (.lst [.ref f14, .ref f15])) M6 = some (.lst [.ref f14, .ref f15]) := upd_same
    have TM6 := tabS_new TT fM6 (o := .lst [.ref f14, .ref f15])
    have aL6 := lst_keep (lst_keep aL c6) kM6
    have kk := kk.trans (c6.trans kM6)
    generalize upd A15 M6 (.lst [.ref f14, .ref f15]) = B6 at kM6 aM6 TM6 kk aL6 l0 l1 l2 l3 l4 l5 l6 l7 l8 l9 l10 l11 l12 l13 l14 l15 ⊢
    refine ⟨R5, M6, _, _, rfl, rfl, aL6, aM6, sz _ (by simp), fun R6 fR6 => ?_⟩
    have kR6 : Kp N0 B6 (upd B6 R6 (.lst ([.ref f0, .ref f1, .ref f2, .ref f3, .ref f4, .ref f5, .ref f6, .ref f7, .ref f8, .ref f9, .ref f10, .ref f11, .ref f12, .ref f13] ++ [.ref f14, .ref f15]))) := Kp.new fR6
    have aR6 : (upd B6 R6 (.lst ([.ref f0, .ref f1, .ref f2, .ref f3, .ref f4, .ref f5, .ref f6, .ref f7, .ref f8, .ref f9, .ref f10, .ref f11, .ref f12, .ref f13] ++ [.ref f14, .ref f15]))) R6 = some (.lst [.ref f0, .ref f1, .ref f2, .ref f3, .ref f4, .ref f5, .ref f6, .ref f7, .ref f8, .ref f9, .ref f10, .ref f11, .ref f12, .ref f13, .ref f14, .ref f15]) := upd_same
    have TR6 := tabS_new TM6 fR6 (o := .lst ([.ref f0, .ref f1, .ref f2, .ref f3, .ref f4, .ref f5, .ref f6, .ref f7, .ref f8, .ref f9, .ref f10, .ref f11, .ref f12, .ref f13] ++ [.ref f14, .ref f15]))
    replace l0 := l0.kp kR6
    replace l1 := l1.kp kR6
    replace l2 := l2.kp kR6
    replace l3 := l3.kp kR6
    replace l4 := l4.kp kR6
    replace l5 := l5.kp kR6
    replace l6 := l6.kp kR6
    replace l7 := l7.kp kR6
    replace l8 := l8.kp kR6
    replace l9 := l9.kp kR6
    replace l10 := l10.kp kR6
    replace l11 := l11.kp kR6
    replace l12 := l12.kp kR6
    replace l13 := l13.kp kR6
    replace l14 := l14.kp kR6
    replace l15 := l15.kp kR6
    have nR6 := kk.fresh fR6
    have kk := kk.trans kR6
    show ∀ p, CellsAll _ _ (upd B6 R6 (.lst ([.ref f0, .ref f1, .ref f2, .ref f3, .ref f4, .ref f5, .ref f6, .ref f7, .ref f8, .ref f9, .ref f10, .ref f11, .ref f12, .ref f13] ++ [.ref f14, .ref f15]))) p → Q (.ref R6) (augH p (upd B6 R6 (.lst ([.ref f0, .ref f1, .ref f2, .ref f3, .ref f4, .ref f5, .ref f6, .ref f7, .ref f8, .ref f9, .ref f10, .ref f11, .ref f12, .ref f13] ++ [.ref f14, .ref f15]))))
    generalize upd B6 R6 (.lst ([.ref f0, .ref f1, .ref f2, .ref f3, .ref f4, .ref f5, .ref f6, .ref f7, .ref f8, .ref f9, .ref f10, .ref f11, .ref f12, .ref f13] ++ [.ref f14, .ref f15])) = D6 at kR6 aR6 TR6 kk l0 l1 l2 l3 l4 l5 l6 l7 l8 l9 l10 l11 l12 l13 l14 l15 ⊢
    intro p ca
    have hhas : ∀ x, (defScope sWorksX).names.lookup x = some .cell → ∃ c, (cellsFrom (s.heap.objs.size + 1) (defScope sWorksX).names []).lookup x = some c := fun x h => cell_has h
    refine k R6 _ _ nR6 (kk.aug ca.none) (augH_keep ca.none aR6) rfl fun x hx => ?_
    have hd2 := hd.kp (kk.aug ca.none)
    have ht2 := (kk.aug ca.none).tbs ht
    simp only [List.mem_cons, List.not_mem_nil, or_false] at hx
    rcases hx with rfl | rfl | rfl | rfl | rfl | rfl | rfl | rfl | rfl | rfl | rfl | rfl | rfl | rfl | rfl | rfl
    · refine work_item (N := ["_law_rule_here"]) (ps := []) (fr := ["_law_rule_here"]) (ws := [some v]) l0 ca ?_ hhas (NdefX.nscope_by (by decide +kernel)) rfl (.inl ⟨rfl, fun _ _ _ _ => rfl⟩) (fun c' A outer s H E hr tk => pe_cX Y0 hr (by decide) rfl tk (pa_cons (pv 0) (pa_cons pe_str pa_nil))) (fun H2 st k2 Q E hE => ?_)
      · exact ⟨rfl, (show ∀ y ∈ (_ : List (Str × NameKind)), y.2 = NameKind.free → y.1 ∈ (["_law_rule_here", "_law_works_here", "_law_papers_here"] : List Str) ∧ (defScope sWorksX).names.lookup y.1 = some .cell by decide +kernel), (by decide +kernel), fun i y e => capR1 e⟩
      · exact ⟨_, rfl, rfl, v, rs, rfl, (hd2.kp k2).strip st, hl, (k2.tbs ht2).strip st, hbad, hE.strip st⟩
    · refine work_item (N := ["_law_a", "_law_rule_here"]) (ps := ["_law_a"]) (fr := ["_law_rule_here"]) (ws := [some v]) l1 ca ?_ hhas (NdefX.nscope_by (by decide +kernel)) rfl (.inr ⟨"_law_a", rfl, fun _ _ _ _ T => ⟨_, rfl, fun u => rfl⟩⟩) (fun c' A outer s H E hr tk => pe_cX Y1 hr (by decide) rfl tk (pa_cons (pv 1) (pa_cons pe_str pa_nil))) (fun H2 st k2 Q E hE => ?_)
      · exact ⟨rfl, (show ∀ y ∈ (_ : List (Str × NameKind)), y.2 = NameKind.free → y.1 ∈ (["_law_rule_here", "_law_works_here", "_law_papers_here"] : List Str) ∧ (defScope sWorksX).names.lookup y.1 = some .cell by decide +kernel), (by decide +kernel), fun i y e => capR1 e⟩
      · exact ⟨_, rfl, rfl, v, rs, rfl, (hd2.kp k2).strip st, hl, (k2.tbs ht2).strip st, hbad, hE.strip st⟩
    · refine work_item (N := ["_law_b", "_law_rule_here", "_law_papers_here"]) (ps := ["_law_b"]) (fr := ["_law_rule_here", "_law_papers_here"]) (ws := [some v, some (.ref p0)]) l2 ca ?_ hhas (NdefX.nscope_by (by decide +kernel)) rfl (.inr ⟨"_law_b", rfl, fun _ _ _ _ T => ⟨_, rfl, fun u => rfl⟩⟩) (fun c' A outer s H E hr tk => pe_cX Y2 hr (by decide) rfl tk (pa_cons (pv 1) (pa_cons (pv 2) pa_nil))) (fun H2 st k2 Q E hE => ?_)
      · exact ⟨rfl, (show ∀ y ∈ (_ : List (Str × NameKind)), y.2 = NameKind.free → y.1 ∈ (["_law_rule_here", "_law_works_here", "_law_papers_here"] : List Str) ∧ (defScope sWorksX).names.lookup y.1 = some .cell by decide +kernel), (by decide +kernel), fun i y e => capR2 e⟩
      · exact ⟨_, rfl, _, rfl, rfl, v, rs, rfl, (hd2.kp k2).strip st, hl, (k2.tbs ht2).strip st, hbad, hE.strip st⟩
    · refine work_item (N := ["_law_c", "_law_rule_here", "_law_papers_here"]) (ps := ["_law_c"]) (fr := ["_law_rule_here", "_law_papers_here"]) (ws := [some v, some (.ref p0)]) l3 ca ?_ hhas (NdefX.nscope_by (by decide +kernel)) rfl (.inr ⟨"_law_c", rfl, fun _ _ _ _ T => ⟨_, rfl, fun u => rfl⟩⟩) (fun c' A outer s H E hr tk => pe_cX Y3 hr (by decide) rfl tk (pa_cons (pv 1) (pa_cons (pv 2) (pa_cons pe_str pa_nil)))) (fun H2 st k2 Q E hE => ?_)
      · exact ⟨rfl, (show ∀ y ∈ (_ : List (Str × NameKind)), y.2 = NameKind.free → y.1 ∈ (["_law_rule_here", "_law_works_here", "_law_papers_here"] : List Str) ∧ (defScope sWorksX).names.lookup y.1 = some .cell by decide +kernel), (by decide +kernel), fun i y e => capR2 e⟩
      · exact ⟨_, rfl, _, rfl, rfl, v, rs, rfl, (hd2.kp k2).strip st, hl, (k2.tbs ht2).strip st, hbad, hE.strip st⟩
    · refine work_item (N := ["_law_d", "_law_rule_here"]) (ps := ["_law_d"]) (fr := ["_law_rule_here"]) (ws := [some v]) l4 ca ?_ hhas (NdefX.nscope_by (by decide +kernel)) rfl (.inr ⟨"_law_d", rfl, fun _ _ _ _ T => ⟨_, rfl, fun u => rfl⟩⟩) (fun c' A outer s H E hr tk => pe_cX Y4 hr (by decide) rfl tk (pa_cons (pv 1) (pa_cons pe_str (pa_cons pe_str pa_nil)))) (fun H2 st k2 Q E hE => ?_)
      · exact ⟨rfl, (show ∀ y ∈ (_ : List (Str × NameKind)), y.2 = NameKind.free → y.1 ∈ (["_law_rule_here", "_law_works_here", "_law_papers_here"] : List Str) ∧ (defScope sWorksX).names.lookup y.1 = some .cell by decide +kernel), (by decide +kernel), fun i y e => capR1 e⟩
      · exact ⟨_, rfl, rfl, v, rs, rfl, (hd2.kp k2).strip st, hl, (k2.tbs ht2).strip st, hbad, hE.strip st⟩
    · refine work_item (N := ["_law_f", "_law_rule_here"]) (ps := ["_law_f"]) (fr := ["_law_rule_here"]) (ws := [some v]) l5 ca ?_ hhas (NdefX.nscope_by (by decide +kernel)) rfl (.inr ⟨"_law_f", rfl, fun _ _ _ _ T => ⟨_, rfl, fun u => rfl⟩⟩) (fun c' A outer s H E hr tk => pe_cX Y5 hr (by decide) rfl tk (pa_cons (pv 1) (pa_cons (pe_lst pa_nil) (pa_cons pe_str (pa_cons pe_str pa_nil))))) (fun H2 st k2 Q E hE => ?_)
      · exact ⟨rfl, (show ∀ y ∈ (_ : List (Str × NameKind)), y.2 = NameKind.free → y.1 ∈ (["_law_rule_here", "_law_works_here", "_law_papers_here"] : List Str) ∧ (defScope sWorksX).names.lookup y.1 = some .cell by decide +kernel), (by decide +kernel), fun i y e => capR1 e⟩
      · exact ⟨_, rfl, Nat.zero_le _, fun e0 fe0 => ⟨rfl, v, rs, rfl, ((hd2.kp k2).strip st).kp (Kp.new (S := N0) fe0), hl, (Kp.new (S := N0) fe0).tbs ((k2.tbs ht2).strip st), hbad, (hE.strip st).kp (Kp.new (S := N0) fe0)⟩⟩
    · refine work_item (N := ["_law_g", "_law_rule_here", "_law_papers_here"]) (ps := ["_law_g"]) (fr := ["_law_rule_here", "_law_papers_here"]) (ws := [some v, some (.ref p0)]) l6 ca ?_ hhas (NdefX.nscope_by (by decide +kernel)) rfl (.inr ⟨"_law_g", rfl, fun _ _ _ _ T => ⟨_, rfl, fun u => rfl⟩⟩) (fun c' A outer s H E hr tk => pe_cX Y6 hr (by decide) rfl tk (pa_cons (pv 1) (pa_cons (pv 2) (pa_cons (pe_lst pa_nil) pa_nil)))) (fun H2 st k2 Q E hE => ?_)
      · exact ⟨rfl, (show ∀ y ∈ (_ : List (Str × NameKind)), y.2 = NameKind.free → y.1 ∈ (["_law_rule_here", "_law_works_here", "_law_papers_here"] : List Str) ∧ (defScope sWorksX).names.lookup y.1 = some .cell by decide +kernel), (by decide +kernel), fun i y e => capR2 e⟩
      · exact ⟨_, rfl, _, rfl, Nat.zero_le _, fun e0 fe0 => ⟨rfl, v, rs, rfl, ((hd2.kp k2).strip st).kp (Kp.new (S := N0) fe0), hl, (Kp.new (S := N0) fe0).tbs ((k2.tbs ht2).strip st), hbad, (hE.strip st).kp (Kp.new (S := N0) fe0)⟩⟩
    · refine work_item (N := ["_law_h", "_law_rule_here", "_law_papers_here"]) (ps := ["_law_h"]) (fr := ["_law_rule_here", "_law_papers_here"]) (ws := [some v, some (.ref p0)]) l7 ca ?_ hhas (NdefX.nscope_by (by decide +kernel)) rfl (.inr ⟨"_law_h", rfl, fun _ _ _ _ T => ⟨_, rfl, fun u => rfl⟩⟩) (fun c' A outer s H E hr tk => pe_cX Y7 hr (by decide) rfl tk (pa_cons (pv 1) (pa_cons (pv 2) (pa_cons (pe_lst pa_nil) pa_nil)))) (fun H2 st k2 Q E hE => ?_)
      · exact ⟨rfl, (show ∀ y ∈ (_ : List (Str × NameKind)), y.2 = NameKind.free → y.1 ∈ (["_law_rule_here", "_law_works_here", "_law_papers_here"] : List Str) ∧ (defScope sWorksX).names.lookup y.1 = some .cell by decide +kernel), (by decide +kernel), fun i y e => capR2 e⟩
      · exact ⟨_, rfl, _, rfl, Nat.zero_le _, fun e0 fe0 => ⟨rfl, v, rs, rfl, ((hd2.kp k2).strip st).kp (Kp.new (S := N0) fe0), hl, (Kp.new (S := N0) fe0).tbs ((k2.tbs ht2).strip st), hbad, (hE.strip st).kp (Kp.new (S := N0) fe0)⟩⟩
    · refine work_item (N := ["_law_i", "_law_rule_here"]) (ps := ["_law_i"]) (fr := ["_law_rule_here"]) (ws := [some v]) l8 ca ?_ hhas (NdefX.nscope_by (by decide +kernel)) rfl (.inr ⟨"_law_i", rfl, fun _ _ _ _ T => ⟨_, rfl, fun u => rfl⟩⟩) (fun c' A outer s H E hr tk => pe_cX Y8 hr (by decide) rfl tk (pa_cons (pv 1) (pa_cons (pe_lst pa_nil) (pa_cons (pe_lst (pa_cons (pe_tup (pa_cons pe_str (pa_cons pe_str (pa_cons pe_str pa_nil)))) pa_nil)) pa_nil)))) (fun H2 st k2 Q E hE => ?_)
      · exact ⟨rfl, (show ∀ y ∈ (_ : List (Str × NameKind)), y.2 = NameKind.free → y.1 ∈ (["_law_rule_here", "_law_works_here", "_law_papers_here"] : List Str) ∧ (defScope sWorksX).names.lookup y.1 = some .cell by decide +kernel), (by decide +kernel), fun i y e => capR1 e⟩
      · exact ⟨_, rfl, Nat.zero_le _, fun e0 fe0 => ⟨sz 3 (by decide), fun u1 fu1 => ⟨sz 1 (by decide), fun e1 fe1 => ⟨rfl, v, rs, rfl, ((hd2.kp k2).strip st).kp (((Kp.new (S := N0) fe0).trans (Kp.new fu1)).trans (Kp.new fe1)), hl, (((Kp.new (S := N0) fe0).trans (Kp.new fu1)).trans (Kp.new fe1)).tbs ((k2.tbs ht2).strip st), hbad, (hE.strip st).kp (((Kp.new (S := N0) fe0).trans (Kp.new fu1)).trans (Kp.new fe1))⟩⟩⟩⟩
    · refine work_item (N := ["_law_j", "_law_rule_here"]) (ps := ["_law_j"]) (fr := ["_law_rule_here"]) (ws := [some v]) l9 ca ?_ hhas (NdefX.nscope_by (by decide +kernel)) rfl (.inr ⟨"_law_j", rfl, fun _ _ _ _ T => ⟨_, rfl, fun u => rfl⟩⟩) (fun c' A outer s H E hr tk => pe_cX Y9 hr (by decide) rfl tk (pa_cons (pv 1) (pa_cons (pe_lst (pa_cons (pe_tup (pa_cons pe_str (pa_cons pe_str (pa_cons pe_str pa_nil)))) pa_nil)) pa_nil))) (fun H2 st k2 Q E hE => ?_)
      · exact ⟨rfl, (show ∀ y ∈ (_ : List (Str × NameKind)), y.2 = NameKind.free → y.1 ∈ (["_law_rule_here", "_law_works_here", "_law_papers_here"] : List Str) ∧ (defScope sWorksX).names.lookup y.1 = some .cell by decide +kernel), (by decide +kernel), fun i y e => capR1 e⟩
      · exact ⟨_, rfl, sz 3 (by decide), fun u0 fu0 => ⟨sz 1 (by decide), fun e0 fe0 => ⟨v, .ref e0, rs, [("", "", "")], rfl, ((hd2.kp k2).strip st).kp ((Kp.new (S := N0) fu0).trans (Kp.new (S := N0) fe0)), .lst nn upd_same (.cons (.tup nn (by rw [upd_ne (ne_of_none upd_same fe0)]; exact upd_same) (DnA.strs ["", "", ""])) .nil), hl, ⟨by decide, by decide +kernel⟩, ((Kp.new (S := N0) fu0).trans (Kp.new (S := N0) fe0)).tbs ((k2.tbs ht2).strip st), .inl ⟨hbad, (hE.strip st).kp ((Kp.new (S := N0) fu0).trans (Kp.new (S := N0) fe0))⟩⟩⟩⟩
    · refine work_item (N := ["_law_k", "_law_rule_here"]) (ps := ["_law_k"]) (fr := ["_law_rule_here"]) (ws := [some v]) l10 ca ?_ hhas (NdefX.nscope_by (by decide +kernel)) rfl (.inr ⟨"_law_k", rfl, fun _ _ _ _ T => ⟨_, rfl, fun u => rfl⟩⟩) (fun c' A outer s H E hr tk => pe_cX Y10 hr (by decide) rfl tk (pa_cons (pe_lst pa_nil) (pa_cons (pv 1) pa_nil))) (fun H2 st k2 Q E hE => ?_)
      · exact ⟨rfl, (show ∀ y ∈ (_ : List (Str × NameKind)), y.2 = NameKind.free → y.1 ∈ (["_law_rule_here", "_law_works_here", "_law_papers_here"] : List Str) ∧ (defScope sWorksX).names.lookup y.1 = some .cell by decide +kernel), (by decide +kernel), fun i y e => capR1 e⟩
      · exact ⟨Nat.zero_le _, fun e0 fe0 => ⟨_, rfl, .ref e0, v, [], rs, rfl, .lst nn upd_same .nil, ((hd2.kp k2).strip st).kp (Kp.new (S := N0) fe0), ⟨by decide, by decide +kernel⟩, hl, (Kp.new (S := N0) fe0).tbs ((k2.tbs ht2).strip st), .inr ⟨by decide +kernel, hbad, (hE.strip st).kp (Kp.new (S := N0) fe0)⟩⟩⟩
    · refine work_item (N := ["_law_m", "_law_rule_here"]) (ps := ["_law_m"]) (fr := ["_law_rule_here"]) (ws := [some v]) l11 ca ?_ hhas (NdefX.nscope_by (by decide +kernel)) rfl (.inr ⟨"_law_m", rfl, fun _ _ _ _ T => ⟨_, rfl, fun u => rfl⟩⟩) (fun c' A outer s H E hr tk => pe_cX Y11 hr (by decide) rfl tk (pa_cons (pv 1) pa_nil)) (fun H2 st k2 Q E hE => ?_)
      · exact ⟨rfl, (show ∀ y ∈ (_ : List (Str × NameKind)), y.2 = NameKind.free → y.1 ∈ (["_law_rule_here", "_law_works_here", "_law_papers_here"] : List Str) ∧ (defScope sWorksX).names.lookup y.1 = some .cell by decide +kernel), (by decide +kernel), fun i y e => capR1 e⟩
      · exact ⟨_, rfl, rfl, v, rs, rfl, (hd2.kp k2).strip st, hl, (k2.tbs ht2).strip st, hbad, hE.strip st⟩
    · refine work_item (N := ["_law_n", "_law_rule_here", "_law_papers_here"]) (ps := ["_law_n"]) (fr := ["_law_rule_here", "_law_papers_here"]) (ws := [some v, some (.ref p0)]) l12 ca ?_ hhas (NdefX.nscope_by (by decide +kernel)) rfl (.inr ⟨"_law_n", rfl, fun _ _ _ _ T => ⟨_, rfl, fun u => rfl⟩⟩) (fun c' A outer s H E hr tk => pe_cX Y12 hr (by decide) rfl tk (pa_cons (pv 1) (pa_cons (pv 2) pa_nil))) (fun H2 st k2 Q E hE => ?_)
      · exact ⟨rfl, (show ∀ y ∈ (_ : List (Str × NameKind)), y.2 = NameKind.free → y.1 ∈ (["_law_rule_here", "_law_works_here", "_law_papers_here"] : List Str) ∧ (defScope sWorksX).names.lookup y.1 = some .cell by decide +kernel), (by decide +kernel), fun i y e => capR2 e⟩
      · exact ⟨_, rfl, _, rfl, rfl, v, rs, rfl, (hd2.kp k2).strip st, hl, (k2.tbs ht2).strip st, hbad, hE.strip st⟩
    · refine work_item (N := ["_law_o", "_law_rule_here", "_law_papers_here"]) (ps := ["_law_o"]) (fr := ["_law_rule_here", "_law_papers_here"]) (ws := [some v, some (.ref p0)]) l13 ca ?_ hhas (NdefX.nscope_by (by decide +kernel)) rfl (.inr ⟨"_law_o", rfl, fun _ _ _ _ T => ⟨_, rfl, fun u => rfl⟩⟩) (fun c' A outer s H E hr tk => pe_cX Y13 hr (by decide) rfl tk (pa_cons (pv 1) (pa_cons (pv 2) (pa_cons (pe_lst (pa_cons (pe_tup (pa_cons pe_str (pa_cons pe_str pa_nil))) pa_nil)) pa_nil)))) (fun H2 st k2 Q E hE => ?_)
      · exact ⟨rfl, (show ∀ y ∈ (_ : List (Str × NameKind)), y.2 = NameKind.free → y.1 ∈ (["_law_rule_here", "_law_works_here", "_law_papers_here"] : List Str) ∧ (defScope sWorksX).names.lookup y.1 = some .cell by decide +kernel), (by decide +kernel), fun i y e => capR2 e⟩
      · exact ⟨_, rfl, _, rfl, sz 2 (by decide), fun u0 fu0 => ⟨sz 1 (by decide), fun e0 fe0 => ⟨rfl, v, rs, rfl, ((hd2.kp k2).strip st).kp ((Kp.new (S := N0) fu0).trans (Kp.new (S := N0) fe0)), hl, ((Kp.new (S := N0) fu0).trans (Kp.new (S := N0) fe0)).tbs ((k2.tbs ht2).strip st), hbad, (hE.strip st).kp ((Kp.new (S := N0) fu0).trans (Kp.new (S := N0) fe0))⟩⟩⟩
    · refine work_item (N := ["_law_q", "_law_rule_here", "_law_papers_here"]) (ps := ["_law_q"]) (fr := ["_law_rule_here", "_law_papers_here"]) (ws := [some v, some (.ref p0)]) l14 ca ?_ hhas (NdefX.nscope_by (by decide +kernel)) rfl (.inr ⟨"_law_q", rfl, fun _ _ _ _ T => ⟨_, rfl, fun u => rfl⟩⟩) (fun c' A outer s H E hr tk => pe_cX Y14 hr (by decide) rfl tk (pa_cons (pv 1) (pa_cons (pv 2) pa_nil))) (fun H2 st k2 Q E hE => ?_)
      · exact ⟨rfl, (show ∀ y ∈ (_ : List (Str × NameKind)), y.2 = NameKind.free → y.1 ∈ (["_law_rule_here", "_law_works_here", "_law_papers_here"] : List Str) ∧ (defScope sWorksX).names.lookup y.1 = some .cell by decide +kernel), (by decide +kernel), fun i y e => capR2 e⟩
      · exact ⟨_, rfl, _, rfl, rfl, v, rs, rfl, (hd2.kp k2).strip st, hl, (k2.tbs ht2).strip st, hbad, hE.strip st⟩
    · refine work_item (N := ["_law_r", "_law_rule_here"]) (ps := ["_law_r"]) (fr := ["_law_rule_here"]) (ws := [some v]) l15 ca ?_ hhas (NdefX.nscope_by (by decide +kernel)) rfl (.inr ⟨"_law_r", rfl, fun _ _ _ _ T => ⟨_, rfl, fun u => rfl⟩⟩) (fun c' A outer s H E hr tk => pe_cX Y9 hr (by decide) rfl tk (pa_cons (pe_lst (pa_cons (pe_tup (pa_cons pe_str (pa_cons pe_str (pa_cons pe_str pa_nil)))) pa_nil)) (pa_cons (pv 1) pa_nil))) (fun H2 st k2 Q E hE => ?_)
      · exact ⟨rfl, (show ∀ y ∈ (_ : List (Str × NameKind)), y.2 = NameKind.free → y.1 ∈ (["_law_rule_here", "_law_works_here", "_law_papers_here"] : List Str) ∧ (defScope sWorksX).names.lookup y.1 = some .cell by decide +kernel), (by decide +kernel), fun i y e => capR1 e⟩
      · exact ⟨sz 3 (by decide), fun u0 fu0 => ⟨sz 1 (by decide), fun e0 fe0 => ⟨_, rfl, .ref e0, v, [("x", "a", "")], rs, rfl, .lst nn upd_same (.cons (.tup nn (by rw [upd_ne (ne_of_none upd_same fe0)]; exact upd_same) (DnA.strs ["x", "a", ""])) .nil), ((hd2.kp k2).strip st).kp ((Kp.new (S := N0) fu0).trans (Kp.new (S := N0) fe0)), ⟨by decide, by decide +kernel⟩, hl, ((Kp.new (S := N0) fu0).trans (Kp.new (S := N0) fe0)).tbs ((k2.tbs ht2).strip st), .inr ⟨by decide +kernel, hbad, (hE.strip st).kp ((Kp.new (S := N0) fu0).trans (Kp.new (S := N0) fe0))⟩⟩⟩⟩
end
end Fc
set_option maxHeartbeats 4000000
namespace Fc
open PySem PySem.Spec PyProof.Rows L2
section
variable {P : Program} {w : World} {K : PySem.W.Frag} {mg : Str → Option Value} {base : Heap}
theorem scClass : FnScope ["_law_e", "_law_kinds", "_law_words"] ["_law_e"] (defScope sClass) := ⟨rfl, rfl, rfl, by decide +kernel, rfl, by decide +kernel, by decide +kernel⟩
theorem ok_class (D : DefAt K mg "_law_class" sClass) (gBadRule : mg "BadRule" = some (.ref (He.ga K "BadRule"))) (gBadPapers : mg "BadPapers" = some (.ref (He.ga K "BadPapers"))) (gBadCabinet : mg "BadCabinet" = some (.ref (He.ga K "BadCabinet"))) (gBadMarks : mg "BadMarks" = some (.ref (He.ga K "BadMarks"))) (gNoPaper : mg "NoPaper" = some (.ref (He.ga K "NoPaper"))) (gNoHead : mg "NoHead" = some (.ref (He.ga K "NoHead"))) (gNotFound : mg "NotFound" = some (.ref (He.ga K "NotFound"))) (gBadText : mg "BadText" = some (.ref (He.ga K "BadText"))) (gI : mg "isinstance" = none) (gV : mg "ValueError" = none) : FnE P w K mg base 1 "_law_class" (spClassE K) := by
  refine fnE_mk D scClass (fun z vs H Q E h => ?_) (fun _ _ _ _ _ _ us hl => match us, hl with | [_], _ => rfl) (fun A outer s H vs Q E z hot hr h => ?_)
  · obtain ⟨D, i, _, rfl, _⟩ := h
    rfl
  · obtain ⟨D, i, kd, rfl, hc, hf, hd, k⟩ := h
    have hu : ∀ {A : Around}, L2H.RoomH 0 A → A.units + 65 < cLine := fun r => by have := r.un; omega
    refine ⟨_, pss_cons (ps_set (i := 1) scClass.nd rfl (Or.inl rfl) (pe_lst (pa_cons (pe_callB (call_askE kd.ask (List.mem_singleton.mpr rfl) hc hf) (by rfl) gI boot_isinstance (pa_cons (pv 0) (pa_cons (pe_glob (v := .ref (He.ga K "BadRule")) (u := .ref (He.ga K "BadRule")) rfl gBadRule rfl) pa_nil))) (pa_cons (pe_callB (call_askE kd.ask (List.mem_singleton.mpr rfl) hc hf) (by rfl) gI boot_isinstance (pa_cons (pv 0) (pa_cons (pe_glob (v := .ref (He.ga K "BadPapers")) (u := .ref (He.ga K "BadPapers")) rfl gBadPapers rfl) pa_nil))) (pa_cons (pe_callB (call_askE kd.ask (List.mem_singleton.mpr rfl) hc hf) (by rfl) gI boot_isinstance (pa_cons (pv 0) (pa_cons (pe_glob (v := .ref (He.ga K "BadCabinet")) (u := .ref (He.ga K "BadCabinet")) rfl gBadCabinet rfl) pa_nil))) (pa_cons (pe_callB (call_askE kd.ask (List.mem_singleton.mpr rfl) hc hf) (by rfl) gI boot_isinstance (pa_cons (pv 0) (pa_cons (pe_glob (v := .ref (He.ga K "BadMarks")) (u := .ref (He.ga K "BadMarks")) rfl gBadMarks rfl) pa_nil))) pa_nil))))))
      (pss_cons (ps_set (i := 1) scClass.nd rfl (Or.inl rfl) (pe_op op_cat (pv 1) (pe_lst (pa_cons (pe_callB (call_askE kd.ask (List.mem_singleton.mpr rfl) hc hf) (by rfl) gI boot_isinstance (pa_cons (pv 0) (pa_cons (pe_glob (v := .ref (He.ga K "NoPaper")) (u := .ref (He.ga K "NoPaper")) rfl gNoPaper rfl) pa_nil))) (pa_cons (pe_callB (call_askE kd.ask (List.mem_singleton.mpr rfl) hc hf) (by rfl) gI boot_isinstance (pa_cons (pv 0) (pa_cons (pe_glob (v := .ref (He.ga K "NoHead")) (u := .ref (He.ga K "NoHead")) rfl gNoHead rfl) pa_nil))) (pa_cons (pe_callB (call_askE kd.ask (List.mem_singleton.mpr rfl) hc hf) (by rfl) gI boot_isinstance (pa_cons (pv 0) (pa_cons (pe_glob (v := .ref (He.ga K "NotFound")) (u := .ref (He.ga K "NotFound")) rfl gNotFound rfl) pa_nil))) (pa_cons (pe_callB (call_askE kd.ask (List.mem_singleton.mpr rfl) hc hf) (by rfl) gI boot_isinstance (pa_cons (pv 0) (pa_cons (pe_glob (v := .ref (He.ga K "BadText")) (u := .ref (He.ga K "BadText")) rfl gBadText rfl) pa_nil))) pa_nil)))))))
      (pss_cons (ps_set (i := 2) scClass.nd rfl (Or.inl rfl) (pe_lst (pa_cons pe_str (pa_cons pe_str (pa_cons pe_str (pa_cons pe_str (pa_cons pe_str (pa_cons pe_str (pa_cons pe_str (pa_cons pe_str pa_nil))))))))))
      (pss_one (ps_ret (pe_ifExp (PW.pt (pw_and (pt_cmpR op_eq (pe_bm PySem.F.plainAttrs_list PySem.F.slot_list_count PySem.F.type_list_count (mt_countB (hu hr)) (pv 1) (pa_cons pe_bl pa_nil)) pe_int (nomark _)) (pw_and1 (pt_val (pe_callB (call_askE kd.ask (List.mem_singleton.mpr rfl) hc hf) (by rfl) gI boot_isinstance (pa_cons (pv 0) (pa_cons (pe_bltn (v := .ty "ValueError") (by rfl) gV PyProof.Rows.Boot.«ValueError» rfl) pa_nil)))))))
        (pe_ix ix_list (pv 2) (pe_bm PySem.F.plainAttrs_list PySem.F.slot_list_index PySem.F.type_list_index mt_index (pv 1) (pa_cons pe_bl pa_nil)) (fun _ _ => rfl)) pe_str))))), ?_⟩
    have sz : ∀ n : Nat, n ≤ 1000 → n ≤ sizeLine := fun n h => by rw [sizeLine_eq]; omega
    refine ⟨_, rfl, _, _, _, rfl, fun _ e => e, kd.kit 0 (by decide), hd, _, rfl, _, _, _, rfl, fun _ e => e, kd.kit 1 (by decide), hd, _, rfl, _, _, _, rfl, fun _ e => e, kd.kit 2 (by decide), hd, _, rfl, _, _, _, rfl, fun _ e => e, kd.kit 3 (by decide), hd, sz 4 (by decide), fun F fF => ?_⟩
    have k1 : Kp N0 H (upd H F (.lst [.bl (decide (0 = (i : Nat))), .bl (decide (1 = (i : Nat))), .bl (decide (2 = (i : Nat))), .bl (decide (3 = (i : Nat)))])) := Kp.new fF
    have aF : (upd H F (.lst [.bl (decide (0 = (i : Nat))), .bl (decide (1 = (i : Nat))), .bl (decide (2 = (i : Nat))), .bl (decide (3 = (i : Nat)))])) F = some (.lst [.bl (decide (0 = (i : Nat))), .bl (decide (1 = (i : Nat))), .bl (decide (2 = (i : Nat))), .bl (decide (3 = (i : Nat)))]) := upd_same
    generalize upd H F (.lst [.bl (decide (0 = (i : Nat))), .bl (decide (1 = (i : Nat))), .bl (decide (2 = (i : Nat))), .bl (decide (3 = (i : Nat)))]) = H1 at k1 aF ⊢
    have hd1 := hd.kp k1
    refine ⟨_, rfl, _, rfl, _, _, _, rfl, fun _ e => e, kd.kit 4 (by decide), hd1, _, rfl, _, _, _, rfl, fun _ e => e, kd.kit 5 (by decide), hd1, _, rfl, _, _, _, rfl, fun _ e => e, kd.kit 6 (by decide), hd1, _, rfl, _, _, _, rfl, fun _ e => e, kd.kit 7 (by decide), hd1, sz 4 (by decide), fun G fG => ?_⟩
    refine ⟨F, G, _, _, rfl, rfl, (Kp.new (S := N0) fG).obj aF ntl nn, upd_same, by rw [sizeLine_eq]; exact (by decide : 4 + 4 ≤ 16777216), fun p fp => ?_⟩
    have kG : Kp N0 H1 (upd H1 G (.lst [.bl (decide (4 = (i : Nat))), .bl (decide (5 = (i : Nat))), .bl (decide (6 = (i : Nat))), .bl (decide (7 = (i : Nat)))])) := Kp.new fG
    generalize upd H1 G (.lst [.bl (decide (4 = (i : Nat))), .bl (decide (5 = (i : Nat))), .bl (decide (6 = (i : Nat))), .bl (decide (7 = (i : Nat)))]) = H2 at kG fp ⊢
    have eK : ([.bl (decide (0 = (i : Nat))), .bl (decide (1 = (i : Nat))), .bl (decide (2 = (i : Nat))), .bl (decide (3 = (i : Nat)))] ++ [.bl (decide (4 = (i : Nat))), .bl (decide (5 = (i : Nat))), .bl (decide (6 = (i : Nat))), .bl (decide (7 = (i : Nat)))] : List V) = (kindsB i).map V.bl := rfl
    rw [eK]
    have kp : Kp N0 H2 (upd H2 p (.lst ((kindsB i).map V.bl))) := Kp.new fp
    have ap : (upd H2 p (.lst ((kindsB i).map V.bl))) p = some (.lst ((kindsB i).map V.bl)) := upd_same
    generalize upd H2 p (.lst ((kindsB i).map V.bl)) = H3 at kp ap ⊢
    refine ⟨sz 8 (by decide), fun W fW => ?_⟩
    have kW : Kp N0 H3 (upd H3 W (.lst (wordsB.map V.str))) := Kp.new fW
    have aW : (upd H3 W (.lst (wordsB.map V.str))) W = some (.lst (wordsB.map V.str)) := upd_same
    have ap4 := kW.obj ap ntl nn
    have k4 := k1.trans (kG.trans (kp.trans kW))
    show tSeq _ _ _ _ (upd H3 W (.lst (wordsB.map V.str)))
    generalize upd H3 W (.lst (wordsB.map V.str)) = H4 at aW ap4 k4 ⊢
    have one : (((kindsB i).map PyData.bool).countP fun y => PyData.eqv y (.bool true) : Nat) = 1 := kinds_count i
    refine ⟨_, rfl, .inl ⟨rfl, _, SqL.of ap4⟩, p, kindsB i, rfl, rfl, SqL.of ap4, rfl, _, rfl, ?_⟩
    rw [one]
    refine iteT ⟨_, rfl, _, _, _, rfl, fun _ e => e, kd.val, hd.kp k4, _, rfl, iteT ?_⟩
    refine ⟨_, rfl, _, rfl, .inl ⟨rfl, _, SqL.of ap4⟩, p, _, _, (i : Nat), .bl true, rfl, rfl, SqL.of ap4, rfl, ?_, kinds_at i, rfl, fun m z' hm hz => ?_, ?_⟩
    · rw [List.all_eq_true]
      intro x hx
      obtain ⟨c, _, e⟩ := List.mem_map.mp hx
      rw [← e]
      rfl
    · have z := kinds_no i ⟨m, Nat.lt_trans hm i.isLt⟩ hm
      have z' := hz.symm.trans z
      cases z'
      rfl
    · exact ⟨W, _, _, _, rfl, rfl, SqL.of aW, atI_nat (words_at i), k _ k4⟩
end
end Fc
set_option maxHeartbeats 4000000
namespace Fc
open PySem PySem.Spec PyProof.Rows L2
section
variable {P : Program} {w : World} {K : PySem.W.Frag} {mg : Str → Option Value} {base : Heap}
theorem scRefused : FnScope ["_law_work", "_law_e", "_law_word"] ["_law_work"] (defScope sRefused) := ⟨rfl, rfl, rfl, by decide +kernel, rfl, by decide +kernel, by decide +kernel⟩
theorem ok_refused (D : DefAt K mg "_law_refused" sRefused) (C2 : FnE P w K mg base 1 "_law_class" (spClassE K)) (q : CaughtC K 0 "BadRule" "number") (gF : mg "FileError" = some (.ref (He.ga K "FileError"))) : C8.Cal P w K mg base 10 "_law_refused" (spRefused P w K mg base 9) [] := by
  refine cal_mk D scRefused (fun vs H Q E h => ?_) (fun _ _ _ _ _ _ us hl => match us, hl with | [_], _ => rfl) (fun A outer s H vs Q E hr h => ?_)
  · obtain ⟨f, R, rfl, _⟩ := h
    rfl
  · obtain ⟨f, R, rfl, hw, hR⟩ := h
    refine ⟨_, pss_cons (L2N.ps_try_as (i := 1) (c := .ref (He.ga K "FileError")) rfl rfl scRefused.nd rfl rfl ⟨by rfl, by decide, .inl gF⟩ takes_never
      (fun W pn xe tk _ => pss_one (ps_expr (pe_workK (P := P) (w := w) (K := K) (mg := mg) (base := base) (k := 9) rfl rfl rfl rfl rfl hr (by decide) tk (pv 0))))
      (fun a oe cls d pn zn hf => pss_cons (ps_set (i := 2) scRefused.nd rfl (Or.inl rfl) (pe_classE C2 hr (by decide) rfl zn hf (pv 1)))
        (pss_one (ps_ret (pe_ifExp (pt_cmpR (op_inK (K := K)) (pv 2) (pe_tup (pa_cons pe_str (pa_cons pe_str (pa_cons pe_str pa_nil)))) rfl) (pe_tup (pa_cons (pv 2) (pa_cons (pe_xf q.xf q.no zn.zc hf (pv 1)) pa_nil))) (pe_tup (pa_cons (pv 2) (pa_cons pe_int pa_nil))))))))
      (pss_one (ps_ret pe_non)), ?_⟩
    have sz : ∀ n : Nat, n ≤ 1000 → n ≤ sizeLine := fun n h => by rw [sizeLine_eq]; omega
    refine ⟨f, R, rfl, hw, ?_⟩
    refine hR _ _ (fun v H' q => q) fun cls d H1 ⟨dd, n, ed, ec, ad, k⟩ => ?_
    subst ed ec
    refine ⟨true, q.exm, fun _ a fa => ?_, fun z => Bool.noConfusion z⟩
    refine ⟨rfl, _, ⟨0, by decide⟩, q.kinds, rfl, .inr ⟨dd, _, rfl, ad⟩, fun H2 k2 => ?_⟩
    have ad2 : H2 dd = some (.xd [(("number" : Str), .int n)]) := by
      obtain ⟨u, hu, c⟩ := k2 dd _ ad
      rcases c with rfl | ⟨c, _⟩ | ⟨⟨ps, c, _⟩, _⟩
      · exact hu
      · exact c.elim
      · cases c
    refine ⟨_, rfl, sz 3 (by decide), fun p fp => ?_⟩
    have kp : Kp N0 H2 (upd H2 p (.tup [.str "BadRule", .str "BadPapers", .str "BadCabinet"])) := Kp.new fp
    have ap : (upd H2 p (.tup [.str "BadRule", .str "BadPapers", .str "BadCabinet"])) p = some (.tup [.str "BadRule", .str "BadPapers", .str "BadCabinet"]) := upd_same
    have ad3 : (upd H2 p (.tup [.str "BadRule", .str "BadPapers", .str "BadCabinet"])) dd = some (.xd [(("number" : Str), .int n)]) := by
      rw [upd_ne (ne_of_none ad2 fp)]
      exact ad2
    generalize upd H2 p (.tup [.str "BadRule", .str "BadPapers", .str "BadCabinet"]) = H3 at kp ap ad3 ⊢
    have ei : inV (.str (wordsB.getD 0 "")) [.str "BadRule", .str "BadPapers", .str "BadCabinet"] = true := by decide +kernel
    refine ⟨p, _, rfl, .inr (SqT.of ap), rfl, by decide +kernel, ?_⟩
    refine ⟨_, rfl, ?_⟩
    show ite (inV (.str (wordsB.getD 0 "")) [.str "BadRule", .str "BadPapers", .str "BadCabinet"] = true) _ _
    rw [ei]
    refine iteT ⟨_, rfl, _, rfl, rfl, rfl, dd, _, _, rfl, ad3, rfl, sz 2 (by decide), fun t ft => ?_⟩
    exact k t _ (k2.trans (kp.trans (Kp.new ft))) upd_same
end
end Fc
set_option maxHeartbeats 4000000
namespace Fc
open PySem PySem.Spec PyProof.Rows L2
section
variable {P : Program} {w : World} {K : PySem.W.Frag} {mg : Str → Option Value} {base : Heap}
theorem scAlike : FnScope ["_law_found", "_law_due", "_law_k"] ["_law_found", "_law_due"] (defScope sAlike) := ⟨rfl, rfl, rfl, by decide +kernel, rfl, by decide +kernel, by decide +kernel⟩
theorem ok_alike (D : DefAt K mg "_law_alike" sAlike) (gI : mg "isinstance" = none) (gB : mg "bool" = none) (gN : mg "int" = none) (gS : mg "str" = none) (gT : mg "tuple" = none) (gL : mg "list" = none) (gLen : mg "len" = none) (gR : mg "range" = none) : ∀ n : Nat, C8.Cal P w K mg base (n + 1) "_law_alike" (spAlike n) []
  | 0 => by
    refine cal_mk D scAlike (fun vs H Q E h => ?_) (fun _ _ _ _ _ _ us hl => match us, hl with | [_, _], _ => rfl) (fun A outer s H vs Q E hr h => ?_)
    · obtain ⟨_, _, _, rfl, _⟩ := h
      rfl
    · obtain ⟨_, _, _, rfl, _, _, h, _⟩ := h
      exact absurd h (Nat.not_lt_zero _)
  | n + 1 => by
    have C := ok_alike D gI gB gN gS gT gL gLen gR n
    refine cal_mk D scAlike (fun vs H Q E h => ?_) (fun _ _ _ _ _ _ us hl => match us, hl with | [_, _], _ => rfl) (fun A outer s H vs Q E hr h => ?_)
    · obtain ⟨v, u, d, rfl, _⟩ := h
      rfl
    · obtain ⟨v, u, d, rfl, hv, hu, hdep, hwt, k⟩ := h
      refine ⟨_, pss_cons (ps_if (pt_cmpR op_isN (pv 1) pe_non (nomark _)) (pss_one (ps_ret (pe_cmpR op_isN (pv 0) pe_non (nomark _)))) pss_nil)
        (pss_cons (ps_if (pt_val (pe_callB call_isi (by rfl) gI PyProof.Rows.boot_isinstance (pa_cons (pv 1) (pa_cons (pe_bltn (v := .ty "bool") (by rfl) gB (by decide +kernel) rfl) pa_nil)))) (pss_one (ps_ret (pe_and (pe_callB call_isi (by rfl) gI PyProof.Rows.boot_isinstance (pa_cons (pv 0) (pa_cons (pe_bltn (v := .ty "bool") (by rfl) gB (by decide +kernel) rfl) pa_nil))) (pe_one (pe_cmpR op_eq (pv 0) (pv 1) (nomark _)))))) pss_nil)
        (pss_cons (ps_if (pt_val (pe_callB call_isi (by rfl) gI PyProof.Rows.boot_isinstance (pa_cons (pv 1) (pa_cons (pe_bltn (v := .ty "int") (by rfl) gN (by decide +kernel) rfl) pa_nil)))) (pss_one (ps_ret (pe_and (pe_callB call_isi (by rfl) gI PyProof.Rows.boot_isinstance (pa_cons (pv 0) (pa_cons (pe_bltn (v := .ty "int") (by rfl) gN (by decide +kernel) rfl) pa_nil)))
          (pe_and (pe_not (pe_callB call_isi (by rfl) gI PyProof.Rows.boot_isinstance (pa_cons (pv 0) (pa_cons (pe_bltn (v := .ty "bool") (by rfl) gB (by decide +kernel) rfl) pa_nil)))) (pe_one (pe_cmpR op_eq (pv 0) (pv 1) (nomark _))))))) pss_nil)
        (pss_cons (ps_if (pt_val (pe_callB call_isi (by rfl) gI PyProof.Rows.boot_isinstance (pa_cons (pv 1) (pa_cons (pe_bltn (v := .ty "str") (by rfl) gS (by decide +kernel) rfl) pa_nil)))) (pss_one (ps_ret (pe_and (pe_callB call_isi (by rfl) gI PyProof.Rows.boot_isinstance (pa_cons (pv 0) (pa_cons (pe_bltn (v := .ty "str") (by rfl) gS (by decide +kernel) rfl) pa_nil))) (pe_one (pe_cmpR op_eq (pv 0) (pv 1) (nomark _)))))) pss_nil)
        (pss_cons (ps_if (PW.pt (pw_or (pt_cmpR op_ne (pe_callB call_isi (by rfl) gI PyProof.Rows.boot_isinstance (pa_cons (pv 1) (pa_cons (pe_bltn (v := .ty "tuple") (by rfl) gT (by decide +kernel) rfl) pa_nil))) (pe_callB call_isi (by rfl) gI PyProof.Rows.boot_isinstance (pa_cons (pv 0) (pa_cons (pe_bltn (v := .ty "tuple") (by rfl) gT (by decide +kernel) rfl) pa_nil))) (nomark _))
          (pw_or1 (pt_cmpR op_ne (pe_callB call_isi (by rfl) gI PyProof.Rows.boot_isinstance (pa_cons (pv 1) (pa_cons (pe_bltn (v := .ty "list") (by rfl) gL (by decide +kernel) rfl) pa_nil))) (pe_callB call_isi (by rfl) gI PyProof.Rows.boot_isinstance (pa_cons (pv 0) (pa_cons (pe_bltn (v := .ty "list") (by rfl) gL (by decide +kernel) rfl) pa_nil))) (nomark _))))) pss_never pss_nil)
        (pss_cons (ps_if (pt_cmpR op_ne (pe_callB call_len_seq (by rfl) gLen PySem.boot_len (pa_cons (pv 0) pa_nil)) (pe_callB call_len_seq (by rfl) gLen PySem.boot_len (pa_cons (pv 1) pa_nil)) (nomark _)) pss_never pss_nil)
        (pss_cons (ps_for PassesOwn.never rfl (pi_range1 (by rfl) gR (pa_cons (pe_callB call_len_seq (by rfl) gLen PySem.boot_len (pa_cons (pv 1) pa_nil)) pa_nil)) (pg_name (i := 2) scAlike.nd rfl (Or.inl rfl))
          (pss_one (ps_if (pt_not (pt_val (C8.pe_c C hr (Nat.le_refl _) rfl (pa_cons (pe_ix ix_seq (pv 0) (pv 2) (fun _ _ => rfl)) (pa_cons (pe_ix ix_seq (pv 1) (pv 2) (fun _ _ => rfl)) pa_nil))))) pss_never pss_nil)))
        (pss_one (ps_ret pe_bl)))))))), ?_⟩
      have kk := k H Kp.refl
      cases d with
      | none =>
        obtain rfl := hv.non_eq
        obtain rfl := hu.non_eq
        exact ⟨_, rfl, rfl, _, rfl, iteT ⟨_, rfl, rfl, kk⟩⟩
      | bool c =>
        obtain rfl := hv.bl_eq
        obtain rfl := hu.bl_eq
        refine ⟨_, rfl, rfl, _, rfl, iteF ⟨_, rfl, ⟨_, .ty _, _, _, true, rfl, .ty _, .base (.bl c), kit_ty (by decide +kernel), _, rfl, iteT ?_⟩⟩⟩
        refine ⟨_, rfl, ⟨_, .ty _, _, _, true, rfl, .ty _, .base (.bl c), kit_ty (by decide +kernel), _, rfl, iteT ⟨_, rfl, _, rfl, rfl, ?_⟩⟩⟩
        rw [decide_eq_true rfl]
        exact kk
      | int c =>
        obtain rfl := hv.int_eq
        obtain rfl := hu.int_eq
        refine ⟨_, rfl, rfl, _, rfl, iteF ⟨_, rfl, ⟨_, .ty _, _, _, false, rfl, .ty _, .base (.int c), kit_ty (by decide +kernel), _, rfl, iteF ?_⟩⟩⟩
        refine ⟨_, rfl, ⟨_, .ty _, _, _, true, rfl, .ty _, .base (.int c), kit_ty (by decide +kernel), _, rfl, iteT ?_⟩⟩
        refine ⟨_, rfl, ⟨_, .ty _, _, _, true, rfl, .ty _, .base (.int c), kit_ty (by decide +kernel), _, rfl, iteT ⟨_, rfl, ⟨_, .ty _, _, _, false, rfl, .ty _, .base (.int c), kit_ty (by decide +kernel), _, rfl, _, rfl, ?_⟩⟩⟩⟩
        refine iteT ⟨_, rfl, _, rfl, rfl, ?_⟩
        rw [decide_eq_true rfl]
        exact kk
      | str c =>
        obtain rfl := hv.str_eq
        obtain rfl := hu.str_eq
        refine ⟨_, rfl, rfl, _, rfl, iteF ⟨_, rfl, ⟨_, .ty _, _, _, false, rfl, .ty _, .base (.str c), kit_ty (by decide +kernel), _, rfl, iteF ?_⟩⟩⟩
        refine ⟨_, rfl, ⟨_, .ty _, _, _, false, rfl, .ty _, .base (.str c), kit_ty (by decide +kernel), _, rfl, iteF ?_⟩⟩
        refine ⟨_, rfl, ⟨_, .ty _, _, _, true, rfl, .ty _, .base (.str c), kit_ty (by decide +kernel), _, rfl, iteT ?_⟩⟩
        refine ⟨_, rfl, ⟨_, .ty _, _, _, true, rfl, .ty _, .base (.str c), kit_ty (by decide +kernel), _, rfl, iteT ⟨_, rfl, _, rfl, rfl, ?_⟩⟩⟩
        rw [decide_eq_true rfl]
        exact kk
      | dict kvs => cases hv
      | list ds =>
        obtain ⟨a, xs, rfl, _, ha, hx⟩ := hv.lst_ex
        obtain ⟨b, ys, rfl, _, hb, hy⟩ := hu.lst_ex
        have lx := hx.len
        have ly := hy.len
        have wl := weight_len ds
        simp only [PyData.weight] at hwt
        simp only [PyData.depth] at hdep
        refine ⟨_, rfl, rfl, _, rfl, iteF ⟨_, rfl, ⟨_, .ty _, _, _, false, rfl, .ty _, .base (.lst hb), kit_ty (by decide +kernel), _, rfl, iteF ?_⟩⟩⟩
        refine ⟨_, rfl, ⟨_, .ty _, _, _, false, rfl, .ty _, .base (.lst hb), kit_ty (by decide +kernel), _, rfl, iteF ?_⟩⟩
        refine ⟨_, rfl, ⟨_, .ty _, _, _, false, rfl, .ty _, .base (.lst hb), kit_ty (by decide +kernel), _, rfl, iteF ?_⟩⟩
        refine ⟨_, rfl, ⟨_, .ty _, _, _, false, rfl, .ty _, .base (.lst hb), kit_ty (by decide +kernel), _, rfl, ⟨_, .ty _, _, _, false, rfl, .ty _, .base (.lst ha), kit_ty (by decide +kernel), rfl, _, rfl, iteF ?_⟩⟩⟩
        refine ⟨_, rfl, ⟨_, .ty _, _, _, true, rfl, .ty _, .base (.lst hb), kit_ty (by decide +kernel), _, rfl, ⟨_, .ty _, _, _, true, rfl, .ty _, .base (.lst ha), kit_ty (by decide +kernel), rfl, _, rfl, iteF ?_⟩⟩⟩
        refine ⟨_, rfl, a, xs, rfl, .inl (SqL.of ha), _, rfl, b, ys, rfl, .inl (SqL.of hb), rfl, _, rfl, ?_⟩
        refine iteNS (by rw [lx, ly]) ?_
        refine ⟨_, rfl, b, ys, rfl, .inl (SqL.of hb), _, rfl, by omega, by omega, for_range (fun i σ' H' => ∃ o : Option V, σ' = [some (.ref a), some (.ref b), o] ∧ Kp N0 H H') ⟨none, rfl, Kp.refl⟩ (fun i σ' H' hi ⟨o, es, k1⟩ => ?_) fun σ' H' ⟨o, es, k1⟩ => k H' k1⟩
        subst es
        have hi2 : i < ds.length := by rw [← ly]; simpa using hi
        have hd2 : ds[i]? = some ds[i] := List.getElem?_eq_getElem hi2
        obtain ⟨x, hx1, hx2⟩ := hx.at' hd2
        obtain ⟨y, hy1, hy2⟩ := hy.at' hd2
        obtain ⟨w1, w2⟩ := weight_at hd2
        refine ⟨_, rfl, _, rfl, .inl ⟨a, xs, _, x, rfl, rfl, SqL.of (k1.obj ha ntl nn), at_of (Int.zero_add _) hx1, ?_⟩⟩
        refine ⟨_, rfl, _, rfl, .inl ⟨b, ys, _, y, rfl, rfl, SqL.of (k1.obj hb ntl nn), at_of (Int.zero_add _) hy1, ?_⟩⟩
        exact ⟨x, y, _, rfl, hx2.kp k1, hy2.kp k1, by omega, by omega, fun H2 k2 => ⟨_, rfl, iteF ⟨_, rfl, k1.trans k2⟩⟩⟩
      | tuple ds =>
        obtain ⟨a, xs, rfl, _, ha, hx⟩ := hv.tup_ex
        obtain ⟨b, ys, rfl, _, hb, hy⟩ := hu.tup_ex
        have lx := hx.len
        have ly := hy.len
        have wl := weight_len ds
        simp only [PyData.weight] at hwt
        simp only [PyData.depth] at hdep
        refine ⟨_, rfl, rfl, _, rfl, iteF ⟨_, rfl, ⟨_, .ty _, _, _, false, rfl, .ty _, .base (.tup hb), kit_ty (by decide +kernel), _, rfl, iteF ?_⟩⟩⟩
        refine ⟨_, rfl, ⟨_, .ty _, _, _, false, rfl, .ty _, .base (.tup hb), kit_ty (by decide +kernel), _, rfl, iteF ?_⟩⟩
        refine ⟨_, rfl, ⟨_, .ty _, _, _, false, rfl, .ty _, .base (.tup hb), kit_ty (by decide +kernel), _, rfl, iteF ?_⟩⟩
        refine ⟨_, rfl, ⟨_, .ty _, _, _, true, rfl, .ty _, .base (.tup hb), kit_ty (by decide +kernel), _, rfl, ⟨_, .ty _, _, _, true, rfl, .ty _, .base (.tup ha), kit_ty (by decide +kernel), rfl, _, rfl, iteF ?_⟩⟩⟩
        refine ⟨_, rfl, ⟨_, .ty _, _, _, false, rfl, .ty _, .base (.tup hb), kit_ty (by decide +kernel), _, rfl, ⟨_, .ty _, _, _, false, rfl, .ty _, .base (.tup ha), kit_ty (by decide +kernel), rfl, _, rfl, iteF ?_⟩⟩⟩
        refine ⟨_, rfl, a, xs, rfl, .inr (SqT.of ha), _, rfl, b, ys, rfl, .inr (SqT.of hb), rfl, _, rfl, ?_⟩
        refine iteNS (by rw [lx, ly]) ?_
        refine ⟨_, rfl, b, ys, rfl, .inr (SqT.of hb), _, rfl, by omega, by omega, for_range (fun i σ' H' => ∃ o : Option V, σ' = [some (.ref a), some (.ref b), o] ∧ Kp N0 H H') ⟨none, rfl, Kp.refl⟩ (fun i σ' H' hi ⟨o, es, k1⟩ => ?_) fun σ' H' ⟨o, es, k1⟩ => k H' k1⟩
        subst es
        have hi2 : i < ds.length := by rw [← ly]; simpa using hi
        have hd2 : ds[i]? = some ds[i] := List.getElem?_eq_getElem hi2
        obtain ⟨x, hx1, hx2⟩ := hx.at' hd2
        obtain ⟨y, hy1, hy2⟩ := hy.at' hd2
        obtain ⟨w1, w2⟩ := weight_at hd2
        refine ⟨_, rfl, _, rfl, .inr (.inl ⟨a, xs, _, x, rfl, rfl, SqT.of (k1.obj ha ntt nn), at_of (Int.zero_add _) hx1, ?_⟩)⟩
        refine ⟨_, rfl, _, rfl, .inr (.inl ⟨b, ys, _, y, rfl, rfl, SqT.of (k1.obj hb ntt nn), at_of (Int.zero_add _) hy1, ?_⟩)⟩
        exact ⟨x, y, _, rfl, hx2.kp k1, hy2.kp k1, by omega, by omega, fun H2 k2 => ⟨_, rfl, iteF ⟨_, rfl, k1.trans k2⟩⟩⟩
end
end Fc
set_option maxHeartbeats 4000000
namespace Fc
open PySem PySem.Spec PyProof.Rows L2
section
variable {P : Program} {w : World} {K : PySem.W.Frag} {mg : Str → Option Value} {base : Heap}
theorem scCheckRule : FnScope ["rule", "heads", "number", "row"] ["rule"] (defScope sCheckRule) := ⟨rfl, rfl, rfl, by decide +kernel, rfl, by decide +kernel, by decide +kernel⟩
theorem ok_checkRule {T : List Addr} (D : DefAt K mg "check_rule" sCheckRule) (C : C8.Cal P w K mg base 4 "is_row" (spIsRow T) []) (gS : mg "set" = none) (gE : mg "enumerate" = none) (gLen : mg "len" = none) (gMR : ∃ t, mg "MOST_ROWS" = some (.int 12 t)) (gMH : ∃ t, mg "MOST_HEADS" = some (.int 6 t)) :
    C8.Cal P w K mg base 5 "check_rule" (spCheckRule T) [] := by
  refine cal_mk D scCheckRule (fun vs H Q E h => ?_) (fun _ _ _ _ _ _ us hl => match us, hl with | [_], _ => rfl) (fun A outer s H vs Q E hr h => ?_)
  · obtain ⟨v, rs, rfl, _⟩ := h
    rfl
  · obtain ⟨v, rs, rfl, hd, hg, ht, k⟩ := h
    obtain ⟨a, xs, rfl, _, ha, hx⟩ := hd.lst_ex
    have hlen : xs.length = rs.length := by rw [hx.len, List.length_map]
    have few := hg.few
    obtain ⟨hs, hs6, hsm⟩ := hg.heads
    refine ⟨_, pss_cons (ps_set (i := 1) scCheckRule.nd rfl (Or.inl rfl) (pe_callTy0 cr_set0S (by rfl) gS boot_set))
      (pss_one (ps_for PassesOwn.never rfl (pi_enum (by rfl) gE (pa_cons (pv 0) pa_nil)) (pg_tup rfl (pgs_cons (pg_name (i := 2) scCheckRule.nd rfl (Or.inl rfl)) (pgs_cons (pg_name (i := 3) scCheckRule.nd rfl (Or.inl rfl)) pgs_nil)))
        (pss_cons (ps_if (PW.pt (pw_or (pt_cmpR op_ge (pv 2) (pe_gi gMR) (nomark _)) (pw_or1 (pt_not (pt_val (C8.pe_c C hr (by decide) rfl (pa_cons (pv 3) pa_nil))))))) pss_never pss_nil)
        (pss_cons (ps_expr (pe_saddS (pv 1) (pa_cons (pe_ix ix_tup (pv 3) pe_int (fun _ _ => rfl)) pa_nil)))
        (pss_one (ps_if (pt_cmpR op_gt (pe_callB call_lenSS (by rfl) gLen PySem.boot_len (pa_cons (pv 1) pa_nil)) (pe_gi gMH) (nomark _)) pss_never pss_nil)))))), ?_⟩
    refine ⟨rfl, fun p hp => ?_⟩
    refine ⟨_, rfl, a, xs, rfl, SqL.of ((Kp.new hp).obj ha ntl nn), for_it (walk_enum (xs := xs)) (fun i σ' H' => ∃ (l : List Str) (o2 o3 : Option V), σ' = [some (.ref a), some (.ref p), o2, o3] ∧ Kp N0 H H' ∧ H' p = some (SetSO w p l) ∧ l.Nodup ∧ ∀ x ∈ l, x ∈ hs)
      ⟨[], none, none, rfl, Kp.new hp, upd_same, List.nodup_nil, fun x hx => nomatch hx⟩ (fun i σ' H' _ ⟨_, _, _, _, k1, _⟩ => SqL.of (k1.obj ha ntl nn)) (fun i x σ' H' H2 hi ⟨l, o2, o3, es, k1, hl, nd, hm⟩ y => ?_) fun σ' H' ⟨_, _, _, _, k1, _⟩ => k H' k1⟩
    obtain ⟨U, u, z, rfl, hU, rfl, eu, ez⟩ := y
    cases eu
    subst es
    have hi2 : i < rs.length := by rw [← hlen]; exact hi
    have hr2 : rs[i]? = some rs[i] := List.getElem?_eq_getElem hi2
    have hin : rs[i] ∈ rs := List.getElem_mem hi2
    have row := hg.row _ hin
    obtain ⟨l1, l2, l3⟩ := isRowM_len row
    have pU : p ≠ U := ne_of_none hl hU
    have k2 : Kp N0 H (upd H' U (.tup [.int (i : Nat), z])) := k1.trans (Kp.new hU)
    refine ⟨U, _, rfl, SqT.of upd_same, rfl, _, _, rfl, _, _, rfl, rfl, ?_⟩
    refine ⟨_, rfl, _, _, rfl, rfl, _, rfl, ite2 (fun c => absurd (of_decide_eq_true c) (by omega)) fun _ => ?_⟩
    refine ⟨_, rfl, z, rs[i], rfl, (hx.map_at ez hr2).kp k2, by omega, by omega, by omega, k2.tbs ht, fun H3 k3 => ⟨_, rfl, ?_⟩⟩
    rw [row]
    refine iteF ?_
    have hl3 : H3 p = some (SetSO w p l) := k3.obj (by rw [upd_ne pU]; exact hl) nte nn
    obtain ⟨b, rfl, _, hb⟩ := rowD_ex ((hx.map_at ez hr2).kp (k2.trans k3))
    have small : l.length ≤ 6 := Nat.le_trans (nodup_le nd hm) hs6
    refine ⟨_, rfl, ⟨p, l, rfl, hl3⟩, _, rfl, b, _, 0, _, rfl, rfl, SqT.of hb, rfl, p, rs[i].1, l, rfl, rfl, hl3, by omega, ?_⟩
    have nd' : (if rs[i].1 ∈ l then l else rs[i].1 :: l).Nodup := by
      split
      · exact nd
      · rename_i c
        exact List.nodup_cons.mpr ⟨c, nd⟩
    have hm' : ∀ x ∈ (if rs[i].1 ∈ l then l else rs[i].1 :: l), x ∈ hs := fun x hx => by
      split at hx
      · exact hm x hx
      · rcases List.mem_cons.mp hx with q | q
        · rw [q]
          exact hsm _ hin
        · exact hm x q
    have small' : (if rs[i].1 ∈ l then l else rs[i].1 :: l).length ≤ 6 := Nat.le_trans (nodup_le nd' hm') hs6
    refine ⟨_, rfl, p, _, rfl, upd_same, _, _, rfl, rfl, _, rfl, ite2 (fun c => absurd (of_decide_eq_true c) (by omega)) fun _ => ?_⟩
    exact ⟨_, _, _, rfl, (k2.trans k3).mut hp, upd_same, nd', hm'⟩
end
end Fc
set_option maxHeartbeats 4000000
namespace Fc
open PySem PySem.Spec PyProof.Rows L2
section
variable {P : Program} {w : World} {K : PySem.W.Frag} {mg : Str → Option Value} {base : Heap}
theorem scCheckMarks : FnScope ["marks"] ["marks"] (defScope sCheckMarks) := ⟨rfl, rfl, rfl, by decide +kernel, rfl, by decide +kernel, by decide +kernel⟩
theorem ok_checkMarks (D : DefAt K mg "check_marks" sCheckMarks) (C : C8.Cal P w K mg base 3 "is_marks" spIsMarks []) : C8.Cal P w K mg base 4 "check_marks" spCheckMarks [] := by
  refine cal_mk D scCheckMarks (fun vs H Q E h => ?_) (fun _ _ _ _ _ _ us hl => match us, hl with | [_], _ => rfl) (fun A outer s H vs Q E hr h => ?_)
  · obtain ⟨t, rfl, _⟩ := h
    rfl
  · obtain ⟨t, rfl, hm, k⟩ := h
    refine ⟨_, pss_one (ps_if (pt_not (pt_val (C8.pe_c C hr (by decide) rfl (pa_cons (pv 0) pa_nil)))) pss_never pss_nil), ?_⟩
    refine ⟨_, rfl, t, rfl, by have := isMarksM_len hm; omega, fun H1 k1 => ⟨_, rfl, ?_⟩⟩
    rw [hm]
    exact iteF (k H1 k1)
end
end Fc
set_option maxHeartbeats 4000000
namespace Fc
open PySem PySem.Spec PyProof.Rows L2
section
variable {P : Program} {w : World} {K : PySem.W.Frag} {mg : Str → Option Value} {base : Heap}
theorem scHolds : FnScope ["row", "marks", "_", "needs", "bars"] ["row", "marks"] (defScope sHolds) := ⟨rfl, rfl, rfl, by decide +kernel, rfl, by decide +kernel, by decide +kernel⟩
theorem ok_holds {T : List Addr} (D : DefAt K mg "holds" sHolds) (TB : GxR.TabB base mg (cO K "holds") (tO K "holds")) (hT : tO K "holds" ∈ T) (gAll : mg "all" = none) (gAny : mg "any" = none) : C8.Cal P w K mg base 3 "holds" (spHolds T) [] := by
  refine cal_mk D scHolds (fun vs H Q E h => ?_) (fun _ _ _ _ _ _ us hl => match us, hl with | [_, _], _ => rfl) (fun A outer s H vs Q E hr h => ?_)
  · obtain ⟨v, r, m, rfl, _⟩ := h
    rfl
  · obtain ⟨v, r, m, rfl, hd, ht, k⟩ := h
    obtain ⟨a, rfl, _, ha⟩ := rowD_ex hd
    refine ⟨_, pss_cons (ps_asg (pv 0) (pg_tup rfl (pgs_cons (pg_name (i := 2) scHolds.nd rfl (Or.inl rfl)) (pgs_cons (pg_name (i := 3) scHolds.nd rfl (Or.inl rfl)) (pgs_cons (pg_name (i := 4) scHolds.nd rfl (Or.inl rfl)) pgs_nil)))))
      (pss_one (ps_ret (pe_and (pe_allCap (j := 1) hr gAll TB rfl (pv 3)) (pe_one (pe_not (pe_anyCap (j := 1) hr gAny TB rfl (pv 4))))))), ?_⟩
    refine ⟨_, rfl, a, _, rfl, SqT.of ha, rfl, _, _, rfl, _, _, rfl, _, _, rfl, rfl, ?_⟩
    refine ⟨_, rfl, _, _, rfl, rfl, ht _ hT, fun H2 t2 => ⟨_, rfl, ?_⟩⟩
    have k2 : Kp N0 H H2 := Kp.tabbed (ht _ hT) t2
    have e : holdsM r m = (r.2.1.cps.toList.all (sg m) && !r.2.2.cps.toList.any (sg m)) := rfl
    rw [if_pos rfl]
    cases c : r.2.1.cps.toList.all (sg m) with
    | false =>
      rw [if_neg Bool.false_ne_true]
      have q := k H2 k2
      rw [e, c] at q
      exact q
    | true =>
      rw [if_pos rfl]
      refine ⟨_, rfl, _, _, rfl, rfl, k2.tab (ht _ hT), fun H3 t3 => ⟨_, rfl, ?_⟩⟩
      rw [if_neg Bool.false_ne_true]
      have q := k H3 (k2.trans (Kp.tabbed (k2.tab (ht _ hT)) t3))
      rw [e, c] at q
      exact q
end
end Fc
set_option maxHeartbeats 4000000
namespace Fc
open PySem PySem.Spec PyProof.Rows L2
section
variable {P : Program} {w : World} {K : PySem.W.Frag} {mg : Str → Option Value} {base : Heap}
theorem scTurn : FnScope ["rule", "marks", "row"] ["rule", "marks"] (defScope sTurn) := ⟨rfl, rfl, rfl, by decide +kernel, rfl, by decide +kernel, by decide +kernel⟩
theorem ok_turn {T : List Addr} (D : DefAt K mg "heads_in_turn" sTurn) (C : C8.Cal P w K mg base 3 "holds" (spHolds T) []) (gR : ∃ t, mg "REST" = some (.str "rest" t)) : C8.Cal P w K mg base 4 "heads_in_turn" (spTurn T) [] := by
  refine cal_mk D scTurn (fun vs H Q E h => ?_) (fun _ _ _ _ _ _ us hl => match us, hl with | [_, _], _ => rfl) (fun A outer s H vs Q E hr h => ?_)
  · obtain ⟨v, rs, m, rfl, _⟩ := h
    rfl
  · obtain ⟨v, rs, m, rfl, hd, hl, ht, k⟩ := h
    obtain ⟨a, xs, rfl, _, ha, hx⟩ := hd.lst_ex
    have hlen : rs.length = xs.length := by rw [hx.len, List.length_map]
    refine ⟨_, pss_one (ps_ret (pe_orT (pe_lc (own := [("row", 2)]) (g := gName 2) rfl scTurn.nd (pi_list (pv 0)) (blkOk_by (N := ["rule", "marks", "row"]) (sc := defScope sTurn) (by decide +kernel)) (fun _ _ _ _ _ => pg_name (i := 2) scTurn.nd rfl (Or.inl rfl))
      (fun _ _ _ _ _ => pts_one (pt_val (C8.pe_c C hr (by decide) rfl (pa_cons (pv 2) (pa_cons (pv 1) pa_nil))))) (fun _ _ _ _ _ => pe_ix (ix_tupK (K := K)) (pv 2) pe_int (fun _ _ => rfl)))
      (pe_one (pe_lst (pa_cons (pe_gs gR) pa_nil))))), ?_⟩
    refine ⟨_, rfl, a, rfl, ⟨_, SqL.of ha⟩, fun D hD => lc_lst (xs := xs) rs (fun r => holdsM r m) (fun r => PyData.str r.1) N0 ha hlen (fun _ z => z.elim) hD (by omega) (fun _ => rfl) (fun i r x H2 hr2 hx2 k2 Q2 q2 => ?_) (fun i r x H2 hr2 hx2 _ k2 S' _ _ Q2 q2 => ?_) fun H' out k2 hout hdn => ?_⟩
    · exact ⟨_, rfl, _, rfl, x, r, m, rfl, (hx.map_at hx2 hr2).kp k2, k2.tbs ht, fun H' k' => ⟨_, rfl, q2 H' k'⟩⟩
    · obtain ⟨b, rfl, _, hb⟩ := rowD_ex ((hx.map_at hx2 hr2).kp k2)
      exact ⟨_, rfl, b, _, 0, _, rfl, rfl, SqT.of hb, rfl, q2 _ _ Kp.refl (.str _)⟩
    · have eo : out = (heldM rs m).map V.str := (DnA.strs_eq (xs := heldM rs m) (by unfold heldM; rw [List.map_map]; exact hdn))
      subst eo
      refine ⟨!(heldM rs m).isEmpty, .inl ⟨_, SqL.of hout, by simp⟩, ?_⟩
      cases c : (heldM rs m).isEmpty with
      | false =>
        refine iteT (k D H' hD k2 ?_)
        rw [hout]
        unfold turnM
        rw [if_neg (by rw [c]; exact Bool.false_ne_true)]
      | true =>
        refine iteF ⟨Nat.le_of_lt (by rw [sizeLine_eq]; decide), fun p hp => k p _ (k2.fresh hp) (k2.trans (Kp.new hp)) ?_⟩
        rw [upd_same]
        unfold turnM
        rw [if_pos c]
        rfl
end
end Fc
set_option maxHeartbeats 4000000
namespace Fc
open PySem PySem.Spec PyProof.Rows L2
section
variable {P : Program} {w : World} {K : PySem.W.Frag} {mg : Str → Option Value} {base : Heap}
theorem scRising : FnScope ["rule", "marks"] ["rule", "marks"] (defScope sRising) := ⟨rfl, rfl, rfl, by decide +kernel, rfl, by decide +kernel, by decide +kernel⟩
theorem ok_rising {T : List Addr} (D : DefAt K mg "rising_heads" sRising) (C : C8.Cal P w K mg base 4 "heads_in_turn" (spTurn T) []) (gS : mg "sorted" = none) (gT : mg "set" = none) : C8.Cal P w K mg base 5 "rising_heads" (spRising T) [] := by
  refine cal_mk D scRising (fun vs H Q E h => ?_) (fun _ _ _ _ _ _ us hl => match us, hl with | [_, _], _ => rfl) (fun A outer s H vs Q E hr h => ?_)
  · obtain ⟨v, rs, m, rfl, _⟩ := h
    rfl
  · obtain ⟨v, rs, m, rfl, hd, hl, ht, k⟩ := h
    refine ⟨_, pss_one (ps_ret (pe_callB (cr_sortSS rfl) (by rfl) gS boot_sorted (pa_cons (pe_callTy (cr_setS rfl) (by rfl) gT boot_set (pa_cons (C8.pe_c C hr (by decide) rfl (pa_cons (pv 0) (pa_cons (pv 1) pa_nil))) pa_nil)) pa_nil))), ?_⟩
    have hlen := turnM_len rs m
    refine ⟨_, rfl, _, rfl, v, rs, m, rfl, hd, by omega, ht, fun p H1 hp k1 h1 => ⟨p, turnM rs m, rfl, SqL.of h1, by omega, fun q l hq nd hm hll => ⟨q, l, rfl, upd_same, by omega, fun u hu => ?_⟩⟩⟩
    have e : riseS l = headsM rs m := riseS_congr hm
    rw [e]
    have k2 : Kp N0 H1 (upd (upd H1 q (SetSO w q l)) u (.lst ((headsM rs m).map V.str))) := (Kp.new hq).trans (Kp.new hu)
    exact k u _ ((k1.trans (Kp.new hq)).fresh hu) (k1.trans k2) upd_same
end
end Fc
set_option maxHeartbeats 4000000
namespace Fc
open PySem PySem.Spec PyProof.Rows L2
section
variable {P : Program} {w : World} {K : PySem.W.Frag} {mg : Str → Option Value} {base : Heap}
theorem scHeadsOf : FnScope ["rule", "marks"] ["rule", "marks"] (defScope sHeadsOf) := ⟨rfl, rfl, rfl, by decide +kernel, rfl, by decide +kernel, by decide +kernel⟩
theorem ok_headsOf {T : List Addr} (D : DefAt K mg "heads_of" sHeadsOf) (C1 : C8.Cal P w K mg base 5 "check_rule" (spCheckRule T) []) (C2 : C8.Cal P w K mg base 4 "check_marks" spCheckMarks []) (C3 : C8.Cal P w K mg base 5 "rising_heads" (spRising T) []) : C8.Cal P w K mg base 6 "heads_of" (spHeadsOf T) [] := by
  refine cal_mk D scHeadsOf (fun vs H Q E h => ?_) (fun _ _ _ _ _ _ us hl => match us, hl with | [_, _], _ => rfl) (fun A outer s H vs Q E hr h => ?_)
  · obtain ⟨v, rs, m, rfl, _⟩ := h
    rfl
  · obtain ⟨v, rs, m, rfl, hd, hg, hm, ht, k⟩ := h
    refine ⟨_, pss_cons (ps_expr (C8.pe_c C1 hr (by decide) rfl (pa_cons (pv 0) pa_nil))) (pss_cons (ps_expr (C8.pe_c C2 hr (by decide) rfl (pa_cons (pv 1) pa_nil))) (pss_one (ps_ret (C8.pe_c C3 hr (by decide) rfl (pa_cons (pv 0) (pa_cons (pv 1) pa_nil)))))), ?_⟩
    refine ⟨_, rfl, v, rs, rfl, hd, hg, ht, fun H1 k1 => ⟨_, rfl, m, rfl, hm, fun H2 k2 => ?_⟩⟩
    have k12 := k1.trans k2
    have few := hg.few
    exact ⟨_, rfl, _, rfl, v, rs, m, rfl, hd.kp k12, by omega, k12.tbs ht, fun p H3 hp k3 h3 => k p H3 (k12.fresh hp) (k12.trans k3) h3⟩
end
end Fc
set_option maxHeartbeats 4000000
namespace Fc
open PySem PySem.Spec PyProof.Rows L2
section
variable {P : Program} {w : World} {K : PySem.W.Frag} {mg : Str → Option Value} {base : Heap}
theorem scCheckPapers : FnScope ["papers", "names", "number", "name", "marks"] ["papers"] (defScope sCheckPapers) := ⟨rfl, rfl, rfl, by decide +kernel, rfl, by decide +kernel, by decide +kernel⟩
theorem ok_checkPapers {T : List Addr} (D : DefAt K mg "check_papers" sCheckPapers) (C1 : C8.Cal P w K mg base 3 "is_word" (spIsWord T) []) (C2 : C8.Cal P w K mg base 3 "is_marks" spIsMarks []) (gS : mg "set" = none) (gE : mg "enumerate" = none) (gMP : ∃ t, mg "MOST_PAPERS" = some (.int 12 t)) :
    C8.Cal P w K mg base 4 "check_papers" (spCheckPapers T) [] := by
  refine cal_mk D scCheckPapers (fun vs H Q E h => ?_) (fun _ _ _ _ _ _ us hl => match us, hl with | [_], _ => rfl) (fun A outer s H vs Q E hr h => ?_)
  · obtain ⟨v, ps, rfl, _⟩ := h
    rfl
  · obtain ⟨v, ps, rfl, hd, hg, ht, k⟩ := h
    obtain ⟨a, xs, rfl, _, ha, hx⟩ := hd.lst_ex
    have hlen : xs.length = ps.length := by rw [hx.len, List.length_map]
    have few := hg.few
    refine ⟨_, pss_cons (ps_set (i := 1) scCheckPapers.nd rfl (Or.inl rfl) (pe_callTy0 cr_set0S (by rfl) gS boot_set))
      (pss_one (ps_for PassesOwn.never rfl (pi_enum (by rfl) gE (pa_cons (pv 0) pa_nil)) (pg_tup rfl (pgs_cons (pg_name (i := 2) scCheckPapers.nd rfl (Or.inl rfl)) (pgs_cons (pg_tup rfl (pgs_cons (pg_name (i := 3) scCheckPapers.nd rfl (Or.inl rfl)) (pgs_cons (pg_name (i := 4) scCheckPapers.nd rfl (Or.inl rfl)) pgs_nil))) pgs_nil)))
        (pss_cons (ps_if (PW.pt (pw_or (pt_cmpR op_ge (pv 2) (pe_gi gMP) (nomark _)) (pw_or (pt_not (pt_val (C8.pe_c C1 hr (by decide) rfl (pa_cons (pv 3) pa_nil)))) (pw_or1 (pt_not (pt_val (C8.pe_c C2 hr (by decide) rfl (pa_cons (pv 4) pa_nil)))))))) pss_never pss_nil)
        (pss_cons (ps_if (pt_cmpR op_inSS (pv 3) (pv 1) rfl) pss_never pss_nil)
        (pss_one (ps_expr (pe_saddS (pv 1) (pa_cons (pv 3) pa_nil)))))))), ?_⟩
    refine ⟨rfl, fun p hp => ?_⟩
    refine ⟨_, rfl, a, xs, rfl, SqL.of ((Kp.new hp).obj ha ntl nn), for_it (walk_enum (xs := xs)) (fun i σ' H' => ∃ (l : List Str) (o2 o3 o4 : Option V), σ' = [some (.ref a), some (.ref p), o2, o3, o4] ∧ Kp N0 H H' ∧ H' p = some (SetSO w p l) ∧ l.length ≤ i ∧ ∀ x ∈ l, x ∈ (ps.take i).map (·.1))
      ⟨[], none, none, none, rfl, Kp.new hp, upd_same, Nat.le_refl _, fun x hx => nomatch hx⟩ (fun i σ' H' _ ⟨_, _, _, _, _, k1, _⟩ => SqL.of (k1.obj ha ntl nn)) (fun i x σ' H' H2 hi ⟨l, o2, o3, o4, es, k1, hl, nl, hm⟩ y => ?_) fun σ' H' ⟨_, _, _, _, _, k1, _⟩ => k H' k1⟩
    obtain ⟨U, u, z, rfl, hU, rfl, eu, ez⟩ := y
    cases eu
    subst es
    have hi2 : i < ps.length := by rw [← hlen]; exact hi
    have hr2 : ps[i]? = some ps[i] := List.getElem?_eq_getElem hi2
    have hin : ps[i] ∈ ps := List.getElem_mem hi2
    obtain ⟨w1, w2⟩ := hg.ok _ hin
    have l1 := isWordM_len w1
    have l2 := isMarksM_len w2
    have pU : p ≠ U := ne_of_none hl hU
    have k2 : Kp N0 H (upd H' U (.tup [.int (i : Nat), z])) := k1.trans (Kp.new hU)
    obtain ⟨b, rfl, _, hb⟩ := paperD_ex ((hx.map_at ez hr2).kp k2)
    have hl2 : (upd H' U (.tup [.int (i : Nat), V.ref b])) p = some (SetSO w p l) := by rw [upd_ne pU]; exact hl
    have aU : (upd H' U (.tup [.int (i : Nat), V.ref b])) U = some (.tup [.int (i : Nat), V.ref b]) := upd_same
    generalize upd H' U (.tup [.int (i : Nat), V.ref b]) = H3 at k2 hb hl2 aU ⊢
    refine ⟨U, _, rfl, SqT.of aU, rfl, _, _, rfl, _, _, rfl, b, _, rfl, SqT.of hb, rfl, _, _, rfl, _, _, rfl, rfl, rfl, ?_⟩
    refine ⟨_, rfl, _, _, rfl, rfl, _, rfl, ite2 (fun c => absurd (of_decide_eq_true c) (by omega)) fun _ => ?_⟩
    refine ⟨_, rfl, _, rfl, by omega, k2.tbs ht, fun H4 k4 => ⟨_, rfl, ?_⟩⟩
    rw [w1]
    refine iteF ⟨_, rfl, _, rfl, by omega, fun H5 k5 => ⟨_, rfl, ?_⟩⟩
    rw [w2]
    refine iteF ?_
    have k45 := k4.trans k5
    have hl5 : H5 p = some (SetSO w p l) := k45.obj hl2 nte nn
    have new : ps[i].1 ∉ l := fun c => by
      have q := hm _ c
      have nd := hg.nd
      rw [← List.take_append_drop i (ps.map (·.1)), ← List.map_take] at nd
      have dj := (List.nodup_append.mp nd).2.2
      refine dj _ q _ ?_ rfl
      rw [← List.map_drop]
      exact List.mem_map.mpr ⟨ps[i], List.mem_of_getElem? (i := 0) (by rw [List.getElem?_drop]; simpa using hr2), rfl⟩
    refine ⟨_, rfl, _, rfl, _, _, _, rfl, rfl, hl5, _, rfl, ite2 (fun c => absurd (of_decide_eq_true c) new) fun _ => ?_⟩
    refine ⟨_, rfl, ⟨p, l, rfl, hl5⟩, _, rfl, p, ps[i].1, l, rfl, rfl, hl5, by omega, ?_⟩
    rw [if_neg new]
    refine ⟨ps[i].1 :: l, _, _, _, rfl, (k2.trans k45).mut hp, upd_same, Nat.succ_le_succ nl, fun x hx => ?_⟩
    have tk : ps.take (i + 1) = ps.take i ++ [ps[i]] := by rw [List.take_append_getElem]
    rw [tk, List.map_append]
    rcases List.mem_cons.mp hx with q | q
    · exact List.mem_append_right _ (by rw [q]; exact List.mem_cons_self)
    · exact List.mem_append_left _ (hm x q)
end
end Fc
set_option maxHeartbeats 4000000
namespace Fc
open PySem PySem.Spec PyProof.Rows L2
section
variable {P : Program} {w : World} {K : PySem.W.Frag} {mg : Str → Option Value} {base : Heap}
theorem scRuleHeads : FnScope ["rule", "row"] ["rule"] (defScope sRuleHeads) := ⟨rfl, rfl, rfl, by decide +kernel, rfl, by decide +kernel, by decide +kernel⟩
theorem ok_ruleHeads (D : DefAt K mg "rule_heads" sRuleHeads) (gS : mg "sorted" = none) (gT : mg "set" = none) (gR : ∃ t, mg "REST" = some (.str "rest" t)) : C8.Cal P w K mg base 1 "rule_heads" spRuleHeads [] := by
  refine cal_mk D scRuleHeads (fun vs H Q E h => ?_) (fun _ _ _ _ _ _ us hl => match us, hl with | [_], _ => rfl) (fun A outer s H vs Q E hr h => ?_)
  · obtain ⟨v, rs, rfl, _⟩ := h
    rfl
  · obtain ⟨v, rs, rfl, hd, hl, k⟩ := h
    obtain ⟨a, xs, rfl, _, ha, hx⟩ := hd.lst_ex
    have hlen : rs.length = xs.length := by rw [hx.len, List.length_map]
    refine ⟨_, pss_one (ps_ret (pe_callB (cr_sortSS rfl) (by rfl) gS boot_sorted (pa_cons (pe_callTy (cr_setS rfl) (by rfl) gT boot_set (pa_cons (pe_op op_cat
      (pe_lc (own := [("row", 1)]) (g := gName 1) (tt := tYes) rfl scRuleHeads.nd (pi_list (pv 0)) (blkOk_by (N := ["rule", "row"]) (sc := defScope sRuleHeads) (by decide +kernel)) (fun _ _ _ _ _ => pg_name (i := 1) scRuleHeads.nd rfl (Or.inl rfl))
        (fun _ _ _ _ _ => pts_nil) (fun _ _ _ _ _ => pe_ix (ix_tupK (K := K)) (pv 1) pe_int (fun _ _ => rfl)))
      (pe_lst (pa_cons (pe_gs gR) pa_nil))) pa_nil)) pa_nil))), ?_⟩
    refine ⟨_, rfl, a, rfl, ⟨_, SqL.of ha⟩, fun D hD => lc_lst (xs := xs) rs (fun _ => true) (fun r => PyData.str r.1) N0 ha hlen (fun _ z => z.elim) hD (by omega) (fun _ => rfl) (fun i r x H2 hr2 hx2 k2 Q2 q2 => q2 H2 Kp.refl) (fun i r x H2 hr2 hx2 _ k2 S' _ _ Q2 q2 => ?_) fun H' out k2 hout hdn => ?_⟩
    · obtain ⟨b, rfl, _, hb⟩ := rowD_ex ((hx.map_at hx2 hr2).kp k2)
      exact ⟨_, rfl, b, _, 0, _, rfl, rfl, SqT.of hb, rfl, q2 _ _ Kp.refl (.str _)⟩
    · rw [List.filter_eq_self.mpr fun _ _ => rfl] at hdn
      have eo : out = (rs.map (·.1)).map V.str := DnA.strs_eq (xs := rs.map (·.1)) (by rw [List.map_map]; exact hdn)
      subst eo
      refine ⟨Nat.le_of_lt (by rw [sizeLine_eq]; exact (by decide : 1 < 16777216)), fun p1 f1 => ?_⟩
      have k3 : Kp N0 H' (upd H' p1 (.lst [.str "rest"])) := Kp.new f1
      refine ⟨D, p1, _, _, rfl, rfl, k3.obj hout ntl nn, upd_same, by rw [List.length_map, List.length_map, sizeLine_eq]; show _ + 1 ≤ _; omega, fun p2 f2 => ?_⟩
      have k4 : Kp N0 H' (upd (upd H' p1 (.lst [.str "rest"])) p2 (.lst ((rs.map (·.1)).map V.str ++ [.str "rest"]))) := k3.trans (Kp.new f2)
      have a4 : (upd (upd H' p1 (.lst [.str "rest"])) p2 (.lst ((rs.map (·.1)).map V.str ++ [.str "rest"]))) p2 = some (.lst ((rs.map (·.1) ++ (["rest"] : List Str)).map V.str)) := by
        rw [upd_same, List.map_append]
        rfl
      generalize upd (upd H' p1 (.lst [.str "rest"])) p2 (.lst ((rs.map (·.1)).map V.str ++ [.str "rest"])) = H4 at k4 a4 ⊢
      have k04 := k2.trans k4
      refine ⟨p2, rs.map (·.1) ++ (["rest"] : List Str), rfl, SqL.of a4, by rw [List.length_append, List.length_map]; show _ + 1 < _; omega, fun q l hq nd hm hll => ⟨q, l, rfl, upd_same, ?_, fun u hu => ?_⟩⟩
      · rw [List.length_append, List.length_map] at hll
        have : ([("rest" : Str)] : List Str).length = 1 := rfl
        omega
      have e : riseS l = ruleHeadsM rs := riseS_congr hm
      rw [e]
      have k5 : Kp N0 H4 (upd (upd H4 q (SetSO w q l)) u (.lst ((ruleHeadsM rs).map V.str))) := (Kp.new hq).trans (Kp.new hu)
      exact k u _ ((k04.trans (Kp.new hq)).fresh hu) (k04.trans k5) upd_same
end
end Fc
set_option maxHeartbeats 4000000
namespace Fc
open PySem PySem.Spec PyProof.Rows L2
section
variable {P : Program} {w : World} {K : PySem.W.Frag} {mg : Str → Option Value} {base : Heap}
theorem scMain : FnScope ["rule", "marks"] ["rule", "marks"] (defScope sMain) := ⟨rfl, rfl, rfl, by decide +kernel, rfl, by decide +kernel, by decide +kernel⟩
theorem ok_main {T : List Addr} (D : DefAt K mg "main_head" sMain) (C : C8.Cal P w K mg base 4 "heads_in_turn" (spTurn T) []) : C8.Cal P w K mg base 5 "main_head" (spMain T) [] := by
  refine cal_mk D scMain (fun vs H Q E h => ?_) (fun _ _ _ _ _ _ us hl => match us, hl with | [_, _], _ => rfl) (fun A outer s H vs Q E hr h => ?_)
  · obtain ⟨v, rs, m, rfl, _⟩ := h
    rfl
  · obtain ⟨v, rs, m, rfl, hd, hl, ht, k⟩ := h
    refine ⟨_, pss_one (ps_ret (pe_ix ix_list (C8.pe_c C hr (by decide) rfl (pa_cons (pv 0) (pa_cons (pv 1) pa_nil))) pe_int (fun _ _ => rfl))), ?_⟩
    exact ⟨_, rfl, _, rfl, v, rs, m, rfl, hd, by omega, ht, fun p H1 hp k1 h1 => ⟨p, _, 0, _, rfl, rfl, SqL.of h1, atI_nat (j := 0) (by rw [List.getElem?_map, turnM_0]; rfl), k H1 k1⟩⟩
end
end Fc
set_option maxHeartbeats 4000000
namespace Fc
open PySem PySem.Spec PyProof.Rows L2
section
variable {P : Program} {w : World} {K : PySem.W.Frag} {mg : Str → Option Value} {base : Heap}
theorem scRight : FnScope ["rule", "papers", "drawers", "head", "name", "marks"] ["rule", "papers"] (defScope sRight) := ⟨rfl, rfl, rfl, by decide +kernel, rfl, by decide +kernel, by decide +kernel⟩
theorem ok_right {T : List Addr} (D : DefAt K mg "right" sRight) (C1 : C8.Cal P w K mg base 5 "check_rule" (spCheckRule T) []) (C2 : C8.Cal P w K mg base 4 "check_papers" (spCheckPapers T) []) (C3 : C8.Cal P w K mg base 1 "rule_heads" spRuleHeads []) (C4 : C8.Cal P w K mg base 5 "main_head" (spMain T) [])
    (gS : mg "sorted" = none) (gL : mg "list" = none) : C8.Cal P w K mg base 6 "right" (spRight T) [] := by
  refine cal_mk D scRight (fun vs H Q E h => ?_) (fun _ _ _ _ _ _ us hl => match us, hl with | [_, _], _ => rfl) (fun A outer s H vs Q E hr h => ?_)
  · obtain ⟨v, u, rs, ps, rfl, _⟩ := h
    rfl
  · obtain ⟨v, u, rs, ps, rfl, hd, he, hg, hp, ht, k⟩ := h
    refine ⟨_, pss_cons (ps_expr (C8.pe_c C1 hr (by decide) rfl (pa_cons (pv 0) pa_nil))) (pss_cons (ps_expr (C8.pe_c C2 hr (by decide) rfl (pa_cons (pv 1) pa_nil)))
      (pss_cons (ps_setDc (i := 2) (own := [("head", 3)]) (g := gName 3) (tt := tYes) rfl scRight.nd rfl rfl (sw_dc rfl rfl rfl rfl) (pi_list (C8.pe_c C3 hr (by decide) rfl (pa_cons (pv 0) pa_nil))) (blkOk_by (N := ["rule", "papers", "drawers", "head", "name", "marks"]) (sc := defScope sRight) (by decide +kernel)) (fun _ _ _ _ _ => pg_name (i := 3) scRight.nd rfl (Or.inl rfl))
        (fun _ _ _ _ _ => pts_nil) (fun _ _ _ _ _ => pv 3) (fun _ _ _ _ _ => pe_lst pa_nil))
      (pss_cons (ps_for PassesOwn.never rfl (pi_list (pe_callB cr_sortPP (by rfl) gS boot_sorted (pa_cons (pv 1) pa_nil))) (pg_tup rfl (pgs_cons (pg_name (i := 4) scRight.nd rfl (Or.inl rfl)) (pgs_cons (pg_name (i := 5) scRight.nd rfl (Or.inl rfl)) pgs_nil)))
        (pss_one (ps_expr (pe_bm PySem.F.plainAttrs_list PySem.F.slot_list_append PySem.F.type_list_append mt_append (pe_dget (Nat.lt_of_le_of_lt (Nat.add_le_add_left (by decide) _) (hu64 hr)) (pv 2) (C8.pe_c C4 hr (by decide) rfl (pa_cons (pv 0) (pa_cons (pv 5) pa_nil))) (fun _ _ => rfl)) (pa_cons (pv 4) pa_nil)))))
      (pss_one (ps_ret (LiI.pe_listItems rfl (pv 2) (by rfl) gL PyProof.Rows.boot_list)))))), ?_⟩
    have few := hg.few
    refine ⟨_, rfl, v, rs, rfl, hd, hg, ht, fun H1 k1 => ⟨_, rfl, u, ps, rfl, he.kp k1, hp, k1.tbs ht, fun H2 k2 => ?_⟩⟩
    have k02 := k1.trans k2
    refine ⟨_, rfl, v, rs, rfl, hd.kp k02, by omega, fun ph H3 fh k3 ah => ⟨ph, rfl, ⟨_, SqL.of ah⟩, fun D fD => ?_⟩⟩
    have k03 := k02.trans k3
    have D0 : H D = none := k03.fresh fD
    have phD : ph ≠ D := ne_of_none ah fD
    have hsN : (ruleHeadsM rs).Nodup := (riseS_rs _).nd
    have hsL := ruleHeads_len rs
    generalize hhs : ruleHeadsM rs = hs at ah hsN hsL k
    -- a new list for each head
    refine dc_it (walk_list (xs := hs.map V.str)) (fun i H' => ∃ as : List Addr, as.length = i ∧ as.Nodup ∧ (∀ a ∈ as, H3 a = none ∧ a ≠ D ∧ H' a = some (.lst [])) ∧ H' D = some (.dK (dkv (hs.take i) as)) ∧ Kp N0 H3 H')
      ⟨[], rfl, List.nodup_nil, (fun a z => nomatch z), upd_same, Kp.new fD⟩ (fun i H' _ ⟨_, _, _, _, _, k4⟩ => SqL.of (k4.obj ah ntl nn)) (fun i x H' H'' hi ⟨as, la, na, ha, hD, k4⟩ y => ?_) fun H4 ⟨as, la, na, ha, hD, k4⟩ => ?_
    · obtain ⟨rfl, hx⟩ := y
      rw [List.length_map] at hi
      have hix : hs[i]? = some hs[i] := List.getElem?_eq_getElem hi
      have ex : x = .str hs[i] := by
        rw [List.getElem?_map, hix] at hx
        exact (Option.some.inj hx).symm
      subst ex
      refine ⟨rfl, _, rfl, Nat.zero_le _, fun q fq => ?_⟩
      have qD : q ≠ D := fun e => by rw [e, hD] at fq; cases fq
      have tl : (hs.take i).length = as.length := by rw [List.length_take, la]; omega
      have tk : hs.take (i + 1) = hs.take i ++ [hs[i]] := by rw [List.take_append_getElem]
      refine ⟨_, .inr hs[i], rfl, by rw [upd_ne qD.symm]; exact hD, ?_, as ++ [q], by rw [List.length_append, la]; rfl, ?_, fun b hb => ?_, ?_, ?_⟩
      · have z := dkv_len (hs.take i) as
        rw [tl, la] at z
        exact Nat.lt_of_le_of_lt z (by rw [sizeLine_eq]; omega)
      · refine List.nodup_append.mpr ⟨na, List.pairwise_singleton _ _, fun b hb c hc e => ?_⟩
        rw [List.mem_singleton.mp hc] at e
        rw [e] at hb
        rw [(ha q hb).2.2] at fq
        cases fq
      · rcases List.mem_append.mp hb with z | z
        · obtain ⟨z1, z2, z3⟩ := ha b z
          exact ⟨z1, z2, by rw [upd_ne z2, upd_ne (ne_of_none z3 fq)]; exact z3⟩
        · rw [List.mem_singleton.mp z]
          exact ⟨k4.fresh fq, qD, by rw [upd_ne qD]; exact upd_same⟩
      · have nw : valV (dkv (hs.take i) as) (.inr hs[i]) = none := dkv_none _ _ _ fun c => by
          have nd := hsN
          rw [← List.take_append_drop i hs] at nd
          refine (List.nodup_append.mp nd).2.2 _ c _ ?_ rfl
          exact List.mem_of_getElem? (i := 0) (by rw [List.getElem?_drop]; simpa using hix)
        rw [upd_same, putK_new _ nw, tk, dkv_snoc tl]
      · exact (k4.trans (Kp.new fq)).mut fD
    rw [List.length_map] at la hD
    rw [List.take_length] at hD
    -- the pairs in order
    have he4 : Dn N0 H4 u (papersD ps) := he.kp (k03.trans k4)
    obtain ⟨b, xs, rfl, _, hb, hx⟩ := he4.lst_ex
    obtain ⟨kx, kt⟩ := keyP_all hx
    refine ⟨_, rfl, b, xs, keyP H4, rfl, SqL.of hb, kt, fun ys q so pm fq => ?_⟩
    have pq : (ys.map (keyP H4)).Perm ps := by
      rw [← kx]
      exact pm.map _
    have rise : Rs ((ys.map (keyP H4)).map (·.1)) := by
      have e : (ys.map (keyP H4)).map (·.1) = ys.map fun y => (keyP H4 y).1 := by rw [List.map_map]; rfl
      rw [e]
      refine rs_of_lex (keyP H4) so ?_
      rw [← e]
      exact (pq.map (·.1)).nodup_iff.mpr hp.nd
    have k5 : Kp N0 H4 (upd H4 q (.lst ys)) := Kp.new fq
    have fewp := hp.few
    have ly : ys.length = ps.length := by rw [← pq.length_eq, List.length_map]
    have aq : (upd H4 q (.lst ys)) q = some (.lst ys) := upd_same
    have qa : ∀ c ∈ as, (upd H4 q (.lst ys)) c = some (.lst []) := fun c hc => by
      obtain ⟨_, _, z⟩ := ha c hc
      exact k5.obj z ntl nn
    have hD5 : (upd H4 q (.lst ys)) D = some (.dK (dkv hs as)) := k5.obj hD ntd nn
    have items : ∀ y ∈ ys, ∃ t, y = V.ref t ∧ (upd H4 q (.lst ys)) t = some (.tup [.str (keyP H4 y).1, .str (keyP H4 y).2]) := fun y hy => by
      obtain ⟨t, e, z⟩ := kt y (pm.mem_iff.mp hy)
      exact ⟨t, e, k5.obj z ntt nn⟩
    have a0 : ∀ c ∈ as, H c = none := fun c hc => k03.fresh (ha c hc).1
    have hd5 : Dn N0 (upd H4 q (.lst ys)) v (ruleD rs) := hd.kp (k03.trans (k4.trans k5))
    have ht5 := (k03.trans (k4.trans k5)).tbs ht
    have k05 := k03.trans (k4.trans k5)
    have q0 : H q = none := (k03.trans k4).fresh fq
    generalize hqs : ys.map (keyP H4) = qs at pq rise
    generalize upd H4 q (.lst ys) = H5 at aq qa hD5 items hd5 ht5 k05 ⊢
    have qas : q ∉ as := fun c => by
      rw [(ha q c).2.2] at fq
      cases fq
    refine ⟨q, rfl, ⟨_, SqL.of aq⟩, for_list (K := K) (a := q) (xs := ys) (fun i σ' H' => ∃ o4 o5 : Option V, σ' = [some v, some (.ref b), some (.ref D), none, o4, o5] ∧ Kp N0 H H' ∧ Kp (fun a => a ∈ as) H5 H' ∧
        ∀ (j : Nat) (a : Addr) (h : Str), as[j]? = some a → hs[j]? = some h → H' a = some (.lst ((((qs.take i).filter fun p => decide (mainM rs p.2 = h)).map (·.1)).map V.str)))
      ⟨none, none, rfl, k05, Kp.refl, fun j a h e1 e2 => qa a (List.mem_of_getElem? e1)⟩ (fun i σ' H' _ ⟨_, _, _, _, k6, _⟩ => SqL.of (k6.obj aq ntl qas)) (fun i y σ' H' hy ⟨o4, o5, es, k06, k6, dr⟩ => ?_) fun σ' H' ⟨o4, o5, es, k06, k6, dr⟩ => ?_⟩
    · subst es
      have hym := List.mem_of_getElem? hy
      obtain ⟨t, rfl, htp⟩ := items y hym
      have nta : ∀ {a : Addr}, a ∈ as → H5 a = some (.lst []) := fun h => qa _ h
      have at6 : H' t = some (.tup [.str (keyP H4 (V.ref t)).1, .str (keyP H4 (V.ref t)).2]) := k6.obj htp ntt fun c => by
        rw [qa t c] at htp
        cases htp
      have hqi : qs[i]? = some (keyP H4 (V.ref t)) := by rw [← hqs, List.getElem?_map, hy]; rfl
      generalize keyP H4 (V.ref t) = pr at at6 hqi
      have few2 : rs.length ≤ 50 := by omega
      refine ⟨t, _, rfl, SqT.of at6, rfl, _, _, rfl, _, _, rfl, rfl, ?_⟩
      refine ⟨_, rfl, _, rfl, _, rfl, v, rs, pr.2, rfl, hd.kp k06, few2, k06.tbs ht, fun H7 k7 => ?_⟩
      have hin : mainM rs pr.2 ∈ hs := by rw [← hhs]; exact main_in rs pr.2
      obtain ⟨j, hj, ej⟩ := List.getElem_of_mem hin
      have hj2 : hs[j]? = some (mainM rs pr.2) := by rw [List.getElem?_eq_getElem hj, ej]
      have haj : as[j]? = some (as[j]'(by omega)) := List.getElem?_eq_getElem (by omega)
      generalize as[j]'(by omega) = a at haj
      have am := List.mem_of_getElem? haj
      have hD7 : H7 D = some (.dK (dkv hs as)) := k7.obj (k6.obj hD5 ntd fun c => (ha D c).2.1 rfl) ntd nn
      have g := DGet.k (k := .inr (mainM rs pr.2)) hD7
      rw [dkv_at hs as j _ a hsN hj2 haj] at g
      have al := k7.obj (dr j a _ haj hj2) ntl nn
      refine ⟨D, .ref a, rfl, g, .inl ⟨rfl, _, SqL.of al⟩, _, rfl, a, _, _, rfl, rfl, al, ?_, ?_⟩
      · rw [List.length_map, List.length_map]
        refine Nat.lt_of_le_of_lt (List.length_filter_le _ _) (Nat.lt_of_le_of_lt (List.length_take_le' _ _) ?_)
        rw [pq.length_eq, sizeLine_eq]
        omega
      refine ⟨_, _, rfl, (k06.trans k7).mut (a0 a am), k6.trans ((k7.up).trans (Kp.mutS am al ntl ntl)), fun j' a' h' e1 e2 => ?_⟩
      rw [filt_take _ _ hqi]
      by_cases c : j' = j
      · subst c
        rw [haj] at e1
        rw [hj2] at e2
        cases e1
        cases e2
        rw [upd_same, if_pos (by simp), List.map_append]
        rfl
      · have na' : a' ≠ a := fun z => by
          rw [z] at e1
          exact c ((List.getElem?_inj (List.getElem?_eq_some_iff.mp e1).1 na).mp (e1.trans haj.symm))
        have nh : ¬ mainM rs pr.2 = h' := fun z => by
          rw [← z] at e2
          exact c ((List.getElem?_inj (List.getElem?_eq_some_iff.mp e2).1 hsN).mp (e2.trans hj2.symm))
        rw [upd_ne na', if_neg (by simpa using nh), List.append_nil]
        exact k7.obj (dr j' a' h' e1 e2) ntl nn
    · subst es
      have hD6 : H' D = some (.dK (dkv hs as)) := k6.obj hD5 ntd fun c => (ha D c).2.1 rfl
      have full : qs.take ys.length = qs := by rw [ly, ← pq.length_eq, List.take_length]
      refine ⟨_, rfl, D, _, rfl, hD6, fun H7 p ts old fp fts pts hp7 pr => ?_⟩
      have k7 : Kp N0 H' H7 := fun a o e => ⟨o, old a o e, .inl rfl⟩
      refine k p H7 (k06.trans k7) ⟨ts, as, ?_, la, k06.fresh fp, a0, fun c => ?_, hp7, fun j t a h e1 e2 e3 => ⟨?_, ?_⟩⟩
      · rw [Paired.length pr, dkv_leng la]
      · obtain ⟨j, hj, e⟩ := List.getElem_of_mem c
        have z := dr j p (hs[j]'(by omega)) (by rw [List.getElem?_eq_getElem hj, e]) (List.getElem?_eq_getElem _)
        rw [fp] at z
        cases z
      · obtain ⟨y, f1, f2⟩ := LiI.paired_get pr e1
        rw [dkv_get hs as j h a e3 e2] at f1
        cases f1
        exact f2
      · have z := old _ _ (dr j a h e2 e3)
        rw [full] at z
        rw [z, ← drawer_eq h rise pq]
end
end Fc
set_option maxHeartbeats 4000000
namespace Fc
open PySem PySem.Spec PyProof.Rows L2
section
variable {P : Program} {w : World} {K : PySem.W.Frag} {mg : Str → Option Value} {base : Heap}
theorem scWrittenRow : FnScope ["row", "head", "needs", "bars"] ["row"] (defScope sWrittenRow) := ⟨rfl, rfl, rfl, by decide +kernel, rfl, by decide +kernel, by decide +kernel⟩
theorem ok_writtenRow (D : DefAt K mg "written_row" sWrittenRow) (gN : ∃ t, mg "NO_MARKS" = some (.str "-" t)) : C8.Cal P w K mg base 1 "written_row" spWrittenRow [] := by
  refine cal_mk D scWrittenRow (fun vs H Q E h => ?_) (fun _ _ _ _ _ _ us hl => match us, hl with | [_], _ => rfl) (fun A outer s H vs Q E hr h => ?_)
  · obtain ⟨v, r, rfl, _⟩ := h
    rfl
  · obtain ⟨v, r, rfl, hd, hr2, k⟩ := h
    obtain ⟨a, rfl, _, ha⟩ := rowD_ex hd
    obtain ⟨l1, l2, l3⟩ := isRowM_len hr2
    refine ⟨_, pss_cons (ps_asg (pv 0) (pg_tup rfl (pgs_cons (pg_name (i := 1) scWrittenRow.nd rfl (Or.inl rfl)) (pgs_cons (pg_name (i := 2) scWrittenRow.nd rfl (Or.inl rfl)) (pgs_cons (pg_name (i := 3) scWrittenRow.nd rfl (Or.inl rfl)) pgs_nil)))))
      (pss_one (ps_ret (pe_joinK (K := K) rfl pe_str (pe_lst (pa_cons (pv 1) (pa_cons (pe_conv (t' := dashT 2) (pe_orT (pv 2) (pe_one (pe_gs gN))) (fun σ H Q h => by obtain ⟨m, e, hm, q⟩ := h; obtain ⟨kb, htv, c⟩ := dash_tru (K := K) (H := H) hm; refine ⟨_, e, kb, htv, ?_⟩; rcases c with ⟨c1, c2⟩ | ⟨c1, c2⟩; (rw [c2] at q; subst c1; exact iteT (q H Kp.refl)); (rw [c2] at q; subst c1; exact iteF (q H Kp.refl)))) (pa_cons (pe_conv (t' := dashT 3) (pe_orT (pv 3) (pe_one (pe_gs gN))) (fun σ H Q h => by obtain ⟨m, e, hm, q⟩ := h; obtain ⟨kb, htv, c⟩ := dash_tru (K := K) (H := H) hm; refine ⟨_, e, kb, htv, ?_⟩; rcases c with ⟨c1, c2⟩ | ⟨c1, c2⟩; (rw [c2] at q; subst c1; exact iteT (q H Kp.refl)); (rw [c2] at q; subst c1; exact iteF (q H Kp.refl)))) pa_nil))))))), ?_⟩
    refine ⟨_, rfl, a, _, rfl, SqT.of ha, rfl, _, _, rfl, _, _, rfl, _, _, rfl, rfl, ?_⟩
    refine ⟨⟨_, rfl⟩, _, rfl, r.2.1, rfl, by omega, fun H1 k1 => ⟨r.2.2, rfl, by omega, fun H2 k2 => ?_⟩⟩
    refine ⟨by rw [sizeLine_eq]; exact (by decide : 3 ≤ 16777216), fun p fp => ⟨" ", p, [r.1, dashM r.2.1, dashM r.2.2], rfl, rfl, .inl (SqL.of upd_same), ?_, ?_⟩⟩
    · have d2 := dash_len l2
      have d3 := dash_len l3
      show r.1.length + (((dashM r.2.1).length) + ((dashM r.2.2).length + 0)) + 3 * 1 ≤ _
      omega
    · rw [join_row]
      exact k _ ((k1.trans k2).trans (Kp.new fp))
end
end Fc
set_option maxHeartbeats 4000000
namespace Fc
open PySem PySem.Spec PyProof.Rows L2
section
variable {P : Program} {w : World} {K : PySem.W.Frag} {mg : Str → Option Value} {base : Heap}
theorem scWritten : FnScope ["rule", "row"] ["rule"] (defScope sWritten) := ⟨rfl, rfl, rfl, by decide +kernel, rfl, by decide +kernel, by decide +kernel⟩
theorem ok_written {T : List Addr} (D : DefAt K mg "written" sWritten) (C1 : C8.Cal P w K mg base 5 "check_rule" (spCheckRule T) []) (C2 : C8.Cal P w K mg base 1 "written_row" spWrittenRow []) : C8.Cal P w K mg base 6 "written" (spWritten T) [] := by
  refine cal_mk D scWritten (fun vs H Q E h => ?_) (fun _ _ _ _ _ _ us hl => match us, hl with | [_], _ => rfl) (fun A outer s H vs Q E hr h => ?_)
  · obtain ⟨v, rs, rfl, _⟩ := h
    rfl
  · obtain ⟨v, rs, rfl, hd, hg, ht, k⟩ := h
    refine ⟨_, pss_cons (ps_expr (C8.pe_c C1 hr (by decide) rfl (pa_cons (pv 0) pa_nil)))
      (pss_one (ps_ret (pe_joinK (K := K) rfl pe_str (pe_lc (own := [("row", 1)]) (g := gName 1) (tt := tYes) rfl scWritten.nd (pi_list (pv 0)) (blkOk_by (N := ["rule", "row"]) (sc := defScope sWritten) (by decide +kernel)) (fun _ _ _ _ _ => pg_name (i := 1) scWritten.nd rfl (Or.inl rfl)) (fun _ _ _ _ _ => pts_nil) (fun _ _ _ _ _ => C8.pe_c C2 hr (by decide) rfl (pa_cons (pv 1) pa_nil)))))), ?_⟩
    have few := hg.few
    refine ⟨_, rfl, v, rs, rfl, hd, hg, ht, fun H1 k1 => ?_⟩
    obtain ⟨a, xs, rfl, _, ha, hx⟩ := (hd.kp k1).lst_ex
    have hlen : rs.length = xs.length := by rw [hx.len, List.length_map]
    refine ⟨⟨_, rfl⟩, _, rfl, a, rfl, ⟨_, SqL.of ha⟩, fun D hD => lc_lst (xs := xs) rs (fun _ => true) (fun r => PyData.str (rowT r)) N0 ha hlen (fun _ z => z.elim) hD (by omega) (fun _ => rfl) (fun i r x H2 hr2 hx2 k2 Q2 q2 => q2 H2 Kp.refl) (fun i r x H2 hr2 hx2 _ k2 S' _ _ Q2 q2 => ?_) fun H2 out k2 hout hdn => ?_⟩
    · exact ⟨_, rfl, x, r, rfl, (hx.map_at hx2 hr2).kp k2, hg.row r (List.mem_of_getElem? hr2), fun H3 k3 => q2 _ _ k3 (.str _)⟩
    rw [List.filter_eq_self.mpr fun _ _ => rfl] at hdn
    have eo : out = (rs.map rowT).map V.str := DnA.strs_eq (xs := rs.map rowT) (by rw [List.map_map]; exact hdn)
    subst eo
    refine ⟨"\n", D, _, rfl, rfl, .inl (SqL.of hout), ?_, k _ (k1.trans k2)⟩
    have z := rows_sum hg.row
    rw [List.length_map]
    show _ + _ * 1 ≤ _
    omega
end
end Fc
set_option maxHeartbeats 4000000
namespace Fc
open PySem PySem.Spec PyProof.Rows L2
section
variable {P : Program} {w : World} {K : PySem.W.Frag} {mg : Str → Option Value} {base : Heap}
theorem scNamed : FnScope ["rule", "named", "head", "needs", "bars", "mark"] ["rule"] (defScope sNamed) := ⟨rfl, rfl, rfl, by decide +kernel, rfl, by decide +kernel, by decide +kernel⟩
theorem ok_named (D : DefAt K mg "named_marks" sNamed) (gM : ∃ t, mg "MARKS" = some (.str a2h t)) : C8.Cal P w K mg base 1 "named_marks" spNamedP [] := by
  refine cal_mk D scNamed (fun vs H Q E h => ?_) (fun _ _ _ _ _ _ us hl => match us, hl with | [_], _ => rfl) (fun A outer s H vs Q E hr h => ?_)
  · obtain ⟨v, rs, rfl, _⟩ := h
    rfl
  · obtain ⟨v, rs, rfl, hd, few, hrow, k⟩ := h
    obtain ⟨a, xs, rfl, _, ha, hx⟩ := hd.lst_ex
    have hlen : rs.length = xs.length := by rw [hx.len, List.length_map]
    refine ⟨_, pss_cons (ps_set (i := 1) scNamed.nd rfl (Or.inr rfl) (pe_joinK (K := K) rfl pe_str (pe_lc (own := [("head", 2), ("needs", 3), ("bars", 4)]) (g := gTup K 3 (gCons (gName 2) (gCons (gName 3) (gCons (gName 4) gNil)))) (tt := tYes) rfl scNamed.nd (pi_list (pv 0)) (blkOk_by (N := ["rule", "named", "head", "needs", "bars", "mark"]) (sc := defScope sNamed) (by decide +kernel))
        (fun _ _ _ _ _ => pg_tupK (K := K) rfl rfl (pgs_cons (pg_name (i := 2) scNamed.nd rfl (Or.inl rfl)) (pgs_cons (pg_name (i := 3) scNamed.nd rfl (Or.inl rfl)) (pgs_cons (pg_name (i := 4) scNamed.nd rfl (Or.inl rfl)) pgs_nil))))
        (fun _ _ _ _ _ => pts_nil) (fun _ _ _ _ _ => pe_op op_add_str (pv 3) (pv 4)))))
      (pss_one (ps_ret (pe_lc (own := [("mark", 5)]) (g := gName 5) rfl scNamed.nd (pi_str (pe_gs gM)) (blkOk_by (N := ["rule", "named", "head", "needs", "bars", "mark"]) (sc := defScope sNamed) (by decide +kernel)) (fun _ _ _ _ _ => pg_name (i := 5) scNamed.nd rfl (Or.inl rfl))
        (fun _ _ _ _ _ => pts_one (pt_cmpR op_in_sign (pv 5) (pv 1) rfl)) (fun _ _ _ _ _ => pv 5)))), ?_⟩
    refine ⟨⟨_, rfl⟩, _, rfl, a, rfl, ⟨_, SqL.of ha⟩, fun D hD => lc_gen (walk_list (xs := xs)) rs hlen (fun _ => true) (fun r => PyData.str (r.2.1 ++ r.2.2)) N0 (fun _ z => z.elim) hD (by omega) (fun H2 k2 => SqL.of (k2.obj ha ntl nn)) (fun i r x H2 H2' hr2 k2 y Kt kt => ?_) fun H1 out k1 hout hdn => ?_⟩
    · obtain ⟨rfl, hx2⟩ := y
      obtain ⟨b, rfl, _, hb⟩ := rowD_ex ((hx.map_at hx2 hr2).kp k2)
      obtain ⟨_, l2, l3⟩ := isRowM_len (hrow r (List.mem_of_getElem? hr2))
      refine ⟨b, _, rfl, SqT.of hb, rfl, _, _, rfl, _, _, rfl, _, _, rfl, rfl, ?_⟩
      refine kt _ _ Kp.refl rfl (fun Q2 q2 => q2 _ Kp.refl) fun _ H3 k3 S' _ _ Q2 q2 => ?_
      exact ⟨_, rfl, _, rfl, _, _, rfl, rfl, by rw [sizeLine_eq]; omega, q2 _ _ Kp.refl (.str _)⟩
    rw [List.filter_eq_self.mpr fun _ _ => rfl] at hdn
    have eo : out = (rs.map fun r => r.2.1 ++ r.2.2).map V.str := DnA.strs_eq (xs := rs.map fun r => r.2.1 ++ r.2.2) (by rw [List.map_map]; exact hdn)
    subst eo
    refine ⟨"", D, _, rfl, rfl, .inl (SqL.of hout), ?_, ?_⟩
    · have z := rowsS_sum hrow
      rw [List.length_map]
      show _ + _ * 0 ≤ _
      omega
    have ec := rowsS_cps rs
    generalize Txt.join "" (rs.map fun r => r.2.1 ++ r.2.2) = z at ec ⊢
    refine ⟨a2h, rfl, fun G hG => lc_txt (fun c => decide (c ∈ allS rs)) (fun c => PyData.str ⟨#[c]⟩) N0 (fun _ z => z.elim) hG (by decide) (fun _ => rfl) (fun c H2 _ k2 Q2 q2 => ?_) (fun c H2 _ _ k2 S' _ _ Q2 q2 => ?_) fun H' out k2 hout2 hdn2 => ?_⟩
    · refine ⟨_, rfl, _, rfl, c, z, rfl, rfl, _, rfl, ?_⟩
      rw [ec]
      exact q2 H2 Kp.refl
    · exact ⟨_, rfl, q2 _ H2 Kp.refl (.str _)⟩
    · rw [signs_map] at hdn2
      have eo := hdn2.strs_eq
      subst eo
      exact k G H' (k1.fresh hG) (k1.trans k2) hout2
end
end Fc
set_option maxHeartbeats 4000000
namespace Fc
open PySem PySem.Spec PyProof.Rows L2
section
variable {P : Program} {w : World} {K : PySem.W.Frag} {mg : Str → Option Value} {base : Heap}
theorem scToldOf : FnScope ["rule", "marks"] ["rule", "marks"] (defScope sToldOf) := ⟨rfl, rfl, rfl, by decide +kernel, rfl, by decide +kernel, by decide +kernel⟩
theorem ok_toldOf {T : List Addr} (D : DefAt K mg "told_of" sToldOf) (C1 : C8.Cal P w K mg base 5 "main_head" (spMain T) []) (C2 : C8.Cal P w K mg base 5 "rising_heads" (spRising T) []) : C8.Cal P w K mg base 6 "told_of" (spTold T) [] := by
  refine cal_mk D scToldOf (fun vs H Q E h => ?_) (fun _ _ _ _ _ _ us hl => match us, hl with | [_, _], _ => rfl) (fun A outer s H vs Q E hr h => ?_)
  · obtain ⟨v, rs, m, rfl, _⟩ := h
    rfl
  · obtain ⟨v, rs, m, rfl, hd, hl, ht, k⟩ := h
    refine ⟨_, pss_one (ps_ret (pe_tup (pa_cons (C8.pe_c C1 hr (by decide) rfl (pa_cons (pv 0) (pa_cons (pv 1) pa_nil))) (pa_cons (C8.pe_c C2 hr (by decide) rfl (pa_cons (pv 0) (pa_cons (pv 1) pa_nil))) pa_nil)))), ?_⟩
    refine ⟨_, rfl, _, rfl, v, rs, m, rfl, hd, hl, ht, fun H1 k1 => ⟨_, rfl, _, rfl, v, rs, m, rfl, hd.kp k1, hl, k1.tbs ht, fun p H2 fp k2 ap => ⟨Nat.le_of_lt (by rw [sizeLine_eq]; exact (by decide : 2 < 16777216)), fun t ft => ?_⟩⟩⟩
    have kt : Kp N0 H2 (upd H2 t (.tup [.str (mainM rs m), .ref p])) := Kp.new ft
    exact k t _ ((k1.trans k2).fresh ft) ((k1.trans k2).trans kt) (.tup nn upd_same (.cons (.str _) (.cons (.lst nn (kt.obj ap ntl nn) (DnA.strs _)) .nil)))
end
end Fc
set_option maxHeartbeats 4000000
namespace Fc
open PySem PySem.Spec PyProof.Rows L2
section
variable {P : Program} {w : World} {K : PySem.W.Frag} {mg : Str → Option Value} {base : Heap}
theorem scParting : FnScope ["one", "other", "named", "count", "some", "marks", "by_one", "by_other"] ["one", "other"] (defScope sParting) := ⟨rfl, rfl, rfl, by decide +kernel, rfl, by decide +kernel, by decide +kernel⟩
theorem ok_parting {T : List Addr} (D : DefAt K mg "parting" sParting) (C1 : C8.Cal P w K mg base 5 "check_rule" (spCheckRule T) []) (C2 : C8.Cal P w K mg base 1 "named_marks" spNamedP []) (C3 : C8.Cal P w K mg base 6 "told_of" (spTold T) []) (gR : mg "range" = none) (gL : mg "len" = none) (gC : mg "combinations" = some (.type "itertools.combinations")) :
    C8.Cal P w K mg base 7 "parting" (spParting T) [] := by
  refine cal_mk D scParting (fun vs H Q E h => ?_) (fun _ _ _ _ _ _ us hl => match us, hl with | [_, _], _ => rfl) (fun A outer s H vs Q E hr h => ?_)
  · obtain ⟨v, u, r1, r2, rfl, _⟩ := h
    rfl
  · obtain ⟨v, u, r1, r2, rfl, hd, he, g1, g2, ht, k⟩ := h
    refine ⟨_, pss_cons (ps_expr (C8.pe_c C1 hr (by decide) rfl (pa_cons (pv 0) pa_nil)))
      (pss_cons (ps_expr (C8.pe_c C1 hr (by decide) rfl (pa_cons (pv 1) pa_nil)))
      (pss_cons (ps_set (i := 2) scParting.nd rfl (Or.inl rfl) (C8.pe_c C2 hr (by decide) rfl (pa_cons (pe_op op_cat (pv 0) (pv 1)) pa_nil)))
      (pss_cons (ps_for PassesOwn.never rfl (pi_range1 (by rfl) gR (pa_cons (pe_op op_add (pe_callB call_len_seq (by rfl) gL PySem.boot_len (pa_cons (pv 2) pa_nil)) pe_int) pa_nil)) (pg_name (i := 3) scParting.nd rfl (Or.inl rfl))
        (pss_one (ps_for PassesOwn.never rfl (pi_comb (by rfl) gC (pa_cons (pv 2) (pa_cons (pv 3) pa_nil))) (pg_name (i := 4) scParting.nd rfl (Or.inl rfl))
          (pss_cons (ps_set (i := 5) scParting.nd rfl (Or.inl rfl) (pe_joinK (K := K) rfl pe_str (pv 4)))
          (pss_cons (ps_par (i := 6) (j := 7) rfl scParting.nd rfl rfl (by decide) rfl rfl (pa_cons (C8.pe_c C3 hr (by decide) rfl (pa_cons (pv 0) (pa_cons (pv 5) pa_nil))) (pa_cons (C8.pe_c C3 hr (by decide) rfl (pa_cons (pv 1) (pa_cons (pv 5) pa_nil))) pa_nil)) (by rfl))
          (pss_one (ps_if (pt_cmpR (op_neD (hu64 hr)) (pv 6) (pv 7) (nomark _)) (pss_one (ps_ret (pe_tup (pa_cons (pv 5) (pa_cons (pv 6) (pa_cons (pv 7) pa_nil)))))) pss_nil)))))))
      (pss_one (ps_ret pe_non))))), ?_⟩
    have f1 := g1.few
    have f2 := g2.few
    have row : ∀ r ∈ r1 ++ r2, isRowM r = true := fun r hr => (List.mem_append.mp hr).elim (g1.row r) (g2.row r)
    refine ⟨_, rfl, v, r1, rfl, hd, g1, ht, fun H1 k1 => ⟨_, rfl, u, r2, rfl, he.kp k1, g2, k1.tbs ht, fun H2 k2 => ?_⟩⟩
    have k12 := k1.trans k2
    obtain ⟨a, xs, rfl, _, ha, hx⟩ := (hd.kp k12).lst_ex
    obtain ⟨b, ys, rfl, _, hb, hy⟩ := (he.kp k12).lst_ex
    have lx : xs.length = r1.length := by rw [hx.len, List.length_map]
    have ly : ys.length = r2.length := by rw [hy.len, List.length_map]
    refine ⟨_, rfl, _, rfl, a, b, xs, ys, rfl, rfl, ha, hb, by rw [sizeLine_eq]; omega, fun p fp => ?_⟩
    have k3 : Kp N0 H2 (upd H2 p (.lst (xs ++ ys))) := Kp.new fp
    have dp : Dn N0 (upd H2 p (.lst (xs ++ ys))) (.ref p) (ruleD (r1 ++ r2)) := by
      refine .lst nn upd_same ?_
      rw [List.map_append]
      exact (hx.kp k3).app (hy.kp k3)
    have k13 := k12.trans k3
    generalize upd H2 p (.lst (xs ++ ys)) = H3 at k3 dp k13 ⊢
    refine ⟨_, _, rfl, dp, by rw [List.length_append]; omega, row, fun Nm H4 fN k4 aN => ?_⟩
    have k14 := k13.trans k4
    have nl := namedM_len (r1 ++ r2)
    have lv : (namedV (r1 ++ r2)).length = (namedM (r1 ++ r2)).length := by unfold namedV; rw [List.length_map, List.length_map]
    have two8 : 2 ^ (namedM (r1 ++ r2)).length ≤ 256 := Nat.pow_le_pow_right (by decide) nl
    have pM : partM r1 r2 = (choices (namedM (r1 ++ r2))).find? (diffB r1 r2) := rfl
    generalize hnm : namedM (r1 ++ r2) = nm at nl lv two8 pM
    refine ⟨_, rfl, Nm, _, rfl, .inl (SqL.of aN), _, _, rfl, rfl, ((nm.length + 1 : Nat) : Int), by rw [lv]; rfl, by omega, by omega, ?_⟩
    refine for_range (fun i σ' H' => ∃ o3 o4 o5 o6 o7 : Option V, σ' = [some (.ref a), some (.ref b), some (.ref Nm), o3, o4, o5, o6, o7] ∧ Kp N0 H H' ∧ H' Nm = some (.lst (namedV (r1 ++ r2))) ∧ ∀ sl ∈ (List.range i).flatMap fun k => combs k nm, diffB r1 r2 sl = false)
      ⟨_, _, _, _, _, rfl, k14, aN, fun sl z => nomatch z⟩ (fun i σ' H5 hi ⟨o3, o4, o5, o6, o7, es, k5, aN5, no⟩ => ?_) fun σ' H5 ⟨o3, o4, o5, o6, o7, es, k5, aN5, no⟩ => ?_
    · subst es
      have hi : i < nm.length + 1 := by simpa using hi
      have i8 : i ≤ 8 := by omega
      have cm : combs i (namedV (r1 ++ r2)) = (combs i nm).map fun l => (l.map signS).map V.str := by
        unfold namedV
        rw [hnm, combs_map, combs_map, List.map_map]
        rfl
      have c256 := Nat.le_trans (combs_le i nm) two8
      refine ⟨_, rfl, _, rfl, Nm, namedV (r1 ++ r2), i, by simp, SqL.of aN5, by omega, by omega, ?_⟩
      have cl : (combs i (namedV (r1 ++ r2))).length = (combs i nm).length := by rw [cm, List.length_map]
      refine for_it (walk_comb (xs := namedV (r1 ++ r2)) (r := i)) (fun j σ' H' => ∃ o4 o5 o6 o7 : Option V, σ' = [some (.ref a), some (.ref b), some (.ref Nm), some (.int (0 + (i : Nat))), o4, o5, o6, o7] ∧ Kp N0 H H' ∧ H' Nm = some (.lst (namedV (r1 ++ r2))) ∧ ∀ sl ∈ (combs i nm).take j, diffB r1 r2 sl = false)
        ⟨_, _, _, _, rfl, k5, aN5, fun sl z => nomatch z⟩ (fun _ _ _ _ _ => trivial) (fun j x σ' H6 H7 hj ⟨o4, o5, o6, o7, es, k6, aN6, no2⟩ y => ?_) fun σ' H6 ⟨o4, o5, o6, o7, es, k6, aN6, no2⟩ => ?_
      · subst es
        obtain ⟨U, c, rfl, fU, rfl, hc⟩ := y
        rw [cm, List.getElem?_map] at hc
        rw [cl] at hj
        have hsl : (combs i nm)[j]? = some (combs i nm)[j] := List.getElem?_eq_getElem hj
        generalize (combs i nm)[j] = sl at hsl
        rw [hsl] at hc
        have ec : c = (sl.map signS).map V.str := (Option.some.inj hc).symm
        subst ec
        have sll : sl.length = i := ((combs_mem i nm sl).mp (List.mem_of_getElem? hsl)).2
        have kU : Kp N0 H6 (upd H6 U (.tup ((sl.map signS).map V.str))) := Kp.new fU
        have aU : (upd H6 U (.tup ((sl.map signS).map V.str))) U = some (.tup ((sl.map signS).map V.str)) := upd_same
        have k7 := k6.trans kU
        have aN7 := kU.obj aN6 ntl nn
        generalize upd H6 U (.tup ((sl.map signS).map V.str)) = H7 at kU aU k7 aN7 ⊢
        refine ⟨⟨_, rfl⟩, _, rfl, "", U, sl.map signS, rfl, rfl, .inr (SqT.of aU), ?_, ?_⟩
        · have z := signs_sum sl
          rw [show ((sl.map signS).map (·.length)).sum = sl.length from z]
          show _ + _ * 0 ≤ _
          omega
        rw [show Txt.join "" (sl.map signS) = oS sl from join_signs sl]
        refine ⟨_, rfl, _, rfl, _, r1, oS sl, rfl, hd.kp k7, by omega, k7.tbs ht, fun t1 H8 ft1 k8 d1 => ?_⟩
        have k78 := k7.trans k8
        refine ⟨_, rfl, _, rfl, _, r2, oS sl, rfl, he.kp k78, by omega, k78.tbs ht, fun t2 H9 ft2 k9 d2 => ?_⟩
        have k79 := k78.trans k9
        have d19 := d1.kp k9
        refine ⟨_, _, rfl, ?_⟩
        refine ⟨_, rfl, _, rfl, _, _, d19.dp, d2.dp, told_shaped g1 _, told_shaped g2 _, ?_⟩
        rw [eqv_told]
        refine ⟨_, rfl, ite2 (fun c => ?_) (fun c => ?_)⟩
        · refine ⟨_, rfl, _, rfl, _, rfl, Nat.le_of_lt (by rw [sizeLine_eq]; exact (by decide : 3 < 16777216)), fun t ft => ?_⟩
          have kt : Kp N0 H9 (upd H9 t (.tup [.str (oS sl), .ref t1, .ref t2])) := Kp.new ft
          refine k (.ref t) _ (k79.trans kt) ?_
          obtain ⟨B, eB⟩ := choices_at (by omega) hsl
          have e : partM r1 r2 = some sl := by
            rw [pM, eB]
            refine find_at (fun s hs => ?_) c
            rcases List.mem_append.mp hs with z | z
            · exact no s z
            · exact no2 s z
          unfold partD
          rw [e]
          exact .tup nn upd_same (.cons (.str _) (.cons (d19.kp kt) (.cons (d2.kp kt) .nil)))
        · refine ⟨_, _, _, _, rfl, k79, (k8.trans k9).obj aN7 ntl nn, fun s hs => ?_⟩
          have tk : (combs i nm).take (j + 1) = (combs i nm).take j ++ [sl] := by rw [← (List.getElem?_eq_some_iff.mp hsl).2, List.take_append_getElem]
          rw [tk] at hs
          rcases List.mem_append.mp hs with z | z
          · exact no2 s z
          · rw [List.mem_singleton.mp z]
            simpa using c
      · subst es
        rw [cl, List.take_length] at no2
        refine ⟨_, _, _, _, _, rfl, k6, aN6, fun s hs => ?_⟩
        rw [pre_succ] at hs
        rcases List.mem_append.mp hs with z | z
        · exact no s z
        · exact no2 s z
    · subst es
      refine k _ _ k5 ?_
      have z : ((nm.length + 1 : Nat) : Int).toNat = nm.length + 1 := Int.toNat_natCast _
      rw [z] at no
      have e : partM r1 r2 = none := by
        rw [pM]
        exact List.find?_eq_none.mpr fun s hs => by rw [no s hs]; exact Bool.false_ne_true
      unfold partD
      rw [e]
      exact .non
end
end Fc
set_option maxHeartbeats 4000000
namespace Fc
open PySem PySem.Spec PyProof.Rows L2
section
variable {P : Program} {w : World} {K : PySem.W.Frag} {mg : Str → Option Value} {base : Heap}
theorem scAlikeP : FnScope ["one", "other"] ["one", "other"] (defScope sAlikeP) := ⟨rfl, rfl, rfl, by decide +kernel, rfl, by decide +kernel, by decide +kernel⟩
theorem ok_alikeP {T : List Addr} (D : DefAt K mg "alike" sAlikeP) (C1 : C8.Cal P w K mg base 7 "parting" (spParting T) []) : C8.Cal P w K mg base 8 "alike" (spAlikeP T) [] := by
  refine cal_mk D scAlikeP (fun vs H Q E h => ?_) (fun _ _ _ _ _ _ us hl => match us, hl with | [_, _], _ => rfl) (fun A outer s H vs Q E hr h => ?_)
  · obtain ⟨v, u, r1, r2, rfl, _⟩ := h
    rfl
  · obtain ⟨v, u, r1, r2, rfl, hd, he, g1, g2, ht, k⟩ := h
    refine ⟨_, pss_one (ps_ret (pe_cmpR op_isN (C8.pe_c C1 hr (by decide) rfl (pa_cons (pv 0) (pa_cons (pv 1) pa_nil))) pe_non (nomark _))), ?_⟩
    refine ⟨_, rfl, _, rfl, v, u, r1, r2, rfl, hd, he, g1, g2, ht, fun x H1 k1 dx => ⟨rfl, ?_⟩⟩
    have e : decide (x = V.non) = (partM r1 r2).isNone := by
      unfold partD at dx
      cases q : partM r1 r2 with
      | none =>
        rw [q] at dx
        rw [dx.non_eq]
        rfl
      | some sl =>
        rw [q] at dx
        obtain ⟨t, xs, e, _⟩ := Dn.tup_ex dx
        rw [e]
        simp
    rw [e]
    exact k H1 k1
end
end Fc
set_option maxHeartbeats 4000000
/-! k01's law: what goes through pinned tables; works that refuse nothing. -/
namespace Fc
open PySem PySem.Spec PyProof.Rows L2 LamX
/-- the law's script, tables that are empty yet -/
def spLaw01 (K : PySem.W.Frag) (T : List Addr) (P1 P2 : Addr) : Sp := fun vs H Q _ => ∃ (a : Addr) (ns : List Int), vs = [.ref a] ∧ SqL K H a (ns.map V.int) ∧ ns.length ≤ 63 ∧ Tbs T H ∧ H P1 = some (.tbl #[]) ∧ H P2 = some (.tbl #[]) ∧ ∀ H', Q (.bl true) H'
section
variable {p : Pn} {H H' : Hp} {ts T : List Addr} {b l : Addr}
theorem PinT.free (h : PinT p H ts) : ∀ b o, p.lookup b = some o → H b = none ∨ ∃ ps, H b = some (.tbl ps) := fun b o e => .inr (h.2 b o e).2
theorem Box.aug (hB : Box H b l) (h : PinT p H ts) : Box (augH p H) b l := by
  obtain ⟨ns, z, h1, h2, h3⟩ := hB
  exact ⟨ns, z, augH_of h.free h1 (fun _ q => (nomatch q)), augH_of h.free h2 (fun _ q => (nomatch q)), h3⟩
theorem Box.back (hB : Box H' b l) (st : Stand p H') : Box (backH p H H') b l := by
  obtain ⟨ns, z, h1, h2, h3⟩ := hB
  exact ⟨ns, z, backH_of st h1 (fun _ _ q => (nomatch q)), backH_of st h2 (fun _ _ q => (nomatch q)), h3⟩
theorem SqL.aug {K : PySem.W.Frag} {a : Addr} {xs : List V} (hS : SqL K H a xs) (h : PinT p H ts) : SqL K (augH p H) a xs := by
  rcases hS with (h1 | ⟨ob, h1⟩) | h1
  · exact .inl (.inl (augH_of h.free h1 fun _ q => nomatch q))
  · exact .inl (.inr ⟨ob, augH_of h.free h1 fun _ q => nomatch q⟩)
  · exact .inr h1
theorem Tbs.aug (hT : Tbs T H) (h : PinT p H ts) (hn : ∀ P ∈ ts, P ∉ T) : Tbs T (augH p H) := fun P hP => by
  obtain ⟨ps, e, t⟩ := hT P hP
  cases q : p.lookup P with
  | some ob => exact absurd hP (hn P (h.2 P ob q).1)
  | none => exact ⟨ps, by rw [augH_out q]; exact e, t⟩
theorem tab_back {P : Addr} {ps : Array Value} (h : PinT p H ts) (hP : P ∈ ts) (e : H P = some (.tbl ps)) : backH p H H' P = some (.tbl ps) := by
  rw [backH_in (h.1 P hP ps e)]
  exact e
end
/-- refuses nothing, while the cell c holds v -/
def GoodItem (P : Program) (w : World) (K : PySem.W.Frag) (mg : Str → Option Value) (base : Heap) (c : Addr) (v : V) (H : Hp) (x : V) : Prop := ∃ (f : Addr) (R : Hp → VK → XK → Prop), x = .ref f ∧ WorkP P w K mg base 9 f R ∧ ∀ H2, Kp N0 H H2 → ∀ o, CellIs o v → H2 c = none → ∀ (Q : VK) (E : XK), (∀ y H', Kp N0 (augH [(c, o)] H2) H' → Q y H') → R (augH [(c, o)] H2) Q E
theorem GoodItem.kp {P : Program} {w : World} {K : PySem.W.Frag} {mg : Str → Option Value} {base : Heap} {c : Addr} {v : V} {H H' : Hp} {x : V} (g : GoodItem P w K mg base c v H x) (k : Kp N0 H H') : GoodItem P w K mg base c v H' x := by
  obtain ⟨f, R, e, h1, h2⟩ := g
  exact ⟨f, R, e, h1, fun H2 k2 => h2 H2 (k.trans k2)⟩
theorem one_pin {b c : Addr} {o ob : Obj} (e : List.lookup b [(c, o)] = some ob) : b = c ∧ ob = o := by
  rw [List.lookup_cons] at e
  by_cases z : b = c
  · rw [z, beq_self_eq_true] at e
    cases e
    exact ⟨z, rfl⟩
  · rw [beq_false_of_ne z] at e
    cases e
theorem one_in {c : Addr} {o : Obj} : List.lookup c [(c, o)] = some o := by simp
section
variable {P : Program} {w : World} {K : PySem.W.Frag} {mg : Str → Option Value} {base : Heap}
theorem work_good {X : Cx} {H : Hp} {f c : Addr} {v : V} {y : Str} {q : Str} {params : Arguments} {body : Expr} {scope : Scope} {n : Nat} {N ps : List Str} {tb : XK → TE} (l : LamF H f q params body scope X.env.cells n) (hc : X.env.cells.lookup y = some c) (hfr : ∀ z ∈ scope.names, z.2 = .free → z.1 = y) (hin : (y, NameKind.free) ∈ scope.names)
    (S : NdefX.NScope N ps [y] scope) (hps : ps.length = n) (hb : BindsL q params body scope ps)
    (hbody : ∀ (c' : Addr) (A : Around) (outer : List Env) (s : Shared) (H : Hp) (E : XK), Room 8 (A.deeper (NdefX.envF (lamNF q params scope (cloFrom X.env.cells scope.names []) c') f s.heap.objs.size)) →
      L2N.Takes (NdefX.ncx (L2N.CX P w) P w K mg base N (lamNF q params scope (cloFrom X.env.cells scope.names []) c') f A outer s H E) (fun cls d _ H => E cls d H) → PE (NdefX.ncx (L2N.CX P w) P w K mg base N (lamNF q params scope (cloFrom X.env.cells scope.names []) c') f A outer s H E) body (tb E))
    (hread : ∀ H2 p, Kp N0 H H2 → Stand p (augH p H2) → (∀ b o, p.lookup b = some o → H2 b = none) → ∀ (Q : VK) (E : XK), (∀ y H', Kp N0 (strH p (augH p H2)) H' → Q y H') → tb E (NdefX.startF N (zeros ps) [some v]) (strH p (augH p H2)) Q) :
    GoodItem P w K mg base c v H (.ref f) := by
  subst hps
  refine ⟨f, RLam q params body scope (cloFrom X.env.cells scope.names []) N ps [y] [some v] f tb, rfl, lam_work (k := 8) S hb hbody, fun H2 k2 o ho n2 Q E hQ => ?_⟩
  have hfree : ∀ z ∈ scope.names, z.2 = .free → ∃ c, X.env.cells.lookup z.1 = some c := fun z hz e => ⟨c, by rw [hfr z hz e]; exact hc⟩
  have cm : ∀ {z d}, (cloFrom X.env.cells scope.names []).lookup z = some d → X.env.cells.lookup z = some d := fun {z d} e => NdefX.clo_cm hfree e
  have only : ∀ {z d}, (cloFrom X.env.cells scope.names []).lookup z = some d → z = y ∧ d = c := fun {z d} e => by
    have hz : (z, NameKind.free) ∈ scope.names := by
      rcases cloFrom_mem (PySem.mem_of_lookup e) with hm | ⟨h1, _⟩
      · cases hm
      · exact h1
    have e1 := hfr _ hz rfl
    have e1 : z = y := e1
    have e2 := cm e
    rw [e1, hc] at e2
    exact ⟨e1, (Option.some.inj e2).symm⟩
  have none1 : ∀ b ob, List.lookup b [(c, o)] = some ob → H2 b = none := fun b ob e => by rw [(one_pin e).1]; exact n2
  obtain ⟨u, ru, hd⟩ := ho
  have cp : CellsP [(c, o)] (cloFrom X.env.cells scope.names []) [y] [some v] (augH [(c, o)] H2) := ⟨rfl, fun z d e => by
    rw [(only e).2]
    exact ⟨o, _, one_in, hd⟩, fun z z' d e1 e2 => (only e1).1.trans (only e2).1.symm, fun i z e => by
    match i, e with
    | 0, e =>
      cases e
      refine ⟨c, NdefX.clo_has hfree hin hc, fun v' hv => ?_⟩
      cases hv
      exact ⟨o, one_in, u, ru, hd⟩, fun b ob e => augH_in e⟩
  obtain ⟨c', pm, ctv, dV, h1, h2, h3⟩ := (l.kp k2).aug none1
  refine ⟨pm, ctv, dV, c', [(c, o)], h1, h2, h3, cp, hread H2 _ k2 cp.pin none1 _ _ fun y' H' k' => ?_⟩
  exact fun gone => hQ y' _ (Kp.unstrip cp.pin k')
end
theorem Dn.good {S : Addr → Prop} {p : Pn} {H H2 : Hp} {v : V} {d : PyData} (h : Dn N0 H v d) (k : Kp N0 H H2) (st : Stand p (augH p H2)) (n : ∀ b o, p.lookup b = some o → H2 b = none) : Dn N0 (strH p (augH p H2)) v d :=
  ((h.kp k).aug fun b o e => .inl (n b o e)).strip st
theorem Tbs.good {T : List Addr} {p : Pn} {H H2 : Hp} (h : Tbs T H) (k : Kp N0 H H2) (st : Stand p (augH p H2)) (n : ∀ b o, p.lookup b = some o → H2 b = none) : Tbs T (strH p (augH p H2)) := by
  refine Tbs.strip (fun P hP => ?_) st
  obtain ⟨ps, e, t⟩ := k.tbs h P hP
  exact ⟨ps, augH_keep n e, t⟩
theorem Kp.reaug {p p' : Pn} {ts : List Addr} {H3 H4 Hx : Hp} (st : Stand p H4) (hp : PinT p H3 ts) (k : Kp N0 (backH p H3 H4) Hx) (hp' : PinT p' Hx ts) (same : ∀ P ∈ ts, H3 P = Hx P) : Kp N0 H4 (augH p' Hx) := fun a o e => by
  cases q : p.lookup a with
  | some ob =>
    obtain ⟨ha, ps, e3⟩ := hp.2 a ob q
    have e1 := hp.1 a ha ps e3
    rw [q] at e1
    cases e1
    have e2 := st a _ q
    rw [e] at e2
    cases e2
    exact ⟨_, augH_in (hp'.1 a ha ps (by rw [← same a ha]; exact e3)), .inl rfl⟩
  | none =>
    obtain ⟨u, h1, h2⟩ := k a o (by rw [backH_out q]; exact e)
    cases q' : p'.lookup a with
    | none => exact ⟨u, by rw [augH_out q']; exact h1, h2⟩
    | some ob =>
      obtain ⟨ha, ps, e3⟩ := hp'.2 a ob q'
      have e1 := hp.1 a ha ps (by rw [same a ha]; exact e3)
      rw [q] at e1
      cases e1
theorem WorkP.mono {P : Program} {w : World} {K : PySem.W.Frag} {mg : Str → Option Value} {base : Heap} {j k : Nat} {f : Addr} {R : Hp → VK → XK → Prop} (h : WorkP P w K mg base j f R) (hk : j ≤ k) : WorkP P w K mg base k f R := fun A outer s H Q E hr => h A outer s H Q E (hr.mono hk)
theorem goodP_nil : GoodP [] := by
  constructor <;> simp
end Fc
set_option maxHeartbeats 4000000
namespace Fc
open PySem PySem.Spec PyProof.Rows L2
section
variable {P : Program} {w : World} {K : PySem.W.Frag} {mg : Str → Option Value} {base : Heap}
theorem scLaw : FnScope ["_law_script", "_law_box", "_law_rule_here", "_law_bad_here", "_law_number", "_law_work", "_law_works_here"] ["_law_script"] (defScope sLaw) := ⟨rfl, rfl, rfl, by decide +kernel, rfl, by decide +kernel, by decide +kernel⟩
theorem ok_law {T : List Addr} {fd : FuncData} (F : FunD K "law" "law" (defArgs sLaw) (defBody sLaw) (defScope sLaw) [] [] (He.ga K "law") fd) (C1 : C8.Cal P w K mg base 1 "_law_begun" (spBegun K) []) (C2 : C8.Cal P w K mg base 3 "_law_rule" spRuleL []) (C3 : C8.Cal P w K mg base 2 "_law_bad" spBad [])
    (C4 : C8.Cal P w K mg base 1 "_law_works" (spWorksX P w K mg base T (tO K "_law_works")) []) (C5 : C8.Cal P w K mg base 10 "_law_refused" (spRefused P w K mg base 9) []) (C6 : C8.Cal P w K mg base 4 "_law_alike" (spAlike 3) [])
    (D1 : C8.Cal P w K mg base 6 "heads_of" (spHeadsOf T) []) (D2 : C8.Cal P w K mg base 6 "right" (spRight T) []) (D3 : C8.Cal P w K mg base 6 "written" (spWritten T) []) (D4 : C8.Cal P w K mg base 8 "alike" (spAlikeP T) [])
    (TB0 : GxR.TabB base mg (cO K "law") (tO K "law")) (n1 : tO K "law" ∉ T) (n2 : tO K "_law_works" ∉ T) (n3 : tO K "law" ≠ tO K "_law_works") : FnOk P w K mg base CX0 11 (He.ga K "law") fd ["_law_script"] (spLaw01 K T (tO K "law") (tO K "_law_works")) := by
  have TB : LamX.TabB base mg (cO K "law") (tO K "law") := ⟨TB0.code, TB0.bm, TB0.gP⟩
  refine fn_mk F scLaw (fun vs H Q E h => ?_) (fun A outer s H vs Q E hr h => ?_)
  · obtain ⟨a, ns, rfl, _⟩ := h
    rfl
  · obtain ⟨a, ns, rfl, hS, hn, ht, e1, e2, k⟩ := h
    obtain ⟨c, hc⟩ := cell_has (n := s.heap.objs.size + 1) (sc := defScope sLaw) (x := "_law_rule_here") rfl
    refine ⟨_, PSs.nox (pss_cons (ps_set (i := 1) scLaw.nd rfl (Or.inl rfl) (pe_cT C1 [tO K "law", tO K "_law_works"] hr (by decide) rfl (pa_cons (pv 0) pa_nil)))
      (pss_cons (ps_set (i := 2) scLaw.nd rfl (Or.inr rfl) (pe_cT C2 [tO K "law", tO K "_law_works"] hr (by decide) rfl (pa_cons (pv 1) (pa_cons pe_int pa_nil))))
      (pss_cons (ps_asg (pe_cT C3 [tO K "law", tO K "_law_works"] hr (by decide) rfl (pa_cons (pv 1) (pa_cons (pv 2) pa_nil))) (pg_tup rfl (pgs_cons (pg_name (i := 3) scLaw.nd rfl (Or.inl rfl)) (pgs_cons (pg_name (i := 4) scLaw.nd rfl (Or.inl rfl)) pgs_nil))))
      (pss_cons (ps_for PassesOwn.never rfl (pi_list (pe_cT C4 [tO K "law"] hr (by decide) rfl (pa_cons (pv 3) pa_nil))) (pg_name (i := 5) scLaw.nd rfl (Or.inl rfl))
        (pss_one (ps_if (pt_not (pt_val (pe_cT C6 [tO K "law"] hr (by decide) rfl (pa_cons (pe_cT C5 [tO K "law"] hr (by decide) rfl (pa_cons (pv 5) pa_nil)) (pa_cons (pe_tup (pa_cons pe_str (pa_cons (pv 4) pa_nil))) pa_nil))))) pss_never pss_nil)))
      (pss_cons (ps_set (i := 6) scLaw.nd rfl (Or.inl rfl) (pe_lst (pa_cons (pe_lamF0 TB rfl rfl (show ∀ y ∈ (_ : List (Str × NameKind)), y.2 = NameKind.free → (defScope sLaw).names.lookup y.1 = some .cell ∨ (defScope sLaw).names.lookup y.1 = some .free by decide +kernel)) (pa_cons (pe_lamF1 TB rfl rfl rfl (show ∀ y ∈ (_ : List (Str × NameKind)), y.2 = NameKind.free → (defScope sLaw).names.lookup y.1 = some .cell ∨ (defScope sLaw).names.lookup y.1 = some .free by decide +kernel)) (pa_cons (pe_lamF1 TB rfl rfl rfl (show ∀ y ∈ (_ : List (Str × NameKind)), y.2 = NameKind.free → (defScope sLaw).names.lookup y.1 = some .cell ∨ (defScope sLaw).names.lookup y.1 = some .free by decide +kernel)) pa_nil)))))
      (pss_one (ps_ret (pe_cmpR (op_eqD (hu64 hr)) (pe_lcI (W := fun _ _ _ => False) (own := [("_law_work", 5)]) (g := gName 5) rfl scLaw.nd takes_never rfl rfl (pi_list (pe_op op_cat (pv 6) (pe_lst (pa_cons (pe_lamF1 TB rfl rfl rfl (show ∀ y ∈ (_ : List (Str × NameKind)), y.2 = NameKind.free → (defScope sLaw).names.lookup y.1 = some .cell ∨ (defScope sLaw).names.lookup y.1 = some .free by decide +kernel)) pa_nil)))) (blkOk_by (N := ["_law_script", "_law_box", "_law_rule_here", "_law_bad_here", "_law_number", "_law_work", "_law_works_here"]) (sc := defScope sLaw) (by decide +kernel)) (fun _ _ _ _ _ => pg_name (i := 5) scLaw.nd rfl (Or.inl rfl))
          (fun pins σ s3 H3 C cl fp I3 f3 => pts_one (pt_cmpR op_notN (pe_cC (i := 2) I3 f3 (fun _ => rfl) rfl rfl hc C5 hr (by decide) rfl (pa_cons (pv 5) pa_nil)) pe_non (nomark _))) (fun _ _ _ _ _ _ _ => pv 5)) (pe_lst pa_nil) (nomark _))))))))), ?_⟩
    have sz : ∀ n : Nat, n ≤ 5000 → n ≤ sizeLine := fun n h => by rw [sizeLine_eq]; omega
    have n0 : ∀ {S : Addr → Prop} (a : Addr), N0 a → S a := fun _ z => z.elim
    generalize hP1 : tO K "law" = P1 at *
    generalize hP2 : tO K "_law_works" = P2 at *
    have nb : ∀ P ∈ [P1, P2], P ∉ T := fun P hP => by
      rcases List.mem_cons.mp hP with e | e
      · rw [e]; exact n1
      · rw [List.mem_singleton.mp e]; exact n2
    have no : ∀ P ∈ [P1], P ∉ T := fun P hP => by rw [List.mem_singleton.mp hP]; exact n1
    have tb2 : ∀ {H : Hp}, H P1 = some (.tbl #[]) → H P2 = some (.tbl #[]) → ∀ P ∈ [P1, P2], ∃ ps, H P = some (.tbl ps) := fun e1 e2 P hP => by
      rcases List.mem_cons.mp hP with e | e
      · rw [e]; exact ⟨_, e1⟩
      · rw [List.mem_singleton.mp e]; exact ⟨_, e2⟩
    have tb1 : ∀ {H : Hp}, H P1 = some (.tbl #[]) → ∀ P ∈ [P1], ∃ ps, H P = some (.tbl ps) := fun e1 P hP => by rw [List.mem_singleton.mp hP]; exact ⟨_, e1⟩
    have m1 : P1 ∈ [P1, P2] := List.mem_cons_self
    have m2 : P2 ∈ [P1, P2] := List.mem_cons_of_mem _ List.mem_cons_self
    have m1' : P1 ∈ [P1] := List.mem_cons_self
    -- the box
    refine ⟨_, rfl, tb2 e1 e2, fun p hp => ⟨a, ns, rfl, SqL.aug hS hp, hn, fun b l H1 fb fl hB k1 st => ?_⟩⟩
    have hB := hB.back (H := H) st
    have k1 := k1.back
    have t1 := k1.tbs ht
    have x1 := tab_back (H' := H1) hp m1 e1
    have x2 := tab_back (H' := H1) hp m2 e2
    dsimp only [gName]
    generalize backH p H H1 = B1 at hB k1 t1 x1 x2 ⊢
    clear hp st fb fl k1 hS ht e1 e2
    -- the rule
    refine ⟨_, rfl, tb2 x1 x2, fun p hp => ⟨b, l, 10, rfl, by decide, by decide, hB.aug hp, fun rs R H2 hg hrl fR hB2 k2 hR st => ?_⟩⟩
    have hB2 := hB2.back (H := B1) st
    have hR := hR.back (H := B1) st
    have k2 := k2.back
    have t2 := k2.tbs t1
    have y1 := tab_back (H' := H2) hp m1 x1
    have y2 := tab_back (H' := H2) hp m2 x2
    dsimp only [gName]
    generalize backH p B1 H2 = B2 at hB2 hR k2 t2 y1 y2 ⊢
    clear hp st fR k2 hB t1 x1 x2
    -- rows that cannot be
    refine ⟨_, rfl, _, rfl, tb2 y1 y2, fun p hp => ⟨b, l, .ref R, rs, rfl, hB2.aug hp, hR.aug hp.free, hg, by omega, fun rows t Rb H3 lR hbad hB3 k3 at3 hRb st => ?_⟩⟩
    have at3 := backH_of (H := B2) st at3 fun _ _ q => nomatch q
    have hRb := hRb.back (H := B2) st
    have k3 := k3.back
    have t3 := k3.tbs t2
    have hR3 := hR.kp k3
    have z1 := tab_back (H' := H3) hp m1 y1
    have z2 := tab_back (H' := H3) hp m2 y2
    generalize backH p B2 H3 = B3 at at3 hRb k3 t3 hR3 z1 z2 ⊢
    clear hp st k3 hB2 hB3 hR t2 y1 y2
    have hR3 := hR3.weak (S' := N0) n0
    have hRb := hRb.weak (S' := N0) n0
    obtain ⟨rb, _, eRb, _⟩ := hRb.lst_ex
    subst eRb
    refine ⟨t, _, rfl, SqT.of at3, rfl, _, _, rfl, _, _, rfl, rfl, ?_⟩
    -- all that is handed them
    have TW : ∀ p, PinT p B3 [P1] → LamX.TabS (augH p B3) P2 worksQ := fun p hp => by
      have q : p.lookup P2 = none := by
        cases q : p.lookup P2 with
        | none => rfl
        | some ob => exact absurd (List.mem_singleton.mp (hp.2 P2 ob q).1).symm n3
      exact LamX.TabS.nil (by rw [augH_out q]; exact z2)
    refine ⟨_, rfl, tb1 z1, fun p hp => ⟨.ref rb, rows, rfl, hRb.aug hp.free, lR, t3.aug hp no, TW p hp, hbad, fun W xs H4 fW k4 aW lx items st => ?_⟩⟩
    have aW4 := backH_of (H := B3) st aW fun _ _ q => nomatch q
    have k4b := k4.back
    have w1 := tab_back (H' := H4) hp m1' z1
    have t4 := k4b.tbs t3
    have hR4 := hR3.kp k4b
    generalize hB4 : backH p B3 H4 = B4 at aW4 k4b w1 t4 hR4 ⊢
    have sd : PyData.depth (.tuple [.str "BadRule", .int (badR rows : Nat)]) < 3 ∧ PyData.weight (.tuple [.str "BadRule", .int (badR rows : Nat)]) ≤ 1000000 := by
      have b1 : badR rows ≤ 1000 := Nat.le_trans (firstN_le _ _) lR.1
      have wl := Nat.log2_le_self (badR rows)
      refine ⟨by simp [PyData.depth, PyData.depthAll], ?_⟩
      simp only [PyData.weight, PyData.weightAll]
      have e1 : (("BadRule" : Str)).cps.size = 7 := by decide
      have e2 : ((badR rows : Nat) : Int).natAbs.log2 = (badR rows).log2 := rfl
      rw [e1, e2]
      split <;> omega
    refine ⟨W, rfl, ⟨_, SqL.of aW4⟩, for_list (K := K) (a := W) (xs := xs) (fun i σ' H' => ∃ o5 : Option V, σ' = [some (.ref a), some (.ref b), some (.ref R), some (.ref rb), some (.int (badR rows : Nat)), o5, none] ∧ Kp N0 B4 H' ∧ H' P1 = some (.tbl #[]))
      ⟨_, rfl, Kp.refl, w1⟩ (fun i σ' H' _ ⟨_, _, k5, _⟩ => SqL.of (k5.obj aW4 ntl nn)) (fun i x σ' H5 hx2 ⟨o5, es, k5, v1⟩ => ?_) fun σ' H5 ⟨o5, es, k5, v1⟩ => ?_⟩
    · subst es
      obtain ⟨f, Rf, rfl, hw, hRf⟩ := items x (List.mem_of_getElem? hx2)
      refine ⟨_, rfl, tb1 v1, fun p' hp' => ⟨f, Rf, rfl, hw.mono (by decide), fun Q' E' hQ hE => ?_⟩⟩
      have kk : Kp N0 H4 (augH p' H5) := Kp.reaug st hp (by rw [hB4]; exact k5) hp' fun P hP => by rw [List.mem_singleton.mp hP, z1, v1]
      refine hRf _ kk Q' E' fun dd H6 k6 a6 => hE _ _ _ ⟨dd, _, rfl, rfl, a6, fun t2 H7 k7 at2 st2 => ?_⟩
      have k57 := (k6.trans k7).back
      have at2 := backH_of (H := H5) st2 at2 fun _ _ q => nomatch q
      have u1 := tab_back (H' := H7) hp' m1' v1
      generalize backH p' H5 H7 = H8 at k57 at2 u1 ⊢
      refine ⟨_, rfl, sz 2 (by decide), fun u fu => ?_⟩
      have ku : Kp N0 H8 (upd H8 u (.tup [.str "BadRule", .int (badR rows : Nat)])) := Kp.new fu
      have at3 := ku.obj at2 ntt nn
      have au : (upd H8 u (.tup [.str "BadRule", .int (badR rows : Nat)])) u = some (.tup [.str "BadRule", .int (badR rows : Nat)]) := upd_same
      have u2 : (upd H8 u (.tup [.str "BadRule", .int (badR rows : Nat)])) P1 = some (.tbl #[]) := by rw [upd_ne (ne_of_none u1 fu)]; exact u1
      generalize upd H8 u (.tup [.str "BadRule", .int (badR rows : Nat)]) = H9 at ku at3 au u2 ⊢
      refine ⟨tb1 u2, fun p3 hp3 => ?_⟩
      have d1 : Dn N0 H9 (.ref t2) (.tuple [.str "BadRule", .int (badR rows : Nat)]) := .tup nn at3 (.cons (.str _) (.cons (.int _) .nil))
      have d2 : Dn N0 H9 (.ref u) (.tuple [.str "BadRule", .int (badR rows : Nat)]) := .tup nn au (.cons (.str _) (.cons (.int _) .nil))
      refine ⟨.ref t2, .ref u, _, rfl, d1.aug hp3.free, d2.aug hp3.free, sd.1, sd.2, fun H10 k10 st3 => ⟨_, rfl, iteF ?_⟩⟩
      exact ⟨_, rfl, k5.trans (k57.trans (ku.trans k10.back)), tab_back hp3 m1' u2⟩
    subst es
    have hR5 := hR4.kp k5
    have t5 := k5.tbs t4
    clear items aW k4 hp st k5 aW4 hB4 w1 z1 z2 k4b TW hRb t4 hR4 t3 hR3 at3
    -- good ones
    have TT : LamX.TabS H5 P1 "law.<locals>.<lambda>" := LamX.TabS.nil v1
    refine ⟨TT, fun f1 A1 k1 T1 g1 l1 => ⟨T1, fun f2 A2 k2 T2 g2 l2 => ⟨T2, fun f3 A3 k3 T3 g3 l3 => ⟨sz 3 (by decide), fun L fL => ?_⟩⟩⟩⟩
    have kL : Kp N0 A3 (upd A3 L (.lst [.ref f1, .ref f2, .ref f3])) := Kp.new fL
    have aL : (upd A3 L (.lst [.ref f1, .ref f2, .ref f3])) L = some (.lst [.ref f1, .ref f2, .ref f3]) := upd_same
    have TL := tabS_new T3 fL (o := .lst [.ref f1, .ref f2, .ref f3])
    have k1L := k1.trans (k2.trans (k3.trans kL))
    replace l1 := l1.kp (k2.trans (k3.trans kL))
    replace l2 := l2.kp (k3.trans kL)
    replace l3 := l3.kp kL
    dsimp only [gName]
    generalize upd A3 L (.lst [.ref f1, .ref f2, .ref f3]) = A4 at kL aL TL k1L l1 l2 l3 ⊢
    clear TT T1 T2 T3 k1 k2 k3 g1 g2 g3 fL
    refine ⟨_, rfl, TL, fun f4 A5 k5 T5 g5 l4 => ⟨sz 1 (by decide), fun M fM => ?_⟩⟩
    have kM : Kp N0 A5 (upd A5 M (.lst [.ref f4])) := Kp.new fM
    have aM : (upd A5 M (.lst [.ref f4])) M = some (.lst [.ref f4]) := upd_same
    have aL5 := (k5.trans kM).obj aL ntl nn
    have k45 := k5.trans kM
    replace l4 := l4.kp kM
    generalize upd A5 M (.lst [.ref f4]) = A6 at kM aM aL5 k45 l4 ⊢
    refine ⟨L, M, _, _, rfl, rfl, aL5, aM, sz 4 (by decide), fun Z fZ => ?_⟩
    have kZ : Kp N0 A6 (upd A6 Z (.lst ([.ref f1, .ref f2, .ref f3] ++ [.ref f4]))) := Kp.new fZ
    have aZ : (upd A6 Z (.lst ([.ref f1, .ref f2, .ref f3] ++ [.ref f4]))) Z = some (.lst [.ref f1, .ref f2, .ref f3, .ref f4]) := upd_same
    have kAll := k1L.trans (k45.trans kZ)
    replace l1 := l1.kp (k45.trans kZ)
    replace l2 := l2.kp (k45.trans kZ)
    replace l3 := l3.kp (k45.trans kZ)
    replace l4 := l4.kp kZ
    generalize upd A6 Z (.lst ([.ref f1, .ref f2, .ref f3] ++ [.ref f4])) = A7 at kZ aZ kAll l1 l2 l3 l4 ⊢
    have hR7 := hR5.kp kAll
    have t7 := kAll.tbs t5
    have goods : ∀ x ∈ [V.ref f1, V.ref f2, V.ref f3, V.ref f4], GoodItem P w K mg base c (.ref R) A7 x := fun x hx => by
      simp only [List.mem_cons, List.not_mem_nil, or_false] at hx
      rcases hx with rfl | rfl | rfl | rfl
      · refine work_good (N := ["_law_rule_here"]) (ps := []) (y := "_law_rule_here") (v := .ref R) l1 hc (by decide +kernel) (by decide +kernel) (NdefX.nscope_by (by decide +kernel)) rfl (.inl ⟨rfl, fun _ _ _ _ => rfl⟩) (fun c' A outer s H E hr tk => C8.pe_c D1 hr (by decide) rfl (pa_cons (pv 0) (pa_cons pe_str pa_nil))) (fun H2 p k2 st n Q E hQ => ?_)
        exact ⟨_, rfl, .ref R, rs, "", rfl, (Dn.good (S := N0) hR7 k2 st n), hg, by decide +kernel, t7.good k2 st n, fun p H' _ k' _ => hQ _ _ k'⟩
      · refine work_good (N := ["_law_a", "_law_rule_here"]) (ps := ["_law_a"]) (y := "_law_rule_here") (v := .ref R) l2 hc (by decide +kernel) (by decide +kernel) (NdefX.nscope_by (by decide +kernel)) rfl (.inr ⟨"_law_a", rfl, fun _ _ _ _ T => ⟨_, rfl, fun u => rfl⟩⟩) (fun c' A outer s H E hr tk => C8.pe_c D2 hr (by decide) rfl (pa_cons (pv 1) (pa_cons (pe_lst pa_nil) pa_nil))) (fun H2 p k2 st n Q E hQ => ?_)
        exact ⟨_, rfl, Nat.zero_le _, fun e fe => ⟨.ref R, .ref e, rs, [], rfl, ((Dn.good (S := N0) hR7 k2 st n)).kp (Kp.new (S := N0) fe), .lst nn upd_same .nil, hg, goodP_nil, (Kp.new (S := N0) fe).tbs (t7.good k2 st n), fun p H' k' _ => hQ _ _ ((Kp.new (S := N0) fe).trans k')⟩⟩
      · refine work_good (N := ["_law_b", "_law_rule_here"]) (ps := ["_law_b"]) (y := "_law_rule_here") (v := .ref R) l3 hc (by decide +kernel) (by decide +kernel) (NdefX.nscope_by (by decide +kernel)) rfl (.inr ⟨"_law_b", rfl, fun _ _ _ _ T => ⟨_, rfl, fun u => rfl⟩⟩) (fun c' A outer s H E hr tk => C8.pe_c D3 hr (by decide) rfl (pa_cons (pv 1) pa_nil)) (fun H2 p k2 st n Q E hQ => ?_)
        exact ⟨_, rfl, .ref R, rs, rfl, (Dn.good (S := N0) hR7 k2 st n), hg, t7.good k2 st n, fun H' k' => hQ _ _ k'⟩
      · refine work_good (N := ["_law_c", "_law_rule_here"]) (ps := ["_law_c"]) (y := "_law_rule_here") (v := .ref R) l4 hc (by decide +kernel) (by decide +kernel) (NdefX.nscope_by (by decide +kernel)) rfl (.inr ⟨"_law_c", rfl, fun _ _ _ _ T => ⟨_, rfl, fun u => rfl⟩⟩) (fun c' A outer s H E hr tk => C8.pe_c D4 hr (by decide) rfl (pa_cons (pv 1) (pa_cons (pv 1) pa_nil))) (fun H2 p k2 st n Q E hQ => ?_)
        exact ⟨_, rfl, _, rfl, .ref R, .ref R, rs, rs, rfl, (Dn.good (S := N0) hR7 k2 st n), (Dn.good (S := N0) hR7 k2 st n), hg, hg, t7.good k2 st n, fun H' k' => hQ _ _ k'⟩
    refine ⟨Z, rfl, ⟨_, SqL.of aZ⟩, fun D hD => lc_lst (xs := [.ref f1, .ref f2, .ref f3, .ref f4]) [V.ref f1, V.ref f2, V.ref f3, V.ref f4] (fun _ => false) (fun _ => PyData.none) N0 aZ rfl (fun _ z => z.elim) hD (by simp) (fun _ => rfl) (fun i y x H8 hy2 hx2 k8 Q2 q2 => ?_) (fun i y x H8 _ _ z _ _ _ _ _ _ => Bool.noConfusion z) fun H9 out k9 hout hdn => ?_⟩
    · rw [hy2] at hx2
      cases hx2
      obtain ⟨f, Rf, rfl, hw, hRf⟩ := goods y (List.mem_of_getElem? hy2)
      refine ⟨_, rfl, _, rfl, fun o ho nc => ⟨f, Rf, rfl, hw, fun Q' E' hQ hE => ?_⟩⟩
      refine hRf H8 k8 o ho nc Q' E' fun y' H' k' => hQ y' H' fun st => ⟨rfl, _, rfl, q2 _ k'.back⟩
    have e0 : out = [] := by
      rw [List.filter_eq_nil_iff.mpr (fun _ _ => by simp)] at hdn
      exact hdn.nil_eq
    subst e0
    refine ⟨Nat.zero_le _, fun q fq => ⟨.list [], .list [], .lst (SqL.of ((Kp.new (S := N0) fq).obj hout ntl nn)) .nil, .lst (SqL.of upd_same) .nil, by decide, by decide, k _⟩⟩
end
end Fc
set_option maxHeartbeats 0
namespace Fc
open PySem PySem.Spec PyProof.Rows L2
theorem facts {P : Program} {w : World} {K : PySem.W.Frag} {h : Heap} {mg : Str → Option Value} (X : K.In h) (G : h.Ns mainGlobals mg) (c0 : SaysY fas fns tfs exE inis w h K) (hfile : P.main.file = fileL) (htop : (P.main.scope.names.lookup ("super" : Str)).isSome = false) :
    ∃ (fd : FuncData) (cs : List (Addr × Addr)) (sp : Sp), mg "law" = some (.ref (He.ga K "law")) ∧ (∀ p ∈ cs, h.get? p.2 = some { cls := .none, data := .fields #[] }) ∧ (∀ p ∈ cs, K.lookup p.2 = none) ∧ (∀ p ∈ cs, PySem.W.CodeHd h p.1 p.2) ∧ (∀ (s : Shared) (u : Value), BindsTo s fd ⟨[u], []⟩ [("_law_script", u)]) ∧
      (∀ (H : Hp) (a : Addr) (ns : List Int), ns.length ≤ 63 → (∀ z ∈ ns, Builtin.Int.intBits z ≤ 1048576) → (∀ p ∈ cs, H p.2 = some (.tbl #[])) → SqL K H a (ns.map V.int) → sp [.ref a] H (fun v _ => v = .bl true) fun _ _ _ => False) ∧
      ∀ base : Heap, K.In base → base.Ns mainGlobals mg → (∀ p ∈ cs, LamX.TabB base mg p.1 p.2) → FnOk P w K mg base CX0 11 (He.ga K "law") fd ["_law_script"] sp := by
  have c := c0.x
  have cd := c.t.d
  obtain ⟨more1, more2⟩ := He.ba (show (exC K && (inis.all (iniB K fileL) && capsB K)) = true from c.more)
  obtain ⟨more3, more4⟩ := He.ba more2
  have g_comb : mg "combinations" = some (.type "itertools.combinations") := PySem.W.mg_of X G (He.eqO_ok more1)
  have g__law_begun := He.glo_ok X G (cd.fact 0 (f := .glo "_law_begun") rfl)
  have g__law_take := He.glo_ok X G (cd.fact 1 (f := .glo "_law_take") rfl)
  have g__law_marks := He.glo_ok X G (cd.fact 2 (f := .glo "_law_marks") rfl)
  have g__law_rule := He.glo_ok X G (cd.fact 3 (f := .glo "_law_rule") rfl)
  have g__law_bad := He.glo_ok X G (cd.fact 4 (f := .glo "_law_bad") rfl)
  have g_is_small := He.glo_ok X G (cd.fact 5 (f := .glo "is_small") rfl)
  have g_is_word := He.glo_ok X G (cd.fact 6 (f := .glo "is_word") rfl)
  have g_is_marks := He.glo_ok X G (cd.fact 7 (f := .glo "is_marks") rfl)
  have g_is_row := He.glo_ok X G (cd.fact 8 (f := .glo "is_row") rfl)
  have g_check_rule := He.glo_ok X G (cd.fact 9 (f := .glo "check_rule") rfl)
  have g_heads_of := He.glo_ok X G (cd.fact 10 (f := .glo "heads_of") rfl)
  have g_main_of := He.glo_ok X G (cd.fact 11 (f := .glo "main_of") rfl)
  have g_right := He.glo_ok X G (cd.fact 12 (f := .glo "right") rfl)
  have g_found_by := He.glo_ok X G (cd.fact 13 (f := .glo "found_by") rfl)
  have g_slips := He.glo_ok X G (cd.fact 14 (f := .glo "slips") rfl)
  have g_search := He.glo_ok X G (cd.fact 15 (f := .glo "search") rfl)
  have g_amiss := He.glo_ok X G (cd.fact 16 (f := .glo "amiss") rfl)
  have g_mended := He.glo_ok X G (cd.fact 17 (f := .glo "mended") rfl)
  have g_done := He.glo_ok X G (cd.fact 18 (f := .glo "done") rfl)
  have g_parting := He.glo_ok X G (cd.fact 19 (f := .glo "parting") rfl)
  have g_alike := He.glo_ok X G (cd.fact 20 (f := .glo "alike") rfl)
  have g_written := He.glo_ok X G (cd.fact 21 (f := .glo "written") rfl)
  have g_needed := He.glo_ok X G (cd.fact 22 (f := .glo "needed") rfl)
  have g_enough := He.glo_ok X G (cd.fact 23 (f := .glo "enough") rfl)
  have g_fewest := He.glo_ok X G (cd.fact 24 (f := .glo "fewest") rfl)
  have g__law_works := He.glo_ok X G (cd.fact 25 (f := .glo "_law_works") rfl)
  have g__law_class := He.glo_ok X G (cd.fact 26 (f := .glo "_law_class") rfl)
  have g__law_refused := He.glo_ok X G (cd.fact 27 (f := .glo "_law_refused") rfl)
  have g__law_alike := He.glo_ok X G (cd.fact 28 (f := .glo "_law_alike") rfl)
  have g_check_marks := He.glo_ok X G (cd.fact 29 (f := .glo "check_marks") rfl)
  have g_holds := He.glo_ok X G (cd.fact 30 (f := .glo "holds") rfl)
  have g_heads_in_turn := He.glo_ok X G (cd.fact 31 (f := .glo "heads_in_turn") rfl)
  have g_rising_heads := He.glo_ok X G (cd.fact 32 (f := .glo "rising_heads") rfl)
  have g_check_papers := He.glo_ok X G (cd.fact 33 (f := .glo "check_papers") rfl)
  have g_rule_heads := He.glo_ok X G (cd.fact 34 (f := .glo "rule_heads") rfl)
  have g_main_head := He.glo_ok X G (cd.fact 35 (f := .glo "main_head") rfl)
  have g_written_row := He.glo_ok X G (cd.fact 36 (f := .glo "written_row") rfl)
  have g_named_marks := He.glo_ok X G (cd.fact 37 (f := .glo "named_marks") rfl)
  have g_told_of := He.glo_ok X G (cd.fact 38 (f := .glo "told_of") rfl)
  have g_law := He.glo_ok X G (cd.fact 39 (f := .glo "law") rfl)
  have g_BadCabinet := He.glo_ok X G (cd.fact 40 (f := .glo "BadCabinet") rfl)
  have g_BadMarks := He.glo_ok X G (cd.fact 41 (f := .glo "BadMarks") rfl)
  have g_BadPapers := He.glo_ok X G (cd.fact 42 (f := .glo "BadPapers") rfl)
  have g_BadRule := He.glo_ok X G (cd.fact 43 (f := .glo "BadRule") rfl)
  have g_BadText := He.glo_ok X G (cd.fact 44 (f := .glo "BadText") rfl)
  have g_FileError := He.glo_ok X G (cd.fact 45 (f := .glo "FileError") rfl)
  have g_NoHead := He.glo_ok X G (cd.fact 46 (f := .glo "NoHead") rfl)
  have g_NoPaper := He.glo_ok X G (cd.fact 47 (f := .glo "NoPaper") rfl)
  have g_NotFound := He.glo_ok X G (cd.fact 48 (f := .glo "NotFound") rfl)
  have g_MARKS := He.str_ok X G (cd.fact 49 (f := .str "MARKS" "abcdefgh") rfl)
  have g_REST := He.str_ok X G (cd.fact 50 (f := .str "REST" "rest") rfl)
  have g_LETTERS := He.str_ok X G (cd.fact 51 (f := .str "LETTERS" "abcdefghijklmnopqrstuvwxyz") rfl)
  have g_NO_MARKS := He.str_ok X G (cd.fact 52 (f := .str "NO_MARKS" "-") rfl)
  have g_LONGEST_WORD := He.int_ok X G (cd.fact 53 (f := .int "LONGEST_WORD" 6) rfl)
  have g_MOST_ROWS := He.int_ok X G (cd.fact 54 (f := .int "MOST_ROWS" 12) rfl)
  have g_MOST_HEADS := He.int_ok X G (cd.fact 55 (f := .int "MOST_HEADS" 6) rfl)
  have g_MOST_PAPERS := He.int_ok X G (cd.fact 56 (f := .int "MOST_PAPERS" 12) rfl)
  have n_ValueError := He.free_ok X G (cd.fact 57 (f := .free "ValueError") rfl)
  have n_all := He.free_ok X G (cd.fact 58 (f := .free "all") rfl)
  have n_any := He.free_ok X G (cd.fact 59 (f := .free "any") rfl)
  have n_bool := He.free_ok X G (cd.fact 60 (f := .free "bool") rfl)
  have n_enumerate := He.free_ok X G (cd.fact 61 (f := .free "enumerate") rfl)
  have n_int := He.free_ok X G (cd.fact 62 (f := .free "int") rfl)
  have n_isinstance := He.free_ok X G (cd.fact 63 (f := .free "isinstance") rfl)
  have n_len := He.free_ok X G (cd.fact 64 (f := .free "len") rfl)
  have n_list := He.free_ok X G (cd.fact 65 (f := .free "list") rfl)
  have n_range := He.free_ok X G (cd.fact 66 (f := .free "range") rfl)
  have n_set := He.free_ok X G (cd.fact 67 (f := .free "set") rfl)
  have n_sorted := He.free_ok X G (cd.fact 68 (f := .free "sorted") rfl)
  have n_str := He.free_ok X G (cd.fact 69 (f := .free "str") rfl)
  have n_tuple := He.free_ok X G (cd.fact 70 (f := .free "tuple") rfl)
  have n_super := He.free_ok X G (cd.fact 71 (f := .free "super") rfl)
  have r_BadRule : ∀ base : Heap, RefC P w K mg base "BadRule" "number" := fun base => refC_of (d := ini_BadRule) it_BadRule (by rw [hfile]; exact List.all_eq_true.mp more3 ini_BadRule (by simp [inis])) (Option.some.inj (show some (iniW K "BadRule") = some ini_BadRule.val from congrArg (fun l : List FnI => l[0]?) c0.i)) g_BadRule n_super htop
  obtain ⟨more5, nodT⟩ := He.ba more4
  have cap0 := more5
  have q_BadRule : CaughtC K 0 "BadRule" "number" := capB_ok cap0
  have D__law_begun : DefAt K mg "_law_begun" sBegun := ⟨cd.def_ 0 (d := dd 82 "_law_begun") rfl, g__law_begun⟩
  have D__law_take : DefAt K mg "_law_take" sTake := ⟨cd.def_ 1 (d := dd 83 "_law_take") rfl, g__law_take⟩
  have D__law_marks : DefAt K mg "_law_marks" sMarksL := ⟨cd.def_ 2 (d := dd 86 "_law_marks") rfl, g__law_marks⟩
  have D__law_rule : DefAt K mg "_law_rule" sRuleL := ⟨cd.def_ 3 (d := dd 87 "_law_rule") rfl, g__law_rule⟩
  have D__law_bad : DefAt K mg "_law_bad" sBadL := ⟨cd.def_ 4 (d := dd 90 "_law_bad") rfl, g__law_bad⟩
  have D_is_small : DefAt K mg "is_small" sIsSmall := ⟨cd.def_ 5 (d := dd 26 "is_small") rfl, g_is_small⟩
  have D_is_word : DefAt K mg "is_word" sIsWord := ⟨cd.def_ 6 (d := dd 27 "is_word") rfl, g_is_word⟩
  have D_is_marks : DefAt K mg "is_marks" sIsMarks := ⟨cd.def_ 7 (d := dd 28 "is_marks") rfl, g_is_marks⟩
  have D_is_row : DefAt K mg "is_row" sIsRow := ⟨cd.def_ 8 (d := dd 29 "is_row") rfl, g_is_row⟩
  have D_check_rule : DefAt K mg "check_rule" sCheckRule := ⟨cd.def_ 9 (d := dd 31 "check_rule") rfl, g_check_rule⟩
  have D_heads_of : DefAt K mg "heads_of" sHeadsOf := ⟨cd.def_ 10 (d := dd 37 "heads_of") rfl, g_heads_of⟩
  have D_main_of : DefAt K mg "main_of" sMainOfX := ⟨cd.def_ 11 (d := dd 38 "main_of") rfl, g_main_of⟩
  have D_right : DefAt K mg "right" sRight := ⟨cd.def_ 12 (d := dd 49 "right") rfl, g_right⟩
  have D_found_by : DefAt K mg "found_by" sFoundByX := ⟨cd.def_ 13 (d := dd 50 "found_by") rfl, g_found_by⟩
  have D_slips : DefAt K mg "slips" sSlipsX := ⟨cd.def_ 14 (d := dd 58 "slips") rfl, g_slips⟩
  have D_search : DefAt K mg "search" sSearchX := ⟨cd.def_ 15 (d := dd 59 "search") rfl, g_search⟩
  have D_amiss : DefAt K mg "amiss" sAmissX := ⟨cd.def_ 16 (d := dd 69 "amiss") rfl, g_amiss⟩
  have D_mended : DefAt K mg "mended" sMendedX := ⟨cd.def_ 17 (d := dd 70 "mended") rfl, g_mended⟩
  have D_done : DefAt K mg "done" sDoneX := ⟨cd.def_ 18 (d := dd 71 "done") rfl, g_done⟩
  have D_parting : DefAt K mg "parting" sParting := ⟨cd.def_ 19 (d := dd 54 "parting") rfl, g_parting⟩
  have D_alike : DefAt K mg "alike" sAlikeP := ⟨cd.def_ 20 (d := dd 55 "alike") rfl, g_alike⟩
  have D_written : DefAt K mg "written" sWritten := ⟨cd.def_ 21 (d := dd 79 "written") rfl, g_written⟩
  have D_needed : DefAt K mg "needed" sNeededX := ⟨cd.def_ 22 (d := dd 40 "needed") rfl, g_needed⟩
  have D_enough : DefAt K mg "enough" sEnoughX := ⟨cd.def_ 23 (d := dd 42 "enough") rfl, g_enough⟩
  have D_fewest : DefAt K mg "fewest" sFewestX := ⟨cd.def_ 24 (d := dd 43 "fewest") rfl, g_fewest⟩
  have D__law_works : DefAt K mg "_law_works" sWorksX := ⟨cd.def_ 25 (d := dd 91 "_law_works") rfl, g__law_works⟩
  have D__law_class : DefAt K mg "_law_class" sClass := ⟨cd.def_ 26 (d := dd 85 "_law_class") rfl, g__law_class⟩
  have D__law_refused : DefAt K mg "_law_refused" sRefused := ⟨cd.def_ 27 (d := dd 89 "_law_refused") rfl, g__law_refused⟩
  have D__law_alike : DefAt K mg "_law_alike" sAlike := ⟨cd.def_ 28 (d := dd 84 "_law_alike") rfl, g__law_alike⟩
  have D_check_marks : DefAt K mg "check_marks" sCheckMarks := ⟨cd.def_ 29 (d := dd 34 "check_marks") rfl, g_check_marks⟩
  have D_holds : DefAt K mg "holds" sHolds := ⟨cd.def_ 30 (d := dd 14 "holds") rfl, g_holds⟩
  have D_heads_in_turn : DefAt K mg "heads_in_turn" sTurn := ⟨cd.def_ 31 (d := dd 15 "heads_in_turn") rfl, g_heads_in_turn⟩
  have D_rising_heads : DefAt K mg "rising_heads" sRising := ⟨cd.def_ 32 (d := dd 16 "rising_heads") rfl, g_rising_heads⟩
  have D_check_papers : DefAt K mg "check_papers" sCheckPapers := ⟨cd.def_ 33 (d := dd 32 "check_papers") rfl, g_check_papers⟩
  have D_rule_heads : DefAt K mg "rule_heads" sRuleHeads := ⟨cd.def_ 34 (d := dd 18 "rule_heads") rfl, g_rule_heads⟩
  have D_main_head : DefAt K mg "main_head" sMain := ⟨cd.def_ 35 (d := dd 17 "main_head") rfl, g_main_head⟩
  have D_written_row : DefAt K mg "written_row" sWrittenRow := ⟨cd.def_ 36 (d := dd 80 "written_row") rfl, g_written_row⟩
  have D_named_marks : DefAt K mg "named_marks" sNamed := ⟨cd.def_ 37 (d := dd 19 "named_marks") rfl, g_named_marks⟩
  have D_told_of : DefAt K mg "told_of" sToldOf := ⟨cd.def_ 38 (d := dd 56 "told_of") rfl, g_told_of⟩
  have D_law : DefAt K mg "law" sLaw := ⟨cd.def_ 39 (d := dd 92 "law") rfl, g_law⟩
  obtain ⟨fd, F⟩ := D_law.fn
  have b := FunD.bindsA (ps := ["_law_script"]) F fun _ _ _ _ _ _ us hl => match us, hl with | [_], _ => rfl
  refine ⟨fd, tfs.map (He.cT K), spLaw01 K ((tfsG.map (He.cT K)).map (·.2)) (He.cT K ("law", none)).2 (He.cT K ("_law_works", none)).2, g_law, fun p hp => ?_, fun p hp => ?_, fun p hp => ?_, fun s u => b s [u] rfl, fun H a ns hl _ ht hS => ⟨a, ns, rfl, hS, hl, fun P hP => ?_, ht _ (List.mem_map.mpr ⟨("law", none), by simp [tfs], rfl⟩), ht _ (List.mem_map.mpr ⟨("_law_works", none), by simp [tfs], rfl⟩), fun _ => rfl⟩, fun base hK hns tb => ?_⟩
  · obtain ⟨q, hq, e⟩ := List.mem_map.mp hp
    rw [← e]
    exact c.empty q hq
  · obtain ⟨q, hq, e⟩ := List.mem_map.mp hp
    rw [← e]
    exact c.out q hq
  · obtain ⟨q, hq, e⟩ := List.mem_map.mp hp
    rw [← e]
    exact PySem.W.codeHd_of_K X (c.hd q hq)
  · obtain ⟨q, hq, e⟩ := List.mem_map.mp hP
    rw [← e]
    obtain ⟨q0, hq0, e0⟩ := List.mem_map.mp hq
    exact ⟨#[], ht q (List.mem_map.mpr ⟨q0, by rw [show tfs = tfsG ++ tfsL from rfl]; exact List.mem_append_left _ hq0, e0⟩), trivial⟩
  · have inT : ∀ q ∈ tfsG, (He.cT K q).2 ∈ (tfsG.map (He.cT K)).map (·.2) := fun q hq => List.mem_map.mpr ⟨_, List.mem_map.mpr ⟨q, hq, rfl⟩, rfl⟩
    have tBa : ∀ q ∈ tfs, GxR.TabB base mg (He.cT K q).1 (He.cT K q).2 := fun q hq => have z := tb _ (List.mem_map.mpr ⟨q, hq, rfl⟩); ⟨z.code, z.bm, z.gP⟩
    have tB : ∀ q ∈ tfsG, GxR.TabB base mg (He.cT K q).1 (He.cT K q).2 := fun q hq => tBa q (by rw [show tfs = tfsG ++ tfsL from rfl]; exact List.mem_append_left _ hq)
    have tBl : ∀ q ∈ tfsL, GxR.TabB base mg (He.cT K q).1 (He.cT K q).2 := fun q hq => tBa q (by rw [show tfs = tfsG ++ tfsL from rfl]; exact List.mem_append_right _ hq)
    have neT : ∀ q ∈ tfsL, (He.cT K q).2 ∉ (tfsG.map (He.cT K)).map (·.2) := fun q hq hm => by
      have nd := of_decide_eq_true nodT
      rw [List.map_append] at nd
      obtain ⟨p, hp, e⟩ := List.mem_map.mp hm
      obtain ⟨q0, hq0, e0⟩ := List.mem_map.mp hp
      exact (List.nodup_append.mp nd).2.2 _ (List.mem_map.mpr ⟨q0, hq0, by rw [e0]; exact e⟩) _ (List.mem_map.mpr ⟨q, hq, rfl⟩) rfl
    have neL : (He.cT K (("law" : Str), none)).2 ≠ (He.cT K (("_law_works" : Str), none)).2 := fun e => by
      have nd := of_decide_eq_true nodT
      rw [List.map_append] at nd
      have nd2 := (List.nodup_append.mp nd).2.1
      simp [tfsL, e] at nd2
    have m_holds : ((("holds" : Str), none) : He.Defn) ∈ tfsG := by simp [tfsG]
    have m_is_small : ((("is_small" : Str), none) : He.Defn) ∈ tfsG := by simp [tfsG]
    have m_is_row : ((("is_row" : Str), none) : He.Defn) ∈ tfsG := by simp [tfsG]
    have m__law_works : ((("_law_works" : Str), none) : He.Defn) ∈ tfsL := by simp [tfsL]
    have m_law : ((("law" : Str), none) : He.Defn) ∈ tfsL := by simp [tfsL]
    generalize (tfsG.map (He.cT K)).map (·.2) = T at inT neT
    have C__law_begun := ok_begun (P := P) (w := w) (base := base) D__law_begun n_len n_list n_int
    have C__law_take := ok_take (P := P) (w := w) (base := base) D__law_take
    have C__law_marks := ok_marksL D__law_marks C__law_take
    have C__law_rule := ok_ruleL D__law_rule C__law_take C__law_marks n_len n_range
    have C__law_bad := ok_badL D__law_bad C__law_take n_len
    have C_is_small := ok_isSmall (P := P) (w := w) (T := T) D_is_small (tB _ m_is_small) (inT _ m_is_small) n_all g_LETTERS
    have C_is_word := ok_isWord D_is_word C_is_small n_len g_LONGEST_WORD
    have C_is_marks := ok_isMarks (P := P) (w := w) (base := base) D_is_marks g_MARKS
    have C_is_row := ok_isRow D_is_row (tB _ m_is_row) (inT _ m_is_row) C_is_word C_is_marks n_any g_REST
    have C_check_ruleX := ok_checkX D_check_rule C_is_row (r_BadRule _) n_set n_enumerate n_len g_MOST_ROWS g_MOST_HEADS
    have C_heads_ofX := ok_sHeadsOfX D_heads_of C_check_ruleX
    have C_main_ofX := ok_sMainOfX D_main_of C_check_ruleX
    have C_rightX := ok_sRightX D_right C_check_ruleX
    have C_found_byX := ok_sFoundByX D_found_by C_check_ruleX
    have C_slipsX := ok_sSlipsX D_slips C_check_ruleX
    have C_searchX := ok_sSearchX D_search C_check_ruleX
    have C_amissX := ok_sAmissX D_amiss C_check_ruleX
    have C_mendedX := ok_sMendedX D_mended C_amissX
    have C_doneX := ok_sDoneX D_done C_check_ruleX
    have C_partingX := ok_sPartingX D_parting C_check_ruleX
    have C_alikeX := ok_sAlikePX D_alike C_partingX
    have C_writtenX := ok_sWrittenX D_written C_check_ruleX
    have C_neededX := ok_sNeededX D_needed C_check_ruleX
    have C_enoughX := ok_sEnoughX D_enough C_neededX
    have C_fewestX := ok_sFewestX D_fewest C_neededX
    have C__law_works := ok_worksX D__law_works C_heads_ofX C_main_ofX C_rightX C_found_byX C_slipsX C_searchX C_amissX C_mendedX C_doneX C_partingX C_alikeX C_writtenX C_neededX C_enoughX C_fewestX (tBl _ m__law_works)
    have C__law_class := ok_class (P := P) (w := w) (base := base) D__law_class g_BadRule g_BadPapers g_BadCabinet g_BadMarks g_NoPaper g_NoHead g_NotFound g_BadText n_isinstance n_ValueError
    have C__law_refused := ok_refused D__law_refused C__law_class q_BadRule g_FileError
    have C__law_alike := ok_alike (P := P) (w := w) (base := base) D__law_alike n_isinstance n_bool n_int n_str n_tuple n_list n_len n_range 3
    have C_check_rule := ok_checkRule D_check_rule C_is_row n_set n_enumerate n_len g_MOST_ROWS g_MOST_HEADS
    have C_check_marks := ok_checkMarks D_check_marks C_is_marks
    have C_holds := ok_holds (P := P) (w := w) (T := T) D_holds (tB _ m_holds) (inT _ m_holds) n_all n_any
    have C_heads_in_turn := ok_turn D_heads_in_turn C_holds g_REST
    have C_rising_heads := ok_rising D_rising_heads C_heads_in_turn n_sorted n_set
    have C_heads_of := ok_headsOf D_heads_of C_check_rule C_check_marks C_rising_heads
    have C_check_papers := ok_checkPapers D_check_papers C_is_word C_is_marks n_set n_enumerate g_MOST_PAPERS
    have C_rule_heads := ok_ruleHeads (P := P) (w := w) (base := base) D_rule_heads n_sorted n_set g_REST
    have C_main_head := ok_main D_main_head C_heads_in_turn
    have C_right := ok_right D_right C_check_rule C_check_papers C_rule_heads C_main_head n_sorted n_list
    have C_written_row := ok_writtenRow (P := P) (w := w) (base := base) D_written_row g_NO_MARKS
    have C_written := ok_written D_written C_check_rule C_written_row
    have C_named_marks := ok_named (P := P) (w := w) (base := base) D_named_marks g_MARKS
    have C_told_of := ok_toldOf D_told_of C_main_head C_rising_heads
    have C_parting := ok_parting D_parting C_check_rule C_named_marks C_told_of n_range n_len g_comb
    have C_alike := ok_alikeP D_alike C_parting
    exact ok_law F C__law_begun C__law_rule C__law_bad C__law_works C__law_refused C__law_alike C_heads_of C_right C_written C_alike (tBl _ m_law) (neT _ m_law) (neT _ m__law_works) neL
end Fc
open PySem PySem.W PySem.Calls PyProof.Rows
theorem PySem.Challenge.cw_filecross_k01_rules_refused_holds : PySem.Challenge.rw_filecross_k01_rules_refused.Holds := by
  w_on; o_law
  refine HandSHeadRun.head_imp (r := OpenLaw.row PySem.Challenge.rw_filecross_k01_rules_refused) (q := view (OpenLaw.row PySem.Challenge.rw_filecross_k01_rules_refused).prog [0, 92]) (H := Fc.hk) (ob := Fc.ob) (M := 20000) (loose := Fc.loose) (d := HandSHeadRun.topDef (OpenLaw.row PySem.Challenge.rw_filecross_k01_rules_refused).prog 92) (kwd := []) Fc.ob_eq
    Fc.run (by kernel_rfl) (by kernel_rfl) (by kernel_rfl) (by rfl) (by first | assumption | decide +kernel) (by decide +kernel) ⟨rfl, rfl, rfl, rfl, rfl, by decide +kernel⟩ ?hw ?hc
  case hw => w_witness2
  case hc =>
    refine LamX.walk_ofTsE (l := PySem.Challenge.rw_filecross_k01_rules_refused) (n := 63) (k := 11) (x := "_law_script") (CX := fun _ => L2.CX0) rfl (by decide) (by kernel_rfl) ⟨rfl, by decide, by decide⟩ ?F (fun _ _ _ _ _ z => z)
    intro w mg fa h Y G hmg0
    obtain ⟨K, KX, c⟩ := Y
    have hmg : mg ("law" : PySem.Str) = some (.ref fa) := by
      have e : (HandSHeadRun.topDef (OpenLaw.row PySem.Challenge.rw_filecross_k01_rules_refused).prog 92).name = ("law" : PySem.Str) := by kernel_rfl
      rw [← e]
      exact hmg0
    obtain ⟨fd, cs, sp, e, r⟩ := Fc.facts (P := (PySem.Challenge.rw_filecross_k01_rules_refused).prog) (w := w) KX G c rfl (by kernel_rfl)
    rw [hmg] at e
    cases e
    exact ⟨K, KX, fd, cs, sp, r⟩
