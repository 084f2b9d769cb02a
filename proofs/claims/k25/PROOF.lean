import PyProof.Rows.All
import Wide.All
import OpenK.AllK
import Wide.FinOn
import HandS.ForMost
import HandS.IsInst
import HandS.TupAny
import HandS.Flow
import HandS.Style
import HandS.Zip
import HandS.Evl
import PyProof.ReprRoads
import PyProof.FactsAll.dict
import PyProof.EqKinds
import PyProof.P3In
import HandS.Strs
import HandS.More
import PyProof.SumAny
import HandS.TupMul
import HandS.CallLocal
import HandS.Star
import HandS.ReplaceLit
import PyProof.Rows.StrStrike
import PyProof.Rows.StrSplitJoin
import HandS.ForExc
import HandS.WordsExc
import HandS.ExcField
import HandS.ExcIs
import HandS.ExcInit
import KE.KExcIs
import HandS.Dict
import HandS.Deep
import PyProof.FitsInt
import HandS.OwnEq
import HandS.DictComp
import HandS.Defaults
import PyProof.InstNe
import KE.KEqNest
import HandS.Conv
import HandS.ExcOwn
import HandS.HeadHook2
import HandS.MakeKwOnly
import HandS.DictTup
import KE.KDictCopyH
import PyProof.Rows.TupDisplay
import HandS.TupSets
import PySem.Challenge.RW_oncewire_k25_moves
set_option Elab.async false
set_option linter.all false
set_option maxRecDepth 100000
set_option maxHeartbeats 4000000
/-! What all our laws over drawn data share: defs and their calls, frames of the heap, the pen that draws, data of any shape. -/
namespace Ow
open PySem PySem.Spec PyProof.Rows L2

/-! ### a def and its calls -/
structure CallOk (P : Program) (w : World) (K : PySem.W.Frag) (mg : Str → Option Value) (base : Heap) (k : Nat) (x : Str) (ps : List Str) (sp : Sp) : Prop where
  ex : ∃ (f : Addr) (fd : FuncData), FnOk P w K mg base CX0 k f fd ps sp ∧ mg x = some (.ref f) ∧ PySem.W.keepIn K (.ref f) = true ∧ Binds K fd ps []
structure DefAt (K : PySem.W.Frag) (mg : Str → Option Value) (x : Str) (st : Stmt) (ps : List Str) : Prop where
  ex : ∃ (f : Addr) (fd : FuncData), Fun K x x st f fd ∧ mg x = some (.ref f) ∧ Binds K fd ps []
section
variable {X : Cx} {k j : Nat} {x : Str} {ps : List Str} {sp : Sp} {p pos : Pos} {e : Expr} {es : List Expr} {t : TA}
theorem pe_callOk (C : CallOk X.prog X.w X.K X.mg X.base k x ps sp) (hr : Room j X.A) (hj : k ≤ j) (hg : Gl X x) (ha : PA X (e :: es) t)
    (hdb : (x == ("__debug__" : Str)) = false := by decide) (he : starEach (e :: es) X.env = (false, eval e X.env) :: starEach es X.env := by rfl)
    (hpl : (backTo pos (starEach es X.env)).any (·.1) = false := by rfl) : PE X (.Call (.Name x p) (e :: es) [] pos) (tCall sp [] E0 t) := by
  obtain ⟨f, fd, F, hm, hk, hb⟩ := C.ex
  exact pe_call F (hr.mono hj) hg hm hk hb .nil pass0 ha hdb he hpl
end
section
variable {P : Program} {w : World} {K : PySem.W.Frag} {mg : Str → Option Value} {base : Heap} {x : Str} {st : Stmt} {N ps : List Str} {k j : Nat} {sp sp' : Sp}
theorem DefAt.ok (D : DefAt K mg x st ps) (S : FnScope N ps (defScope st)) (len : ∀ vs H Q E, sp vs H Q E → vs.length = ps.length)
    (hbody : ∀ (f : Addr) (cdv : Value) (A : Around) (outer : List Env) (s : Shared) (H : Hp) (vs : List V) (Q : VK) (E : XK), Room k (A.deeper (envOfC x (defScope st) s.heap.objs.size f cdv)) → sp vs H Q E →
      ∃ t, PSs (cxOf CX0 P w K mg base N x (defScope st) f cdv A outer s H E).nox (defBody st) t ∧ t { nx := fun _ H' => Q .non H', rt := Q } (start N vs) H) : CallOk P w K mg base (k + 1) x ps sp := by
  obtain ⟨f, fd, F, hm, hb⟩ := D.ex
  exact ⟨f, fd, F.ok S len fun cdv A outer s H vs Q E hr h => hbody f cdv A outer s H vs Q E hr h, hm, F.kp, hb⟩
/-- nothing is promised -/
theorem DefAt.none (D : DefAt K mg x st ps) (S : FnScope N ps (defScope st)) : CallOk P w K mg base 1 x ps (fun _ _ _ _ => False) :=
  D.ok S (fun _ _ _ _ h => h.elim) fun _ _ _ _ _ _ _ _ _ _ h => h.elim
theorem CallOk.mono (C : CallOk P w K mg base j x ps sp) (h : j ≤ k) : CallOk P w K mg base k x ps sp := by
  obtain ⟨f, fd, F, r⟩ := C.ex
  exact ⟨f, fd, F.mono h, r⟩
theorem CallOk.imp (C : CallOk P w K mg base k x ps sp) (h : ∀ vs H Q E, sp' vs H Q E → sp vs H Q E) : CallOk P w K mg base k x ps sp' := by
  obtain ⟨f, fd, F, r⟩ := C.ex
  exact ⟨f, fd, F.imp h, r⟩
end

/-! ### frames: all but the object at p is as it was -/
def Kp (p : Addr) (H H' : Hp) : Prop := ∀ b o, H b = some o → b ≠ p → H' b = some o
section
variable {p q : Addr} {H H1 H2 : Hp} {o : HO}
theorem Kp.refl : Kp p H H := fun _ _ h _ => h
theorem Kp.trans (a : Kp p H H1) (b : Kp p H1 H2) : Kp p H H2 := fun c o h n => b c o (a c o h n) n
theorem Kp.of (s : Same H H1) : Kp p H H1 := fun c o h _ => s c o h
theorem Kp.new (h : H q = none) : Kp p H (upd H q o) := fun c u e _ => by
  rw [upd_ne (ne_of_none e h)]
  exact e
theorem Kp.self : Kp p H (upd H p o) := fun c u e n => by
  rw [upd_ne n]
  exact e
/-- an object that came later is changed -/
theorem Kp.mut (a : Kp p H H1) (h : H q = none) : Kp p H (upd H1 q o) := fun c u e n => by
  rw [upd_ne (ne_of_none e h)]
  exact a c u e n
theorem Kp.put (a : Kp p H H1) : Kp p H (upd H1 p o) := fun c u e n => by
  rw [upd_ne n]
  exact a c u e n
theorem Kp.lay (a : Kp p H H1) (h : H1 q = none) : Kp p H (upd H1 q o) := a.trans (Kp.new h)
theorem Kp.none (a : Kp p H H1) (h : H1 q = none) (n : q ≠ p) : H q = none := by
  cases e : H q with
  | none => rfl
  | some u =>
    rw [a q u e n] at h
    cases h
theorem same_new (h : H q = none) : Same H (upd H q o) := fun c u e => by
  rw [upd_ne (ne_of_none e h)]
  exact e
theorem Same.lay (a : Same H H1) (h : H1 q = none) : Same H (upd H1 q o) := a.trans (same_new h)
theorem Same.mut (a : Same H H1) (h : H q = none) : Same H (upd H1 q o) := fun c u e => by
  rw [upd_ne (ne_of_none e h)]
  exact a c u e
end

/-! ### sums of any kind -/
abbrev rAddAny (K : PySem.W.Frag) : R2 := fun x y H Q => rI0 (fun i j => .int (i + j)) x y H Q ∨ ((∃ i j, x = .str i ∧ y = .str j ∧ i.length + j.length ≤ sizeLine ∧ Q (.str (i ++ j)) H) ∨ (rCatA K x y H Q ∨ rCat x y H Q))
theorem opAdd {X : Cx} : OpR X (binaryOp .Add) (rAddAny X.K) := op_add.or (op_add_str.or (op_catA.or op_cat))

/-! ### the pen -/
def Pen (H : Hp) (p c : Addr) : Prop := (∃ z r, H p = some (.lst [.ref c, .int z, .int r])) ∧ ∃ cs : List Int, H c = some (.lst (cs.map V.int)) ∧ cs.length ≤ 63
section
variable {H H' : Hp} {p c q : Addr} {o : HO}
theorem Pen.ne (h : Pen H p c) : c ≠ p := by
  obtain ⟨⟨z, r, h1⟩, cs, h2, _⟩ := h
  rintro rfl
  rw [h1] at h2
  cases cs with
  | nil => cases h2
  | cons a t =>
    have e : [V.ref c, .int z, .int r] = (a :: t).map V.int := by
      injection h2 with h2
      injection h2
    rw [List.map_cons] at e
    injection e with e _
    cases e
theorem Pen.keep (h : Pen H p c) (n1 : q ≠ p) (n2 : q ≠ c) : Pen (upd H q o) p c := by
  obtain ⟨⟨z, r, h1⟩, cs, h2, hl⟩ := h
  exact ⟨⟨z, r, by rw [upd_ne n1.symm]; exact h1⟩, cs, by rw [upd_ne n2.symm]; exact h2, hl⟩
theorem Pen.neP (h : Pen H p c) (hq : H q = none) : q ≠ p := by
  obtain ⟨⟨z, r, h1⟩, _⟩ := h
  exact (ne_of_none h1 hq).symm
theorem Pen.neC (h : Pen H p c) (hq : H q = none) : q ≠ c := by
  obtain ⟨_, cs, h2, _⟩ := h
  exact (ne_of_none h2 hq).symm
theorem Pen.new (h : Pen H p c) (hq : H q = none) : Pen (upd H q o) p c := h.keep (h.neP hq) (h.neC hq)
theorem Pen.put {z r : Int} (h : Pen H p c) : Pen (upd H p (.lst [.ref c, .int z, .int r])) p c := by
  have n := h.ne
  obtain ⟨_, cs, h2, hl⟩ := h
  exact ⟨⟨z, r, upd_same⟩, cs, by rw [upd_ne n]; exact h2, hl⟩
theorem Pen.same (h : Pen H p c) (s : Same H H') : Pen H' p c := by
  obtain ⟨⟨z, r, h1⟩, cs, h2, hl⟩ := h
  exact ⟨⟨z, r, s _ _ h1⟩, cs, s _ _ h2, hl⟩
end

/-! ### data: None, truths, numbers, texts, tuples, lists and dicts (none of some) -/
def kD : Key → PyData
  | .inl i => .int i
  | .inr x => .str x
mutual
inductive Da (K : PySem.W.Frag) (N : Addr → Prop) (H : Hp) : V → PyData → Prop
  | non : Da K N H .non .none
  | bl (b : Bool) : Da K N H (.bl b) (.bool b)
  | int (i : Int) : Da K N H (.int i) (.int i)
  | str (x : Str) : Da K N H (.str x) (.str x)
  | lst {a : Addr} {xs : List V} {ds : List PyData} : H a = some (.lst xs) → ¬ N a → DaAll K N H xs ds → Da K N H (.ref a) (.list ds)
  | tup {a : Addr} {xs : List V} {ds : List PyData} : SqT K H a xs → DaAll K N H xs ds → Da K N H (.ref a) (.tuple ds)
  | dct {a : Addr} {kvs : List (Key × V)} {ds : List PyData} : H a = some (.dK kvs) → ¬ N a → DaAll K N H (kvs.map (·.2)) ds → Da K N H (.ref a) (.dict ((kvs.map fun kv => kD kv.1).zip ds))
inductive DaAll (K : PySem.W.Frag) (N : Addr → Prop) (H : Hp) : List V → List PyData → Prop
  | nil : DaAll K N H [] []
  | cons {v : V} {vs : List V} {d : PyData} {ds : List PyData} : Da K N H v d → DaAll K N H vs ds → DaAll K N H (v :: vs) (d :: ds)
end
/-- what is tracked -/
def Tk (H : Hp) : Addr → Prop := fun a => H a ≠ none
theorem Tk.of {H : Hp} {a : Addr} {o : HO} (h : H a = some o) : Tk H a := fun e => by
  rw [h] at e
  cases e
theorem Tk.kp {H H' : Hp} {p : Addr} (k : Kp p H H') (hp : Tk H' p) : ∀ a, Tk H a → Tk H' a := fun a h => by
  by_cases e : a = p
  · rw [e]
    exact hp
  · cases q : H a with
    | none => exact absurd q h
    | some o => exact Tk.of (k a o q e)
theorem Pen.tk {H : Hp} {p c : Addr} (h : Pen H p c) : Tk H p := by
  obtain ⟨⟨z, r, e⟩, _⟩ := h
  exact Tk.of e
/-- nothing that reads as a tuple stands at p -/
def NoTup (H : Hp) (p : Addr) : Prop := ∀ xs, ¬ Rd H p (.tup xs)
theorem Pen.noTup {H : Hp} {p c : Addr} (h : Pen H p c) : NoTup H p := fun xs r => by
  obtain ⟨⟨z, u, h1⟩, _⟩ := h
  rcases r with r | ⟨o, r⟩
  · rw [h1] at r
    cases r
  · rw [h1] at r
    cases r
section
variable {K : PySem.W.Frag} {N N' : Addr → Prop} {p : Addr} {H H' : Hp}
theorem sqT_kp {a : Addr} {xs : List V} (k : Kp p H H') (n : NoTup H p) (h : SqT K H a xs) : SqT K H' a xs := by
  rcases h with h | h
  · by_cases e : a = p
    · subst e
      exact (n xs h).elim
    · rcases h with h | ⟨o, h⟩
      · exact .inl (.inl (k _ _ h e))
      · exact .inl (.inr ⟨o, k _ _ h e⟩)
  · exact .inr h
theorem sqL_kp {a : Addr} {xs : List V} (k : Kp p H H') (n : a ≠ p) (h : SqL K H a xs) : SqL K H' a xs := by
  rcases h with h | h
  · rcases h with h | ⟨o, h⟩
    · exact .inl (.inl (k _ _ h n))
    · exact .inl (.inr ⟨o, k _ _ h n⟩)
  · exact .inr h
mutual
theorem Da.kp (k : Kp p H H') (n : NoTup H p) (q : N p) : ∀ {v : V} {d : PyData}, Da K N H v d → Da K N H' v d
  | _, _, .non => .non
  | _, _, .bl b => .bl b
  | _, _, .int i => .int i
  | _, _, .str x => .str x
  | _, _, .lst h ne r => .lst (k _ _ h fun e => ne (e ▸ q)) ne (DaAll.kp k n q r)
  | _, _, .tup h r => .tup (sqT_kp k n h) (DaAll.kp k n q r)
  | _, _, .dct h ne r => .dct (k _ _ h fun e => ne (e ▸ q)) ne (DaAll.kp k n q r)
theorem DaAll.kp (k : Kp p H H') (n : NoTup H p) (q : N p) : ∀ {vs : List V} {ds : List PyData}, DaAll K N H vs ds → DaAll K N H' vs ds
  | _, _, .nil => .nil
  | _, _, .cons a r => .cons (Da.kp k n q a) (DaAll.kp k n q r)
end
mutual
theorem Da.less (k : ∀ a, N' a → N a) : ∀ {v : V} {d : PyData}, Da K N H v d → Da K N' H v d
  | _, _, .non => .non
  | _, _, .bl b => .bl b
  | _, _, .int i => .int i
  | _, _, .str x => .str x
  | _, _, .lst h ne r => .lst h (fun z => ne (k _ z)) (DaAll.less k r)
  | _, _, .tup h r => .tup h (DaAll.less k r)
  | _, _, .dct h ne r => .dct h (fun z => ne (k _ z)) (DaAll.less k r)
theorem DaAll.less (k : ∀ a, N' a → N a) : ∀ {vs : List V} {ds : List PyData}, DaAll K N H vs ds → DaAll K N' H vs ds
  | _, _, .nil => .nil
  | _, _, .cons a r => .cons (Da.less k a) (DaAll.less k r)
end
theorem DaAll.length : ∀ {vs : List V} {ds : List PyData}, DaAll K N H vs ds → vs.length = ds.length
  | _, _, .nil => rfl
  | _, _, .cons _ r => by rw [List.length_cons, List.length_cons, DaAll.length r]
theorem DaAll.get : ∀ {vs : List V} {ds : List PyData}, DaAll K N H vs ds → ∀ {i : Nat} {v : V}, vs[i]? = some v → ∃ d, ds[i]? = some d ∧ Da K N H v d
  | _, _, .nil, _, _, e => by simp at e
  | _, _, .cons a r, 0, _, e => by
    simp only [List.getElem?_cons_zero, Option.some.injEq] at e
    subst e
    exact ⟨_, rfl, a⟩
  | _, _, .cons a r, i + 1, _, e => by
    simp only [List.getElem?_cons_succ] at e
    obtain ⟨d, h1, h2⟩ := DaAll.get r e
    exact ⟨d, by simpa using h1, h2⟩
theorem DaAll.append : ∀ {vs us : List V} {ds es : List PyData}, DaAll K N H vs ds → DaAll K N H us es → DaAll K N H (vs ++ us) (ds ++ es)
  | _, _, _, _, .nil, s => s
  | _, _, _, _, .cons a r, s => .cons a (DaAll.append r s)
theorem DaAll.take : ∀ {vs : List V} {ds : List PyData} (n : Nat), DaAll K N H vs ds → DaAll K N H (vs.take n) (ds.take n)
  | _, _, 0, _ => .nil
  | _, _, _ + 1, .nil => .nil
  | _, _, n + 1, .cons a r => .cons a (DaAll.take n r)
theorem DaAll.drop : ∀ {vs : List V} {ds : List PyData} (n : Nat), DaAll K N H vs ds → DaAll K N H (vs.drop n) (ds.drop n)
  | _, _, 0, r => r
  | _, _, _ + 1, .nil => .nil
  | _, _, n + 1, .cons _ r => DaAll.drop n r
end

/-! ### how long what is shown is, how deep -/
theorem joinLen : ∀ ts : List Str, (Str.join ", " ts).length ≤ (ts.map fun t => t.length + 2).sum
  | [] => by decide
  | [x] => by
    show x.length ≤ _
    simp
  | x :: y :: r => by
    have ih := joinLen (y :: r)
    have e : (Str.join ", " (x :: y :: r)).length = x.length + 2 + (Str.join ", " (y :: r)).length := by
      show (x ++ ", " ++ Str.join ", " (y :: r)).length = _
      rw [strLen_append, strLen_append]
      rfl
    rw [e, List.map_cons, List.sum_cons]
    omega
end Ow

namespace Ow
open PySem PySem.Spec PyProof.Rows L2

/-! ### how long what is shown is -/
mutual
/-- at least as long as what is shown; each place of a row and a brace counted with it -/
def wt : PyData → Nat
  | .none => 4
  | .bool _ => 5
  | .int i => (toString i : Str).length
  | .str x => (reprText x).length + x.length
  | .list xs => wtAll xs + 4
  | .tuple xs => wtAll xs + 4
  | .dict kvs => wtKv kvs + 4
def wtAll : List PyData → Nat
  | [] => 0
  | x :: xs => wt x + 2 + wtAll xs
def wtKv : List (PyData × PyData) → Nat
  | [] => 0
  | (k, v) :: r => wt k + wt v + 4 + wtKv r
end
theorem textFromLen : ∀ (ts : List Str) (k : Nat) (acc : Str), (textFrom k acc ts).length ≤ acc.length + (ts.map fun t => t.length + 2).sum
  | [], k, acc => by
    show acc.length ≤ _
    simp
  | t :: r, k, acc => by
    have ih := textFromLen r (k + 1) (acc ++ (if k > 0 then ", " else "" : String) ++ t)
    have e : (acc ++ (if k > 0 then ", " else "" : String) ++ t).length ≤ acc.length + 2 + t.length := by
      rw [strLen_append, strLen_append]
      by_cases h : k > 0
      · rw [if_pos h]
        show acc.length + 2 + t.length ≤ _
        omega
      · rw [if_neg h]
        show acc.length + 0 + t.length ≤ _
        omega
    show (textFrom (k + 1) (acc ++ (if k > 0 then ", " else "" : String) ++ t) r).length ≤ _
    rw [List.map_cons, List.sum_cons]
    omega
theorem listTextLen (ts : List Str) : (listText ts).length ≤ (ts.map fun t => t.length + 2).sum + 4 := by
  have h := textFromLen ts 0 "["
  have e : (listText ts).length = (textFrom 0 "[" ts).length + 1 := by
    unfold listText
    rw [strLen_append]
    rfl
  have e1 : (("[" : String) : Str).length = 1 := rfl
  rw [e]
  rw [e1] at h
  omega
theorem tupleTextLen (ts : List Str) : (tupleText ts).length ≤ (ts.map fun t => t.length + 2).sum + 4 := by
  have h := joinLen ts
  have e : (tupleText ts).length ≤ 1 + (Str.join ", " ts).length + 2 := by
    unfold tupleText
    rw [strLen_append, strLen_append]
    by_cases q : (ts.length == 1) = true
    · rw [if_pos q]
      exact Nat.le_refl _
    · rw [if_neg q]
      show 1 + (Str.join ", " ts).length + 1 ≤ _
      omega
  omega
theorem dictTextLen (ts : List Str) : (dictText ts).length ≤ (ts.map fun t => t.length + 2).sum + 4 := by
  have h := joinLen ts
  have e : (dictText ts).length = 1 + (Str.join ", " ts).length + 1 := by
    unfold dictText
    rw [strLen_append, strLen_append]
    rfl
  omega
mutual
theorem shownLen : ∀ d : PyData, d.shown.length ≤ wt d
  | .none => by decide
  | .bool b => by
    cases b
    · decide
    · decide
  | .int i => by
    simp only [PyData.shown, wt]
    exact Nat.le_refl _
  | .str x => by
    simp only [PyData.shown, wt]
    exact Nat.le_add_right _ _
  | .list xs => by
    simp only [PyData.shown, wt]
    have h := listTextLen (PyData.shownAll xs)
    have h2 := shownAllLen xs
    omega
  | .tuple xs => by
    simp only [PyData.shown, wt]
    have h := tupleTextLen (PyData.shownAll xs)
    have h2 := shownAllLen xs
    omega
  | .dict kvs => by
    simp only [PyData.shown, wt]
    have h := dictTextLen (PyData.shownKv kvs)
    have h2 := shownKvLen kvs
    omega
theorem shownAllLen : ∀ ds : List PyData, ((PyData.shownAll ds).map fun t => t.length + 2).sum ≤ wtAll ds
  | [] => by simp [PyData.shownAll, wtAll]
  | d :: ds => by
    have h1 := shownLen d
    have h2 := shownAllLen ds
    simp only [PyData.shownAll, wtAll, List.map_cons, List.sum_cons]
    omega
theorem shownKvLen : ∀ ds : List (PyData × PyData), ((PyData.shownKv ds).map fun t => t.length + 2).sum ≤ wtKv ds
  | [] => by simp [PyData.shownKv, wtKv]
  | (k, v) :: r => by
    have h1 := shownLen k
    have h2 := shownLen v
    have h3 := shownKvLen r
    simp only [PyData.shownKv, wtKv, List.map_cons, List.sum_cons]
    have e : (PyData.shown k ++ (": " : Str) ++ PyData.shown v).length = (PyData.shown k).length + 2 + (PyData.shown v).length := by
      rw [strLen_append, strLen_append]
      rfl
    rw [e]
    omega
end
/-- data that repr may be asked of: what is shown at most n long, at most m deep -/
structure Fit (n m : Nat) (d : PyData) : Prop where
  sh : d.showable = true
  wt : wt d ≤ n
  dp : d.depth ≤ m
theorem Fit.le {n m n' m' : Nat} {d : PyData} (f : Fit n m d) (h : n ≤ n') (k : m ≤ m') : Fit n' m' d := ⟨f.sh, Nat.le_trans f.wt h, Nat.le_trans f.dp k⟩

/-! ### what stands in the heap, read as data -/
section
variable {X : Cx} {pins : List (Addr × Obj)} {σ : L2.St} {H : Hp} {s : Shared} {N : Addr → Prop}
theorem pairs_read {P : Program} {w : World} {h : Heap} : ∀ {kvs : List (Key × V)} {vs : List (Key × Value)} {el : List DictEntry}, KV kvs vs → Pairs (mixKind P w) el vs →
    Vals (kvs.map (·.2)) (el.map (·.val)) ∧ ReadsAll h (el.map (·.key)) (kvs.map fun q => kD q.1) []
  | _, _, _, .nil, .nil => ⟨.nil, .nil⟩
  | _, _, _, .cons (a := a) (b := b) q r, .cons (e := e) h1 h2 h3 => by
    obtain ⟨i1, i2⟩ := pairs_read (h := h) r h3
    refine ⟨.cons (by show RelV a.2 e.val; rw [h2]; exact q.2) i1, ?_⟩
    have hk : Reads h e.key (kD a.1) [] := by
      rw [q.1]
      rcases keyIs_shape (k := b.1) (v := e.key) h1 with ⟨i, t, z, z2⟩ | ⟨x, t, z, z2⟩
      · rw [z, z2]
        exact .int i t
      · rw [z, z2]
        exact .str x t
    exact .cons hk i2
theorem list_nsys (I : Inv X pins σ H s) (hs : ∃ o, s.heap.get? sysModules = some o ∧ o.cls ≠ .type "list") {a : Addr} {xs : List V} (h : H a = some (.lst xs)) : a ≠ sysModules := by
  rintro rfl
  obtain ⟨o, e, c⟩ := hs
  obtain ⟨_, its, n, _, q⟩ := I.hok _ _ h
  rw [e] at q
  cases q
  exact c rfl
mutual
theorem Da.reads (I : Inv X pins σ H s) : ∀ {v : V} {d : PyData}, Da X.K N H v d → ∀ {u : Value}, RelV v u → ∃ as, Reads s.heap u d as ∧ ((∃ o, s.heap.get? sysModules = some o ∧ o.cls ≠ .type "list") → sysModules ∉ as)
  | _, _, .non, _, r => by
    cases r
    exact ⟨_, .none, fun _ z => nomatch z⟩
  | _, _, .bl b, _, r => by
    cases r
    exact ⟨_, .bool b, fun _ z => nomatch z⟩
  | _, _, .int i, _, r => by
    obtain ⟨t, rfl⟩ := r
    exact ⟨_, .int i t, fun _ z => nomatch z⟩
  | _, _, .str x, _, r => by
    obtain ⟨t, rfl⟩ := r
    exact ⟨_, .str x t, fun _ z => nomatch z⟩
  | _, _, .lst h ne ra, _, r => by
    cases r
    obtain ⟨its, rv, ⟨o, n, ho, hc, _, hd⟩, _⟩ := I.list (SqL.of h)
    obtain ⟨as, hr, hn⟩ := DaAll.reads I ra rv
    refine ⟨_, .list ho hc hd hr, fun hs z => ?_⟩
    rcases List.mem_cons.mp z with e | z
    · exact list_nsys I hs h e.symm
    · exact hn hs z
  | _, _, .tup h ra, _, r => by
    cases r
    obtain ⟨its, rv, ⟨o, ho, hc, n, hd⟩, _⟩ := I.tuple h
    obtain ⟨as, hr, hn⟩ := DaAll.reads I ra rv
    exact ⟨_, .tuple ho hc hd hr, hn⟩
  | _, _, .dct (kvs := kvs) (ds := ds) h ne ra, _, r => by
    cases r
    obtain ⟨_, hsys, vs, kv, o, es, ep, ho, hx, hd, hko, hpr, _⟩ := I.hok _ _ h
    obtain ⟨q1, q2⟩ := pairs_read (h := s.heap) kv hpr
    obtain ⟨as, hr, hn⟩ := DaAll.reads I ra q1
    have hl : (kvs.map fun q => kD q.1).length = ds.length := by
      rw [List.length_map, ← DaAll.length ra, List.length_map]
    refine ⟨_, .dict (as := []) (bs := as) ho hx.1 hd ?_ ?_, fun hs z => ?_⟩
    · rw [List.map_fst_zip (Nat.le_of_eq hl)]
      exact q2
    · rw [List.map_snd_zip (Nat.le_of_eq hl.symm)]
      exact hr
    · rcases List.mem_cons.mp z with e | z
      · rw [← e] at hsys
        exact absurd hsys (by decide)
      · exact hn hs z
theorem DaAll.reads (I : Inv X pins σ H s) : ∀ {vs : List V} {ds : List PyData}, DaAll X.K N H vs ds → ∀ {us : List Value}, Vals vs us → ∃ as, ReadsAll s.heap us ds as ∧ ((∃ o, s.heap.get? sysModules = some o ∧ o.cls ≠ .type "list") → sysModules ∉ as)
  | _, _, .nil, _, r => by
    cases r
    exact ⟨_, .nil, fun _ z => nomatch z⟩
  | _, _, .cons a ra, _, r => by
    cases r with
    | cons r1 r2 =>
      obtain ⟨as, h1, n1⟩ := Da.reads I a r1
      obtain ⟨bs, h2, n2⟩ := DaAll.reads I ra r2
      exact ⟨_, .cons h1 h2, fun hs z => (List.mem_append.mp z).elim (n1 hs) (n2 hs)⟩
end
end
/-! ### what is shown, item by item -/
section
variable {X : Cx} {pins : List (Addr × Obj)} {σ : L2.St} {H : Hp} {s : Shared} {N : Addr → Prop}
theorem reads_of (I : Inv X pins σ H s) {v : V} {d : PyData} (h : Da X.K N H v d) {u : Value} (r : RelV v u) : ∃ as, Reads s.heap u d as :=
  let ⟨as, q, _⟩ := Da.reads I h r
  ⟨as, q⟩
theorem out_of {a : Addr} {d : PyData} {as bs : List Addr} {h : Heap} (r : Reads h (.ref a) d as) {n : Nat} (hb : ReadAtMost h n bs) (hn : n < d.depth) : a ∉ bs ∧ ReadAtMost h d.depth (a :: bs) :=
  ⟨not_mem_of_deeper r hn hb, .cons r (Nat.le_of_lt hn) hb⟩
theorem dct_of (I : Inv X pins σ H s) {a : Addr} {kvs : List (Key × V)} {ds : List PyData} (h : H a = some (.dK kvs)) (ne : ¬ N a) (ra : DaAll X.K N H (kvs.map (·.2)) ds)
    (hz : (dictText (PyData.shownKv ((kvs.map fun q => kD q.1).zip ds))).length ≤ sizeLine) (hs : PyData.showableKv ((kvs.map fun q => kD q.1).zip ds) = true)
    (vals : ∀ {us : List Value}, Vals (kvs.map (·.2)) us → PyData.showableAll ds = true → (∀ t ∈ PyData.shownAll ds, t.length ≤ sizeLine) →
      ∃ bs, ReadAtMost s.heap (PyData.depthAll ds) bs ∧ ReprAllK X.prog X.w bs s.heap (PyData.depthAll ds) us (PyData.shownAll ds)) :
    ∃ (o : Obj) (es : Array DictEntry) (ep : Nat) (bs : List Addr), s.heap.get? a = some o ∧ o.cls = .type "dict" ∧ o.data = .dict es ep ∧ (a == sysModules) = false ∧ a ∉ bs ∧
      ReadAtMost s.heap (PyData.dict ((kvs.map fun q => kD q.1).zip ds)).depth (a :: bs) ∧ ReprEntriesK X.prog X.w bs s.heap (PyData.depthKv ((kvs.map fun q => kD q.1).zip ds)) es.toList (PyData.shownKv ((kvs.map fun q => kD q.1).zip ds)) := by
  obtain ⟨as, rd⟩ := reads_of I (.dct h ne ra) (u := .ref a) rfl
  obtain ⟨_, hsys, vs, kv, o, es, ep, ho, hx, hd, hko, hpr, _⟩ := I.hok _ _ h
  obtain ⟨q1, q2⟩ := pairs_read (h := s.heap) kv hpr
  have hl : (kvs.map fun q => kD q.1).length = ds.length := by
    rw [List.length_map, ← DaAll.length ra, List.length_map]
  have e1 : (((kvs.map fun q => kD q.1)).zip ds).map (·.1) = kvs.map fun q => kD q.1 := List.map_fst_zip (Nat.le_of_eq hl)
  have e2 : (((kvs.map fun q => kD q.1)).zip ds).map (·.2) = ds := List.map_snd_zip (Nat.le_of_eq hl.symm)
  obtain ⟨s1, s2⟩ := PyData.showableKv_split _ hs
  have zk := fun t ht => Nat.le_trans (let ⟨y, hy, hl⟩ := PyData.shownKv_key_le ((kvs.map fun q => kD q.1).zip ds) t ht; Nat.le_trans hl (dictText_mem_le hy)) hz
  have zv := fun t ht => Nat.le_trans (let ⟨y, hy, hl⟩ := PyData.shownKv_val_le ((kvs.map fun q => kD q.1).zip ds) t ht; Nat.le_trans hl (dictText_mem_le hy)) hz
  have d1 := PyData.depthAll_keys_le (((kvs.map fun q => kD q.1)).zip ds)
  have d2 := PyData.depthAll_vals_le (((kvs.map fun q => kD q.1)).zip ds)
  rw [e1] at s1 zk d1
  rw [e2] at s2 zv d2
  obtain ⟨b1, hb1, k1⟩ := ReprAllK.of_readsAll (prog := X.prog) (w := X.w) q2 s1 (fun _ z => nomatch z) zk
  obtain ⟨b2, hb2, k2⟩ := vals q1 s2 zv
  obtain ⟨o1, o2⟩ := out_of rd ((hb1.mono d1).append (hb2.mono d2)) (by rw [PyData.depth]; exact Nat.lt_succ_self _)
  refine ⟨o, es, ep, b1 ++ b2, ho, hx.1, hd, hsys, o1, o2, ?_⟩
  rw [PyData.shownKv_eq, e1, e2]
  exact .of_two es.toList _ _ (k1.more_le (fun b z => List.mem_append_left _ z) d1) (k2.more_le (fun b z => List.mem_append_right _ z) d2)
mutual
theorem Da.rk (I : Inv X pins σ H s) : ∀ {v : V} {d : PyData}, Da X.K N H v d → ∀ {u : Value}, RelV v u → d.showable = true → d.shown.length ≤ sizeLine →
    ∃ bs, ReadAtMost s.heap d.depth bs ∧ ReprK X.prog X.w bs s.heap d.depth u d.shown
  | _, _, .non, _, r, _, _ => by
    cases r
    refine ⟨[], fun _ z => (nomatch z), ?_⟩
    rw [PyData.shown]
    exact .of_is .none _ _ _
  | _, _, .bl b, _, r, _, _ => by
    cases r
    refine ⟨[], fun _ z => (nomatch z), ?_⟩
    rw [PyData.shown]
    exact .of_is (.bool b) _ _ _
  | _, _, .int i, _, r, hs, _ => by
    obtain ⟨t, rfl⟩ := r
    refine ⟨[], fun _ z => (nomatch z), ?_⟩
    rw [PyData.showable, decide_eq_true_eq] at hs
    rw [PyData.shown]
    exact .of_is (.int t hs) _ _ _
  | _, _, .str x, _, r, _, hz => by
    obtain ⟨t, rfl⟩ := r
    refine ⟨[], fun _ z => (nomatch z), ?_⟩
    rw [PyData.shown] at hz ⊢
    exact .of_is (.str x t hz) _ _ _
  | _, _, .lst (a := a) (ds := ds) h ne ra, _, r, hs, hz => by
    cases r
    obtain ⟨as, rd⟩ := reads_of I (.lst h ne ra) (u := .ref a) rfl
    obtain ⟨its, rv, ⟨o, n, ho, hc, _, hd⟩, _⟩ := I.list (SqL.of h)
    rw [PyData.showable] at hs
    rw [PyData.shown] at hz ⊢
    obtain ⟨bs, hb, hk⟩ := DaAll.rk I ra rv hs fun t ht => Nat.le_trans (listText_mem_le ht) hz
    obtain ⟨o1, o2⟩ := out_of rd hb (by rw [PyData.depth]; exact Nat.lt_succ_self _)
    refine ⟨a :: bs, o2, ?_⟩
    rw [PyData.depth]
    cases its with
    | nil =>
      cases rv
      cases ra
      rw [PyData.shownAll, listText_nil]
      exact .listEmpty ho hc hd
    | cons y t =>
      refine .list ho hc hd o1 ?_ fun i z e => hk.item i z ?_
      · simpa using hk.length_eq
      · simpa using e
  | _, _, .tup (a := a) h ra, _, r, hs, hz => by
    cases r
    obtain ⟨as, rd⟩ := reads_of I (.tup (N := N) h ra) (u := .ref a) rfl
    obtain ⟨its, rv, ⟨o, ho, hc, n, hd⟩, _⟩ := I.tuple h
    rw [PyData.showable] at hs
    rw [PyData.shown] at hz ⊢
    obtain ⟨bs, hb, hk⟩ := DaAll.rk I ra rv hs fun t ht => Nat.le_trans (tupleText_mem_le ht) hz
    obtain ⟨o1, o2⟩ := out_of rd hb (by rw [PyData.depth]; exact Nat.lt_succ_self _)
    refine ⟨a :: bs, o2, ?_⟩
    rw [PyData.depth]
    exact .tuple ho hc hd o1 (by simpa using hk)
  | _, _, .dct (a := a) (kvs := kvs) (ds := ds) h ne ra, _, r, hs, hz => by
    cases r
    rw [PyData.showable] at hs
    rw [PyData.shown] at hz ⊢
    obtain ⟨o, es, ep, bs, h1, h2, h3, h4, h5, h6, h7⟩ := dct_of I h ne ra hz hs fun rv s2 z2 => DaAll.rk I ra rv s2 z2
    refine ⟨a :: bs, h6, ?_⟩
    rw [PyData.depth]
    exact .dict h1 h2 h3 h4 h5 h7
theorem DaAll.rk (I : Inv X pins σ H s) : ∀ {vs : List V} {ds : List PyData}, DaAll X.K N H vs ds → ∀ {us : List Value}, Vals vs us → PyData.showableAll ds = true → (∀ t ∈ PyData.shownAll ds, t.length ≤ sizeLine) →
    ∃ bs, ReadAtMost s.heap (PyData.depthAll ds) bs ∧ ReprAllK X.prog X.w bs s.heap (PyData.depthAll ds) us (PyData.shownAll ds)
  | _, _, .nil, _, r, _, _ => by
    cases r
    refine ⟨[], fun _ z => (nomatch z), ?_⟩
    rw [PyData.shownAll]
    exact .nil
  | _, _, .cons (d := d) (ds := ds) a ra, _, r, hs, hz => by
    cases r with
    | cons r1 r2 =>
      rw [PyData.showableAll, Bool.and_eq_true] at hs
      rw [PyData.shownAll] at hz ⊢
      obtain ⟨b1, h1, k1⟩ := Da.rk I a r1 hs.1 (hz _ (List.mem_cons_self ..))
      obtain ⟨b2, h2, k2⟩ := DaAll.rk I ra r2 hs.2 fun t ht => hz t (List.mem_cons_of_mem _ ht)
      rw [PyData.depthAll]
      exact ⟨b1 ++ b2, .append (h1.mono (Nat.le_max_left _ _)) (h2.mono (Nat.le_max_right _ _)),
        .cons ((k1.more fun b z => List.mem_append_left _ z).level_le (Nat.le_max_left _ _)) (k2.more_le (fun b z => List.mem_append_right _ z) (Nat.le_max_right _ _))⟩
end
end
section
variable {X : Cx}
/-- repr of data: nothing else is shown around, and there is room -/
def rRepr (K : PySem.W.Frag) (un : Nat) : List V → Hp → VK → Prop := fun xs H Q => ∃ (N : Addr → Prop) (v : V) (d : PyData) (n : Nat), xs = [v] ∧ Da K N H v d ∧ Fit n 150 d ∧ n ≤ sizeLine ∧
  un + 151 < cLine ∧ Q (.str d.shown) H
theorem call_reprD (hg : X.A.guards = some []) : CallR X (.builtin "repr") (rRepr X.K X.A.units) := by
  intro pins s σ H xs us Q I r h
  obtain ⟨N, v, d, n, rfl, hd, hf, hn, hu, q⟩ := h
  obtain ⟨u, rfl, r1⟩ := vals1 r
  have hz : d.shown.length ≤ sizeLine := Nat.le_trans (shownLen d) (Nat.le_trans hf.wt hn)
  have hdp := hf.dp
  have hsh := hf.sh
  have fin : ∀ (h' : Heap) (u : Tok) (tk : Nat), (∀ b o, s.heap.get? b = some o → h'.get? b = some o) → EP X pins σ Q (.str d.shown u) { s with heap := h', toks := tk } := fun h' u tk k => ⟨.str _, H, I.kept k, ⟨u, rfl⟩, q⟩
  cases hd with
  | non =>
    cases r1
    exact PySem.P.repr_of_none ⟨.str _, H, I.tok _, ⟨_, rfl⟩, q⟩
  | bl b =>
    cases r1
    exact PySem.P.repr_of_bool ⟨.str _, H, I.tok _, ⟨_, rfl⟩, q⟩
  | int i =>
    obtain ⟨t, rfl⟩ := r1
    rw [PyData.showable, decide_eq_true_eq] at hsh
    exact PySem.P.repr_of_int hsh ⟨.str _, H, I.tok _, ⟨_, rfl⟩, q⟩
  | str x =>
    obtain ⟨t, rfl⟩ := r1
    exact PySem.P.repr_of_str ⟨.str _, H, I.tok _, ⟨_, rfl⟩, q⟩ hz
  | @lst a xs ds h1 h2 h3 =>
    cases r1
    obtain ⟨as, rd⟩ := reads_of I (.lst h1 h2 h3) (u := .ref a) rfl
    obtain ⟨its, rv, ⟨o, m, ho, hc, _, hdt⟩, _⟩ := I.list (SqL.of h1)
    rw [PyData.showable] at hsh
    rw [PyData.shown] at hz fin
    rw [PyData.depth] at hdp
    obtain ⟨bs, hb, hk⟩ := DaAll.rk I h3 rv hsh fun t ht => Nat.le_trans (listText_mem_le ht) hz
    obtain ⟨o1, _⟩ := out_of rd hb (by rw [PyData.depth]; exact Nat.lt_succ_self _)
    refine call_repr_slot (by omega) ⟨o, ho, hc⟩ PySem.F.slot_list_repr.toG ?_
    cases its with
    | nil =>
      cases rv
      cases h3
      rw [PyData.shownAll, listText_nil] at fin
      exact call_list_repr_empty ⟨o, ho, hc⟩ ho hdt ⟨_, _, rfl, fin s.heap _ _ fun _ _ e => e⟩
    | cons y t =>
      refine call_list_reprK ho hc hdt o1 ?_ (fun i z e => hk.item i z ?_) hg (fun b _ => Clear.nil b) ?_ (fun _ _ e => e) (fun h' u tk k => ⟨_, _, rfl, fin h' u tk k⟩) hz
      · simpa using hk.length_eq
      · simpa using e
      · show X.A.units + 1 + (PyData.depthAll ds + 1) < cLine
        omega
  | @tup a xs ds h1 h3 =>
    cases r1
    obtain ⟨as, rd⟩ := reads_of I (.tup (N := N) h1 h3) (u := .ref a) rfl
    obtain ⟨its, rv, ⟨o, ho, hc, m, hdt⟩, _⟩ := I.tuple h1
    rw [PyData.showable] at hsh
    rw [PyData.shown] at hz fin
    rw [PyData.depth] at hdp
    obtain ⟨bs, hb, hk⟩ := DaAll.rk I h3 rv hsh fun t ht => Nat.le_trans (tupleText_mem_le ht) hz
    obtain ⟨o1, _⟩ := out_of rd hb (by rw [PyData.depth]; exact Nat.lt_succ_self _)
    refine call_repr_slot (by omega) ⟨o, ho, hc⟩ PySem.F.slot_tuple_repr ?_
    refine call_tuple_reprK ho hc hdt o1 (by simpa using hk) hg (fun b _ => Clear.nil b) ?_ (fun _ _ e => e) (fun h' u tk k => ⟨_, _, rfl, fin h' u tk k⟩) hz
    show X.A.units + 1 + (PyData.depthAll ds + 1) < cLine
    omega
  | @dct a kvs ds h1 h2 h3 =>
    cases r1
    rw [PyData.showable] at hsh
    rw [PyData.shown] at hz fin
    rw [PyData.depth] at hdp
    obtain ⟨o, es, ep, bs, g1, g2, g3, g4, g5, g6, g7⟩ := dct_of I h1 h2 h3 hz hsh fun rv s2 z2 => DaAll.rk I h3 rv s2 z2
    refine call_repr_slot (by omega) ⟨o, g1, g2⟩ PySem.F.slot_dict_repr ?_
    refine call_dict_reprK g1 g2 g3 g4 g5 g7 hg (fun b _ => Clear.nil b) ?_ (fun _ _ e => e) (fun h' u tk k => ⟨_, _, rfl, fin h' u tk k⟩) hz
    show X.A.units + 1 + (PyData.depthKv ((kvs.map fun q => kD q.1).zip ds) + 1) < cLine
    omega
end

/-! ### a def that runs where nothing is being shown -/
structure FnG (P : Program) (w : World) (K : PySem.W.Frag) (mg : Str → Option Value) (base : Heap) (k : Nat) (f : Addr) (fd : FuncData) (ps : List Str) (sp : Sp) : Prop where
  len : ∀ vs H Q E, sp vs H Q E → vs.length = ps.length
  run : ∀ (A : Around) (outer : List Env) (s : Shared) (H : Hp) (args : Args) (us : List Value) (vs : List V) (Q : VK) (E : XK),
    A.guards = some [] → Room k A → Env0 P w K mg base A outer s H → BindsTo s fd args (ps.zip us) → Vals vs us → sp vs H Q E →
    codeAny (model P w) A (.call (.ref f) args) (CR CX0 outer P w H s Q E) s
/-- the end of a body, as the end of its call -/
theorem ends_call {P : Program} {w : World} {K : PySem.W.Frag} {mg : Str → Option Value} {base : Heap} {N : List Str} {qual : Str} {scope : Scope} {f : Addr} {cd : Value} {A : Around} {outer : List Env} {s s' : Shared} {H : Hp} {E : XK} {Q : VK} {fl : Flow}
    (h : SP (cxOf CX0 P w K mg base N qual scope f cd A outer s H E) [] { nx := fun _ H' => Q .non H', rt := Q } fl s') :
    match fl with
    | .next => CE outer P w H s Q .none s'
    | .ret u => CE outer P w H s Q u s'
    | _ => False := by
  cases fl with
  | next =>
    obtain ⟨_, H', J, q⟩ := h
    exact ⟨.non, H', J.os, J.bare, J.base, J.hok, rfl, q⟩
  | ret u =>
    obtain ⟨v, _, H', J, r, q⟩ := h
    exact ⟨v, H', J.os, J.bare, J.base, J.hok, r, q⟩
  | brk =>
    obtain ⟨_, _, _, q⟩ := h
    exact q
  | cont =>
    obtain ⟨_, _, _, q⟩ := h
    exact q
theorem Fun.okG {P : Program} {w : World} {K : PySem.W.Frag} {mg : Str → Option Value} {base : Heap} {x qual : Str} {st : Stmt} {f : Addr} {fd : FuncData} {N ps : List Str} {k : Nat} {sp : Sp} (F : Fun K x qual st f fd) (S : FnScope N ps (defScope st))
    (len : ∀ vs H Q E, sp vs H Q E → vs.length = ps.length)
    (body : ∀ (cdv : Value) (A : Around) (outer : List Env) (s : Shared) (H : Hp) (vs : List V) (Q : VK) (E : XK), A.guards = some [] → Room k (A.deeper (envOfC qual (defScope st) s.heap.objs.size f cdv)) → sp vs H Q E →
      ∃ t, PSs (cxOf CX0 P w K mg base N qual (defScope st) f cdv A outer s H E).nox (defBody st) t ∧ t { nx := fun _ H' => Q .non H', rt := Q } (start N vs) H) : FnG P w K mg base (k + 1) f fd ps sp := by
  obtain ⟨oc, od, kV, doc, pm, an, cdv, ct, osl, rfl, lk, hcd⟩ := F.ex
  constructor
  · exact len
  · intro A outer s H args us vs Q E ag room e0 bind rel want
    have ln := len vs H Q E want
    have old : ∀ b o, base.get? b = some o → s.heap.get? b = some o := fun b o q => (e0.bs b o q).1
    have KS : K.In s.heap := e0.mod.kin.keeps old
    refine codeAny_call_function room.depth (KS _ _ lk) rfl S.co S.gen rfl (PySem.W.codeRec_of KS hcd) (bind _ _ _ _ ?_)
    refine wpAny_newFunctionEnv_cells S.kind ?_ ?_
    · intro y hy
      obtain ⟨n, v⟩ := y
      have hp := S.par n (List.of_mem_zip hy).1
      rcases hp with q | q
      · exact Or.inl q
      · exact Or.inr ⟨q, PySem.W.cellsFrom_some _ _ _ (Or.inl q)⟩
    · intro env he s1 x
      subst he
      refine ⟨(e0.mod.nolimit.keeps old).keeps x.toInCall.keep, codeAny_func ?_⟩
      obtain ⟨t, ht, hq⟩ := body cdv A outer s H vs Q E ag (room.deeper _) want
      have J : Inv (cxOf CX0 P w K mg base N qual (defScope st) f cdv A outer s H E) [] (start N vs) H s1 := inv_start S room.hd e0 ln rel x
      refine wpAny_mono (ht.nox.run [] s1 (start N vs) H _ J hq) (fun fl s' hs => ?_) fun _ _ z => z
      have z := ends_call hs
      cases fl with
      | next => exact z
      | ret u => exact z
      | brk => exact z.elim
      | cont => exact z.elim
theorem FnOk.g {P : Program} {w : World} {K : PySem.W.Frag} {mg : Str → Option Value} {base : Heap} {k : Nat} {f : Addr} {fd : FuncData} {ps : List Str} {sp : Sp} (F : FnOk P w K mg base CX0 k f fd ps sp) : FnG P w K mg base k f fd ps sp :=
  ⟨F.len, fun A outer s H args us vs Q E _ => F.run A outer s H args us vs Q E⟩
structure CallG (P : Program) (w : World) (K : PySem.W.Frag) (mg : Str → Option Value) (base : Heap) (k : Nat) (x : Str) (ps : List Str) (sp : Sp) : Prop where
  ex : ∃ (f : Addr) (fd : FuncData), FnG P w K mg base k f fd ps sp ∧ mg x = some (.ref f) ∧ PySem.W.keepIn K (.ref f) = true ∧ Binds K fd ps []
theorem DefAt.okG {P : Program} {w : World} {K : PySem.W.Frag} {mg : Str → Option Value} {base : Heap} {x : Str} {st : Stmt} {N ps : List Str} {k : Nat} {sp : Sp} (D : DefAt K mg x st ps) (S : FnScope N ps (defScope st)) (len : ∀ vs H Q E, sp vs H Q E → vs.length = ps.length)
    (body : ∀ (f : Addr) (cdv : Value) (A : Around) (outer : List Env) (s : Shared) (H : Hp) (vs : List V) (Q : VK) (E : XK), A.guards = some [] → Room k (A.deeper (envOfC x (defScope st) s.heap.objs.size f cdv)) → sp vs H Q E →
      ∃ t, PSs (cxOf CX0 P w K mg base N x (defScope st) f cdv A outer s H E).nox (defBody st) t ∧ t { nx := fun _ H' => Q .non H', rt := Q } (start N vs) H) : CallG P w K mg base (k + 1) x ps sp := by
  obtain ⟨f, fd, F, hm, hb⟩ := D.ex
  exact ⟨f, fd, Fun.okG F S len fun cdv A outer s H vs Q E ag hr h => body f cdv A outer s H vs Q E ag hr h, hm, F.kp, hb⟩
section
variable {X : Cx} {k j : Nat} {x : Str} {ps : List Str} {sp : Sp} {p pos : Pos} {e : Expr} {es : List Expr} {t : TA}
theorem pe_callG (ag : X.A.guards = some []) (C : CallG X.prog X.w X.K X.mg X.base k x ps sp) (hr : Room j X.A) (hj : k ≤ j) (hg : Gl X x) (ha : PA X (e :: es) t)
    (hdb : (x == ("__debug__" : Str)) = false := by decide) (he : starEach (e :: es) X.env = (false, eval e X.env) :: starEach es X.env := by rfl)
    (hpl : (backTo pos (starEach es X.env)).any (·.1) = false := by rfl) : PE X (.Call (.Name x p) (e :: es) [] pos) (tCall sp [] E0 t) := by
  obtain ⟨f, fd, F, hm, hk, hb⟩ := C.ex
  constructor
  intro pins s σ H Q I h
  refine wpAny_Call_Name_kw (ld_glob I hg hm ?_ hdb)
  refine PySem.W.callWith_K (h₀ := X.base) I.ok.mod.kin hk (thn (ha.run pos pins s σ H _ I h) fun us s1 q0 => ?_) he hpl
  obtain ⟨vs, H1, I1, r, q⟩ := q0
  refine ⟨I1.kIn, ?_⟩
  have r2 : Vals (vs ++ []) (us ++ []) := r.append .nil
  have ln : (us ++ []).length = ps.length := by
    rw [← r2.length]
    exact F.len _ _ _ _ q
  refine wpAny_call (codeAny_mono (F.run X.A X.stack s1 H1 ⟨us, []⟩ (us ++ []) (vs ++ []) Q E0 ag (hr.mono hj) I1.env0 (hb s1 us I1.kIn ln) r2 q) fun a s' z => ?_)
  match a, z with
  | .ok (.ret u), z => exact I1.after z
  | .ok .next, z => exact z.elim
  | .ok .brk, z => exact z.elim
  | .ok .cont, z => exact z.elim
  | .error _, z => exact z.elim
end
end Ow

namespace Ow
open PySem PySem.Spec PyProof.Rows L2

/-! ### the law's own call -/
/-- the script alone is known, where the module has it not -/
noncomputable def scriptH (K : PySem.W.Frag) (a : Addr) (ob : Obj) (ns : List Int) : Hp := fun b =>
  if b = a ∧ (K.lookup a).isNone = true then some (.frz ob (.lst (ns.map V.int))) else none
section
variable {K : PySem.W.Frag} {a b : Addr} {ob : Obj} {ns : List Int}
theorem scriptH_some {u : HO} (h : scriptH K a ob ns b = some u) : b = a ∧ (K.lookup a).isNone = true ∧ u = .frz ob (.lst (ns.map V.int)) := by
  unfold scriptH at h
  by_cases c : b = a ∧ (K.lookup a).isNone = true
  · rw [if_pos c] at h
    exact ⟨c.1, c.2, (Option.some.inj h).symm⟩
  · rw [if_neg c] at h
    cases h
theorem scriptH_only : Only (scriptH K a ob ns) := fun c => by
  cases e : scriptH K a ob ns c with
  | none => exact .inl rfl
  | some u =>
    obtain ⟨_, _, rfl⟩ := scriptH_some e
    exact .inr ⟨ob, _, rfl⟩
end
/-- a def of one parameter, run on the script from where the top has left off: True -/
theorem law_run {P : Program} {w : World} {K : PySem.W.Frag} {mg mb : Str → Option Value} {k : Nat} {fa a : Addr} {fd : FuncData} {x : Str} {sp : Sp} {t : Shared} {vs : List Value} {ns : List Int}
    (inK : K.In t.heap) (gl : t.heap.Ns mainGlobals mg) (bl : t.heap.Ns builtinsNs mb) (bl2 : ∀ x : Str, x ≠ "__name__" → mb x = bootBuiltins x) (lim : t.heap.NoLimit) (gens : t.gens = #[])
    (obj : t.heap.get? a = some { cls := .type "list", data := .seq vs.toArray }) (hints : IntsAre vs ns) (short : ns.length ≤ sizeLine) (room : Room k callerA)
    (F : ∀ base : Heap, K.In base → base.Ns mainGlobals mg → FnG P w K mg base k fa fd [x] sp) (bind : ∀ (s : Shared) (u : Value), BindsTo s fd ⟨[u], []⟩ [(x, u)])
    (want : ∀ H : Hp, Only H → SqL K H a (ns.map V.int) → sp [.ref a] H (fun v _ => v = .bl true) fun _ _ _ => False) :
    codeAny (model P w) callerA (.call (.ref fa) ⟨[.ref a], []⟩) (fun r s' => r = .ok (.ret (.bool true)) ∧ OldK t.heap s'.heap ∧ s'.os = t.os ∧ AllBare s'.gens) t := by
  have rel := vals_ints hints
  have len := hints.length
  generalize hS : scriptH K a { cls := .type "list", data := .seq vs.toArray } ns = S
  have only : Only S := hS ▸ scriptH_only
  have know : ∀ b u, S b = some u → b = a ∧ (K.lookup a).isNone = true ∧ u = .frz { cls := .type "list", data := .seq vs.toArray } (.lst (ns.map V.int)) := fun b u q => by
    rw [← hS] at q
    exact scriptH_some q
  have read : SqL K S a (ns.map V.int) := by
    cases q : K.lookup a with
    | none =>
      refine .inl (.inr ⟨{ cls := .type "list", data := .seq vs.toArray }, ?_⟩)
      rw [← hS]
      unfold scriptH
      rw [if_pos ⟨rfl, by rw [q]; rfl⟩]
    | some o =>
      have e := inK a o q
      rw [obj] at e
      cases e
      refine .inr ⟨_, vs.toArray, _, q, rfl, rfl, rfl, ?_, rel⟩
      rw [List.size_toArray, len]
      exact short
  have hok : HOk P w S t.heap := fun b u q => by
    obtain ⟨rfl, _, rfl⟩ := know b u q
    refine ⟨obj, ?_, vs, _, rel, obj⟩
    rw [List.length_map]
    exact short
  -- what is no list stands in the base
  have hid : ∀ {b : Addr} {o : Obj}, t.heap.get? b = some o → (b = a → (K.lookup a).isNone = true → False) → (hidT t.heap S).get? b = some o := fun {b o} q n => hidT_get q (by
    cases z : S b with
    | none => rfl
    | some u =>
      obtain ⟨e1, e2, _⟩ := know b u z
      exact (n e1 e2).elim)
  have ns_hid : ∀ {b : Addr} {m : Str → Option Value}, t.heap.Ns b m → (hidT t.heap S).Ns b m := fun {b m} q => by
    obtain ⟨o, es, ep, h1, h2, r⟩ := q
    refine ⟨o, es, ep, hid h1 (fun e _ => ?_), h2, r⟩
    subst e
    rw [obj] at h1
    cases h1
    cases h2
  have in_hid : K.In (hidT t.heap S) := fun b o q => hid (inK b o q) (fun e n => by
    subst e
    rw [q] at n
    cases n)
  have e0 : Env0 P w K mg (hidT t.heap S) callerA [] t S := by
    refine ⟨rfl, ⟨in_hid, ns_hid gl, ⟨mb, ns_hid bl, bl2⟩, ?_⟩, fun b o q => of_hidT q, Nat.le_of_eq (hidT_size _ _), trivial, fun b z => ?_, hok, .of_eq gens⟩
    · obtain ⟨mc, h1, h2⟩ := lim
      exact ⟨mc, ns_hid h1, h2⟩
    · cases z
  refine codeAny_mono ((F _ in_hid (ns_hid gl)).run callerA [] t S ⟨[.ref a], []⟩ [.ref a] [.ref a] _ _ rfl room e0 (bind t (.ref a)) (.cons rfl .nil) (want S only read)) fun r s' h => ?_
  match r, h with
  | .ok (.ret u), h =>
    obtain ⟨v, H', os, bare, un, hok', r', q⟩ := h
    obtain rfl : v = .bl true := q
    obtain rfl : u = Value.bool true := r'
    refine ⟨rfl, OldK.of_keep fun b o q => ?_, os, bare⟩
    cases z : S b with
    | none =>
      refine un.keep b o q z ?_ ?_
      · intro y
        cases y
      · intro y
        cases y
    | some u =>
      obtain ⟨_, _, rfl⟩ := know b u z
      obtain ⟨f1, _⟩ := hok b _ z
      obtain ⟨f2, _⟩ := hok' b _ (un.frzs b _ _ z)
      rw [q] at f1
      cases f1
      exact f2
  | .ok .next, h => exact h.elim
  | .ok .brk, h => exact h.elim
  | .ok .cont, h => exact h.elim
  | .error _, h => exact h.elim

/-- the goal of the head (case hc) -/
theorem walkG {l : PySem.W.OpenLaw} {n k : Nat} {q : Program} {loose : List Str} {XP : (Str → Option Value) → Heap → Prop} {YP : World → Heap → Prop} {d : DefRec} {K : Params → PySem.W.Frag} {sp : PySem.W.Frag → Sp} {x : Str}
    (hn : l.most = some n) (hn2 : n ≤ sizeLine) (hdf : d.params.defaults = []) (hr : Room k callerA) (hY : ∀ (w : World) (h : Heap), YP w h → (K w.params).In h)
    (F : ∀ (w : World) (mg : Str → Option Value) (fa : Addr) (h : Heap), (K w.params).In h → h.Ns mainGlobals mg → mg d.name = some (.ref fa) →
      ∃ fd : FuncData, (∀ (s : Shared) (u : Value), BindsTo s fd ⟨[u], []⟩ [(x, u)]) ∧
        ∀ base : Heap, (K w.params).In base → base.Ns mainGlobals mg → FnG l.prog w (K w.params) mg base k fa fd [x] (sp (K w.params)))
    (want : ∀ (K : PySem.W.Frag) (H : Hp) (a : Addr) (ns : List Int), ns.length ≤ n → Only H → SqL K H a (ns.map V.int) → sp K [.ref a] H (fun v _ => v = .bl true) fun _ _ _ => False) :
    PySem.W.WalkO q loose XP YP l.row.toRowW d [] (fun f vs => PySem.call f vs) := by
  refine Att.attach_call hn hdf fun w s₀ s₁ mg mb fa o pm cd doc a vs ns G Y ho hd hcd hmg hobj hints hlen hg => ?_
  obtain ⟨fd, hb, hF⟩ := F w mg fa _ (hY w _ Y) G.T.g hmg
  exact law_run (hY w _ Y) G.T.g G.T.b G.T.builtins G.T.nolimit hg hobj hints (Nat.le_trans hlen hn2) hr hF hb fun H h1 h2 => want _ H a ns hlen h1 h2
end Ow
namespace Ow
open PySem PySem.Spec PyProof.Rows L2
/-! ### names of the module -/
/-- the built-in names that the text leaves alone -/
structure Bl (mg : Str → Option Value) : Prop where
  len_ : mg "len" = none
  list_ : mg "list" = none
  range_ : mg "range" = none
  isinstance_ : mg "isinstance" = none
  all_ : mg "all" = none
  any_ : mg "any" = none
  tuple_ : mg "tuple" = none
  repr_ : mg "repr" = none
  zip_ : mg "zip" = none
  str_ : mg "str" = none
  bool_ : mg "bool" = none
  int_ : mg "int" = none
  set_ : mg "set" = none
  sum_ : mg "sum" = none
  max_ : mg "max" = none
  min_ : mg "min" = none
  dict_ : mg "dict" = none
  sorted_ : mg "sorted" = none
  enumerate_ : mg "enumerate" = none
/-- a module's constant -/
def GV (mg : Str → Option Value) (x : Str) (v : V) : Prop := ∃ u, mg x = some u ∧ RelV v u
theorem pe_gv {X : Cx} {x : Str} {v : V} {pos : Pos} (h : GV X.mg x v) (hg : Gl X x) (hd : (x == ("__debug__" : Str)) = false := by decide) : PE X (.Name x pos) (tC v) := by
  obtain ⟨u, hm, r⟩ := h
  exact pe_glob hg hm r hd

/-! ### the pen's mathematics -/
theorem cut_front (ns : List Int) (k : Nat) : cutV (ns.map V.int) none (some (k : Int)) = (ns.take (min k ns.length)).map V.int := by
  unfold cutV
  rw [HT.sIx_none, HT.sIx_nat, List.drop_zero, Nat.sub_zero, List.length_map, List.map_take]
theorem dp_ints (K : PySem.W.Frag) (H : Hp) : ∀ cs : List Int, DpAll K H (cs.map V.int) (cs.map PyData.int)
  | [] => .nil
  | c :: cs => .cons (.int c) (dp_ints K H cs)
theorem at_mod (cs : List Int) (z : Int) (h : 0 < cs.length) : ∃ v : Int, atI (cs.map V.int) (z % (cs.length : Int)) = some (.int v) := by
  have h1 : 0 ≤ z % (cs.length : Int) := Int.emod_nonneg _ (by omega)
  have h2 : z % (cs.length : Int) < cs.length := Int.emod_lt_of_pos _ (by omega)
  obtain ⟨j, hj⟩ : ∃ j : Nat, z % (cs.length : Int) = (j : Int) := ⟨(z % (cs.length : Int)).toNat, by omega⟩
  rw [hj] at h2 ⊢
  have h3 : j < cs.length := by omega
  refine ⟨cs[j], atI_nat ?_⟩
  rw [List.getElem?_map, List.getElem?_eq_getElem h3]
  rfl
/-! ### the pen's promises -/
def spPen (K : PySem.W.Frag) : Sp := fun vs H Q _ => ∃ (a : Addr) (ns : List Int), vs = [.ref a] ∧ SqL K H a (ns.map V.int) ∧ ns.length ≤ 63 ∧
  ∀ (p c : Addr) (H' : Hp), Pen H' p c → Same H H' → H p = none → H c = none → Q (.ref p) H'
def spFresh : Sp := fun vs H Q _ => ∃ (p c : Addr), vs = [.ref p] ∧ Pen H p c ∧ ∀ (n : Int) (H' : Hp), Pen H' p c → Kp p H H' → Q (.int n) H'
def spDraw : Sp := fun vs H Q _ => ∃ (p c : Addr) (b : Int), vs = [.ref p, .int b] ∧ Pen H p c ∧ 0 < b ∧ b < 1073741824 ∧
  ∀ (n : Int) (H' : Hp), 0 ≤ n → n < b → Pen H' p c → Kp p H H' → Q (.int n) H'
/-- a name: one to eight small letters -/
def Nm (x : Str) : Prop := 0 < x.cps.size ∧ x.cps.size ≤ 8 ∧ ∀ c ∈ x.cps.toList, 97 ≤ c ∧ c ≤ 122
def spName : Sp := fun vs H Q _ => ∃ (p c g : Addr) (gs : List Str), vs = [.ref p, .ref g] ∧ Pen H p c ∧ H g = some (.lst (gs.map V.str)) ∧ g ≠ p ∧ gs.length ≤ 600 ∧
  ∀ (x : Str) (H' : Hp), Nm x → Pen H' p c → Kp p H H' → Q (.str x) H'
end Ow
namespace Ow
open PySem PySem.Spec PyProof.Rows L2
theorem shaped_intsAll : ∀ cs : List Int, PyData.canLayAll0 (cs.map PyData.int) = true ∧ PyData.depthAll (cs.map PyData.int) ≤ 1
  | [] => by simp [PyData.canLayAll0, PyData.depthAll]
  | c :: cs => by
    obtain ⟨h1, h2⟩ := shaped_intsAll cs
    refine ⟨?_, ?_⟩
    · simp only [List.map_cons, PyData.canLayAll0, PyData.canLay0, h1, Bool.and_self]
    · simp only [List.map_cons, PyData.depthAll, PyData.depth]
      omega
theorem shaped_ints (cs : List Int) : SeqAt.shaped (.list (cs.map PyData.int)) = true := by
  obtain ⟨h1, h2⟩ := shaped_intsAll cs
  have h3 : (PyData.list (cs.map PyData.int)).depth ≤ 64 := by
    simp only [PyData.depth]
    omega
  unfold SeqAt.shaped
  rw [decide_eq_true h3, Bool.and_true]
  simp only [PyData.canLay0]
  exact h1
theorem shaped_nil : SeqAt.shaped (.list []) = true := shaped_ints []
theorem eqv_nil (cs : List Int) : PyData.eqv (.list (cs.map PyData.int)) (.list []) = cs.isEmpty := by
  cases cs with
  | nil => simp [PyData.eqv, PyData.eqvAll]
  | cons c cs => simp [PyData.eqv, PyData.eqvAll]
theorem le_line {n : Nat} (h : n ≤ 16000000) : n ≤ sizeLine := Nat.le_trans h (by decide)
theorem lt_line {n : Nat} (h : n ≤ 16000000) : n < sizeLine := Nat.lt_of_le_of_lt h (by decide)
end Ow
namespace Ow
open PySem PySem.Spec PyProof.Rows L2
/-! ### names' mathematics -/
abbrev abc : Str := Str.ofString "abcdefghijklmnopqrstuvwxyz"
theorem abc_list : abc.cps.toList = (List.range 26).map (97 + ·) := by decide +kernel
theorem abc_at {n : Int} (h0 : 0 ≤ n) (h1 : n < 26) : ∃ c : Nat, atI abc.cps.toList n = some c ∧ 97 ≤ c ∧ c ≤ 122 := by
  obtain ⟨j, rfl⟩ : ∃ j : Nat, n = (j : Int) := ⟨n.toNat, by omega⟩
  refine ⟨97 + j, atI_nat ?_, by omega, by omega⟩
  rw [abc_list, List.getElem?_map, List.getElem?_range (by omega)]
  rfl
theorem abc_len : abc.length ≤ sizeLine := by decide +kernel
/-- small letters alone, so many -/
def Lt (x : Str) (n : Nat) : Prop := x.cps.size = n ∧ ∀ c ∈ x.cps.toList, 97 ≤ c ∧ c ≤ 122
theorem lt_nil : Lt (Str.ofString "") 0 := ⟨by decide, fun c h => by
  have e : (Str.ofString "").cps.toList = [] := by decide
  rw [e] at h
  cases h⟩
theorem app_cps (x y : Str) : (x ++ y).cps.toList = x.cps.toList ++ y.cps.toList := by
  show (x.cps ++ y.cps).toList = _
  rw [Array.toList_append]
theorem Lt.app {x y : Str} {n m : Nat} (h : Lt x n) (k : Lt y m) : Lt (x ++ y) (n + m) := by
  refine ⟨?_, fun c hc => ?_⟩
  · show (x.cps ++ y.cps).size = _
    rw [Array.size_append, h.1, k.1]
  · rw [app_cps] at hc
    exact (List.mem_append.mp hc).elim (h.2 c) (k.2 c)
theorem lt_one {c : Nat} (h1 : 97 ≤ c) (h2 : c ≤ 122) : Lt ⟨#[c]⟩ 1 := ⟨rfl, fun d hd => by
  have e : d = c := by simpa using hd
  subst e
  exact ⟨h1, h2⟩⟩
theorem Lt.front {x : Str} {n : Nat} (h : Lt x n) (k : Nat) : ∃ m, m ≤ k ∧ Lt (cutS x none (some (k : Int))) m := by
  have e : (cutS x none (some (k : Int))).cps.toList = x.cps.toList.take (min k x.length) := by
    unfold cutS
    rw [HT.sIx_none, HT.sIx_nat, List.drop_zero, Nat.sub_zero]
  have z : (cutS x none (some (k : Int))).cps.size = (x.cps.toList.take (min k x.length)).length := by
    rw [← e, Array.length_toList]
  refine ⟨_, ?_, rfl, fun c hc => ?_⟩
  · rw [z, List.length_take]
    omega
  · rw [e] at hc
    exact h.2 c (List.mem_of_mem_take hc)
theorem Lt.nm {x : Str} {n : Nat} (h : Lt x n) (h0 : 0 < n) (h8 : n ≤ 8) : Nm x := ⟨by rw [h.1]; exact h0, by rw [h.1]; exact h8, h.2⟩
theorem Lt.len {x : Str} {n : Nat} (h : Lt x n) : x.length = n := h.1
end Ow

/-! Data of any kind beside a text: equal, in a tuple of texts. -/
namespace PySem.SeqAt
open AutoSeq1 (wpAny_loadPart')
open MeetsSeq
theorem str_no_dict (b : Str) (u : Tok) (l : Addr) (c : Value) (es : Array DictEntry) (n : Nat) (dd : Option Addr) (sl : Array (Option Value)) :
    Meets (Builtin.«str.__eq__» ⟨[.str b u, .ref l], []⟩) (fun _ R s => s.heap.get? l = some { cls := c, dict := dd, data := .dict es n, slots := sl } ∧ R (.ok (.ret .notImplemented)) s) :=
  .of_wp fun prog w A R s h => by
    obtain ⟨hp, g, d, tk, os⟩ := s
    obtain ⟨hl, h⟩ := h
    wp_walk using wpAny_loadPart' hl, wpAny_load hl
    exact ⟨_, rfl, h⟩
theorem dict_no_str (l : Addr) (es : Array DictEntry) (n : Nat) (dd : Option Addr) (sl : Array (Option Value)) (b : Str) (u : Tok) :
    Meets (Builtin.«dict.__eq__» ⟨[.ref l, .str b u], []⟩) (fun _ R s => s.heap.get? l = some { cls := .type "dict", dict := dd, data := .dict es n, slots := sl } ∧ R (.ok (.ret .notImplemented)) s) :=
  .of_wp fun prog w A R s h => by
    obtain ⟨hp, g, d, tk, os⟩ := s
    obtain ⟨hl, h⟩ := h
    have f1 : isSubtype (.type "str") (.type "dict") = pure false := by rw [isSubtype_type]; kernel_rfl
    wp_walk using wpAny_loadPart' hl, wpAny_load hl
    exact ⟨_, rfl, h⟩
section
variable {A : Around} {s : Shared}
theorem str_dict {l : Addr} {o : Obj} {es : Array DictEntry} {n : Nat} (b : Str) (u : Tok) (ho : s.heap.get? l = some o) (hc : o.cls = .type "dict") (hd : o.data = .dict es n) (hu : A.units < cLine) : EqAt A s (.str b u) (.ref l) false := fun prog w E Q h => by
  obtain ⟨cls, dd, data, sl⟩ := o
  simp only at hc hd
  subst hc hd
  unfold eqBool
  refine wpAny_holding ?_
  refine wpAny_ite_split (fun hab => absurd (eq_of_beq hab) nofun) (fun _ => ?_)
  refine wpAny_bind (rc_eq_decline_or (k := false) (typeIs_str s b u) ⟨_, ho, rfl⟩ (by decide) F.sub_dict_str F.slot_str_eq F.slot_dict_eq_refl ?_ ?_ ?_ (.inr hu) (wpAny_truthy_bool h))
  · exact fun _ hq => call_meets F.slot_str_eq (typeIs_str s b u) F.entry_str_eq (F.args_str_eq_2 _ _) (str_no_dict b u l (.type "dict") es n dd sl) ⟨ho, hq⟩
  · exact fun _ hq => call_meets F.slot_dict_eq_refl ⟨_, ho, rfl⟩ F.entry_dict_eq (F.args_dict_eq_2 _ _) (dict_no_str l es n dd sl b u) ⟨ho, hq⟩
  · exact fun _ hq => wpAny_of_eq (rfl : isSame (.str b u) (.ref l) = pure false) hq
end
end PySem.SeqAt
namespace Ow
open PySem PySem.Spec PyProof.Rows L2
/-- whether a text is among some, of any data -/
def memD (d : PyData) (zs : List Str) : Bool := match d with
  | .str z => decide (z ∈ zs)
  | _ => false
/-- the equality that such an item has with the data -/
def eqD (d : PyData) : Value → Bool
  | .str b _ => (match d with | .str z => decide (b = z) | _ => false)
  | _ => false
section
variable {X : Cx} {pins : List (Addr × Obj)} {σ : L2.St} {H : Hp} {s : Shared} {N : Addr → Prop}
/-- a text beside data -/
theorem eq_text (I : Inv X pins σ H s) {A : Around} (hu : A.units < cLine) {v : V} {d : PyData} (h : Da X.K N H v d) {u : Value} (r : RelV v u) (b : Str) (t : Tok) : SeqAt.EqAt A s (.str b t) u (eqD d (.str b t)) := by
  cases h with
  | non => cases r; exact .str_none b t
  | bl x => cases r; exact .str_bool b t x
  | int i =>
    obtain ⟨t2, rfl⟩ := r
    exact .str_int b t i t2
  | str x =>
    obtain ⟨t2, rfl⟩ := r
    have e := SeqAt.EqAt.str_str (A := A) (s := s) b t x t2
    have e2 : (b == x) = decide (b = x) := by
      by_cases z : b = x
      · subst z
        simp
      · rw [decide_eq_false z]
        exact beq_eq_false_iff_ne.mpr z
    rw [e2] at e
    exact e
  | lst h1 h2 h3 =>
    cases r
    obtain ⟨its, rv, ⟨o, n, ho, hc, _, hd⟩, _⟩ := I.list (SqL.of h1)
    exact .str_list b t ⟨o, ho, hc, n, hd⟩ hu
  | tup h1 h3 =>
    cases r
    obtain ⟨its, rv, ht, _⟩ := I.tuple h1
    exact .str_tuple b t ht hu
  | dct h1 h2 h3 =>
    cases r
    obtain ⟨_, hsys, vs, kv, o, es, ep, ho, hx, hd, _⟩ := I.hok _ _ h1
    exact SeqAt.str_dict b t ho hx.1 hd hu
/-- x in a tuple of texts, x not in it -/
def rInT (K : PySem.W.Frag) (neg : Bool) : R2 := fun x y H Q => ∃ (N : Addr → Prop) (t : Addr) (zs : List Str) (d : PyData), y = .ref t ∧ SqT K H t (zs.map V.str) ∧ Da K N H x d ∧ Q (.bl (if neg then !memD d zs else memD d zs)) H
theorem strs_of : ∀ {zs : List Str} {us : List Value}, Vals (zs.map V.str) us → ∀ y ∈ us, ∃ z t, z ∈ zs ∧ y = .str z t
  | [], _, r, y, h => by
    cases r
    cases h
  | z :: zs, _, r, y, h => by
    rw [List.map_cons] at r
    cases r with
    | cons r1 r2 =>
      rcases List.mem_cons.mp h with e | h
      · obtain ⟨t, q⟩ := r1
        exact ⟨z, t, List.mem_cons_self .., e.trans q⟩
      · obtain ⟨z', t, h1, h2⟩ := strs_of r2 y h
        exact ⟨z', t, List.mem_cons_of_mem _ h1, h2⟩
theorem any_strs (d : PyData) : ∀ {zs : List Str} {us : List Value}, Vals (zs.map V.str) us → us.any (eqD d) = memD d zs
  | [], _, r => by
    cases r
    cases d <;> rfl
  | z :: zs, _, r => by
    rw [List.map_cons] at r
    cases r with
    | cons r1 r2 =>
      obtain ⟨t, rfl⟩ := r1
      rw [List.any_cons, any_strs d r2]
      cases d with
      | str x =>
        show (decide (z = x) || decide (x ∈ zs)) = decide (x ∈ z :: zs)
        rw [← Bool.decide_or]
        exact decide_eq_decide.mpr ⟨fun e => e.elim (fun e => e ▸ List.mem_cons_self ..) (List.mem_cons_of_mem _), fun e => (List.mem_cons.mp e).imp Eq.symm id⟩
      | _ => rfl
theorem op_inT (hu : X.A.units + 64 < cLine) : OpR X (compareOp .In) (rInT X.K false) := by
  intro pins s σ H x y v u Q I rx ry h
  obtain ⟨p, t, zs, d, rfl, ht, hd, q⟩ := h
  cases ry
  obtain ⟨its, rv, hit, _⟩ := I.tuple ht
  refine SeqAt.in_tupleAt (eqD d) hit (fun y hy => ?_) ?_
  · obtain ⟨z, tk, _, rfl⟩ := strs_of rv y (by simpa using hy)
    exact eq_text I (A := X.A.in1) (by show X.A.units + 1 < cLine; omega) hd rx z tk
  · refine ⟨.bl _, H, I, ?_, q⟩
    show Value.bool _ = Value.bool _
    rw [← any_strs d rv]
    simp
theorem op_notInT (hu : X.A.units + 64 < cLine) : OpR X (compareOp .NotIn) (rInT X.K true) := by
  intro pins s σ H x y v u Q I rx ry h
  obtain ⟨p, t, zs, d, rfl, ht, hd, q⟩ := h
  cases ry
  obtain ⟨its, rv, hit, _⟩ := I.tuple ht
  refine SeqAt.notIn_tupleAt (eqD d) hit (fun y hy => ?_) ?_
  · obtain ⟨z, tk, _, rfl⟩ := strs_of rv y (by simpa using hy)
    exact eq_text I (A := X.A.in1) (by show X.A.units + 1 < cLine; omega) hd rx z tk
  · refine ⟨.bl _, H, I, ?_, q⟩
    show Value.bool _ = Value.bool _
    rw [← any_strs d rv]
    simp
/-! ### isinstance of data -/
def tyD : PyData → String
  | .none => "NoneType"
  | .bool _ => "bool"
  | .int _ => "int"
  | .str _ => "str"
  | .list _ => "list"
  | .tuple _ => "tuple"
  | .dict _ => "dict"
theorem Da.ty {K : PySem.W.Frag} {v : V} {d : PyData} (h : Da K N H v d) : TyX K H v (.type (tyD d)) := by
  cases h with
  | non => exact .base .non
  | bl b => exact .base (.bl b)
  | int i => exact .base (.int i)
  | str x => exact .base (.str x)
  | lst h1 _ _ => exact .base (.lst h1)
  | tup h1 _ =>
    rcases h1 with (h1 | ⟨o, h1⟩) | ⟨o, its, n, hk, hc, _⟩
    · exact .base (.tup h1)
    · exact .fTuple h1
    · exact .kTuple hk hc
  | dct h1 _ _ => exact .base (.dK h1)
/-- isinstance(x, T) of data, T one of the built-in types that laws ask for -/
def rIsD (K : PySem.W.Frag) : List V → Hp → VK → Prop := fun xs H Q => ∃ (N : Addr → Prop) (v : V) (d : PyData) (T : String), xs = [v, .ty T] ∧ Da K N H v d ∧ (T = "str" ∨ T = "tuple" ∨ T = "bool") ∧ Q (.bl (decide (tyD d = T))) H
theorem kit_all : ∀ t ∈ ["NoneType", "bool", "int", "str", "list", "tuple", "dict"], ∀ T ∈ ["str", "tuple", "bool"], kitB t T = some (decide (t = T)) := by decide +kernel
theorem kit_tyD (d : PyData) (T : String) (h : T = "str" ∨ T = "tuple" ∨ T = "bool") : kitB (tyD d) T = some (decide (tyD d = T)) := by
  refine kit_all _ ?_ _ ?_
  · cases d <;> simp [tyD]
  · simpa using h
theorem call_isD : CallR X (.builtin "isinstance") (rIsD X.K) := by
  intro pins s σ H xs us Q I r h
  obtain ⟨p, v, d, T, rfl, hd, hT, q⟩ := h
  exact call_isi pins s σ H _ us Q I r ⟨v, .ty T, _, _, _, rfl, .ty T, hd.ty, kit_ty (kit_tyD d T hT), q⟩
end
end Ow

/-! How large data is; what is a name, a kind. -/
namespace Ow
open PySem PySem.Spec PyProof.Rows L2
/-! ### sizes -/
structure FitAll (n m : Nat) (ds : List PyData) : Prop where
  sh : PyData.showableAll ds = true
  wt : wtAll ds ≤ n
  dp : PyData.depthAll ds ≤ m
section
variable {n m n' m' k : Nat} {d : PyData} {ds es : List PyData}
theorem FitAll.nil : FitAll n m [] := ⟨by rw [PyData.showableAll], by rw [wtAll]; exact Nat.zero_le _, by rw [PyData.depthAll]; exact Nat.zero_le _⟩
theorem FitAll.cons (f : Fit n m d) (g : FitAll n' m ds) : FitAll (n + 2 + n') m (d :: ds) := by
  refine ⟨?_, ?_, ?_⟩
  · rw [PyData.showableAll, f.sh, g.sh]
    rfl
  · rw [wtAll]
    have := f.wt
    have := g.wt
    omega
  · rw [PyData.depthAll]
    have := f.dp
    have := g.dp
    omega
theorem FitAll.le (f : FitAll n m ds) (h : n ≤ n') (k : m ≤ m') : FitAll n' m' ds := ⟨f.sh, Nat.le_trans f.wt h, Nat.le_trans f.dp k⟩
theorem FitAll.append : ∀ {ds : List PyData} {n : Nat}, FitAll n m ds → FitAll n' m es → FitAll (n + n') m (ds ++ es)
  | [], n, _, g => g.le (by omega) (Nat.le_refl _)
  | d :: ds, n, f, g => by
    have hs := f.sh
    rw [PyData.showableAll, Bool.and_eq_true] at hs
    have hw := f.wt
    rw [wtAll] at hw
    have hd := f.dp
    rw [PyData.depthAll] at hd
    have f1 : Fit (Ow.wt d) m d := ⟨hs.1, Nat.le_refl _, by omega⟩
    have f2 : FitAll (wtAll ds) m ds := ⟨hs.2, Nat.le_refl _, by omega⟩
    exact (FitAll.cons f1 (f2.append g)).le (by omega) (Nat.le_refl _)
theorem Fit.tup (f : FitAll n m ds) : Fit (n + 4) (m + 1) (.tuple ds) := by
  refine ⟨by rw [PyData.showable]; exact f.sh, ?_, ?_⟩
  · rw [Ow.wt]
    have := f.wt
    omega
  · rw [PyData.depth]
    have := f.dp
    omega
theorem Fit.lst (f : FitAll n m ds) : Fit (n + 4) (m + 1) (.list ds) := by
  refine ⟨by rw [PyData.showable]; exact f.sh, ?_, ?_⟩
  · rw [Ow.wt]
    have := f.wt
    omega
  · rw [PyData.depth]
    have := f.dp
    omega
theorem Fit.items (f : Fit n (m + 1) (.tuple ds)) : 4 ≤ n ∧ FitAll (n - 4) m ds := by
  have h1 := f.sh
  have h2 := f.wt
  have h3 := f.dp
  rw [PyData.showable] at h1
  rw [Ow.wt] at h2
  rw [PyData.depth] at h3
  exact ⟨by omega, h1, by omega, by omega⟩
theorem Fit.deep (f : Fit n m (.tuple ds)) : ∃ m', m = m' + 1 := by
  have h3 := f.dp
  rw [PyData.depth] at h3
  exact ⟨m - 1, by omega⟩
theorem FitAll.split (f : FitAll n m ds) (k : Nat) : ∃ a b, a + b ≤ n ∧ FitAll a m (ds.take k) ∧ FitAll b m (ds.drop k) := by
  induction k generalizing ds n with
  | zero => exact ⟨0, n, by omega, .nil, by simpa using f⟩
  | succ k ih =>
    cases ds with
    | nil => exact ⟨0, 0, by omega, .nil, .nil⟩
    | cons d ds =>
      have hs := f.sh
      rw [PyData.showableAll, Bool.and_eq_true] at hs
      have hw := f.wt
      rw [wtAll] at hw
      have hd := f.dp
      rw [PyData.depthAll] at hd
      have f1 : Fit (Ow.wt d) m d := ⟨hs.1, Nat.le_refl _, by omega⟩
      have f2 : FitAll (wtAll ds) m ds := ⟨hs.2, Nat.le_refl _, by omega⟩
      obtain ⟨a, b, hab, fa, fb⟩ := ih f2
      exact ⟨Ow.wt d + 2 + a, b, by omega, .cons f1 fa, fb⟩
theorem FitAll.get {i : Nat} (f : FitAll n m ds) (h : ds[i]? = some d) : ∃ a b c, a + b + 2 + c ≤ n ∧ FitAll a m (ds.take i) ∧ Fit b m d ∧ FitAll c m (ds.drop (i + 1)) := by
  obtain ⟨a, b, hab, fa, fb⟩ := f.split i
  obtain ⟨hi, e⟩ := List.getElem?_eq_some_iff.mp h
  have q : ds.drop i = d :: ds.drop (i + 1) := by
    rw [← e]
    exact List.drop_eq_getElem_cons hi
  rw [q] at fb
  have hs := fb.sh
  rw [PyData.showableAll, Bool.and_eq_true] at hs
  have hw := fb.wt
  rw [wtAll] at hw
  have hd := fb.dp
  rw [PyData.depthAll] at hd
  exact ⟨a, Ow.wt d, wtAll (ds.drop (i + 1)), by omega, fa, ⟨hs.1, Nat.le_refl _, by omega⟩, ⟨hs.2, Nat.le_refl _, by omega⟩⟩
theorem FitAll.rep (f : Fit n m d) : ∀ k : Nat, ∀ {ds : List PyData}, ds.length = k → (∀ e ∈ ds, Fit n m e) → FitAll (k * (n + 2)) m ds
  | 0, [], _, _ => .nil
  | k + 1, e :: ds, h, g => by
    have h2 := FitAll.rep f k (ds := ds) (by simpa using h) fun x hx => g x (List.mem_cons_of_mem _ hx)
    refine (FitAll.cons (g e (List.mem_cons_self ..)) h2).le ?_ (Nat.le_refl _)
    rw [Nat.succ_mul]
    omega
end
theorem fit_str {x : Str} {n : Nat} (hc : ∀ c ∈ x.cps.toList, c < 16 ^ 8) (hn : x.length ≤ n) : Fit (11 * n + 2) 0 (.str x) := by
  refine ⟨by rw [PyData.showable], ?_, ?_⟩
  · rw [Ow.wt]
    have := StrLaws.reprText_len x hc
    omega
  · simp only [PyData.depth]
    exact Nat.zero_le _
theorem fit_nm {x : Str} (h : Nm x) : Fit 90 0 (.str x) := (fit_str (n := 8) (fun c hc => by have := (h.2.2 c hc).2; omega) h.2.1).le (by decide) (Nat.le_refl _)
theorem fit_str_len {n m : Nat} {x : Str} (f : Fit n m (.str x)) : x.length ≤ n := by
  have h := f.wt
  rw [Ow.wt] at h
  omega
/-! ### a tuple beside the empty one -/
def rEqU (K : PySem.W.Frag) : R2 := fun x y H Q => ∃ (a b : Addr) (xs : List V), x = .ref a ∧ y = .ref b ∧ SqT K H a xs ∧ SqT K H b [] ∧ Q (.bl xs.isEmpty) H
theorem op_eqU {X : Cx} (hu : X.A.units + 64 < cLine) : OpR X (compareOp .Eq) (rEqU X.K) := by
  intro pins s σ H x y v u Q I rx ry h
  obtain ⟨a, b, xs, rfl, rfl, ha, hb, q⟩ := h
  cases rx
  cases ry
  obtain ⟨its, rv, hit, _⟩ := I.tuple ha
  obtain ⟨its2, rv2, hit2, _⟩ := I.tuple hb
  cases rv2
  refine SeqAt.eq_tupleAt (e := fun _ => true) hit hit2 (by omega) (fun j h1 h2 => ?_) ?_
  · exact absurd h2 (Nat.not_lt_zero _)
  · refine ⟨.bl _, H, I, ?_, q⟩
    show Value.bool _ = Value.bool _
    cases rv with
    | nil => rfl
    | cons _ _ => simp
/-! ### names and kinds, of any data -/
def isNameD : PyData → Bool
  | .str z => decide (1 ≤ z.length) && decide (z.length ≤ 8) && z.cps.toList.all fun c => decide (c ∈ abc.cps.toList)
  | _ => false
def isRowD (d : PyData) (a b : Int) : Bool := match d with
  | .tuple ds => decide (a ≤ ds.length) && decide ((ds.length : Int) ≤ b)
  | _ => false
abbrev signs2 : List Str := [Str.ofString ">", Str.ofString "*"]
/-- a kind of at most so many within one another -/
def kindW : Nat → PyData → Bool
  | 0, _ => false
  | n + 1, d => match d with
    | .str z => isNameD (.str z)
    | .tuple [s, a, b] => decide (n ≠ 0) && memD s signs2 && kindW n a && kindW n b
    | _ => false
/-- whether no function stands in a kind -/
def shownW : Nat → PyData → Bool
  | 0, _ => true
  | n + 1, d => match d with
    | .tuple [s, a, b] => !(memD s [Str.ofString ">"]) && shownW n a && shownW n b
    | _ => true
end Ow
namespace Ow
open PySem PySem.Spec PyProof.Rows L2
section
variable {K : PySem.W.Frag} {N : Addr → Prop} {H H' : Hp}
theorem sqT_same {a : Addr} {xs : List V} (k : Same H H') (h : SqT K H a xs) : SqT K H' a xs := by
  rcases h with (h | ⟨o, h⟩) | h
  · exact .inl (.inl (k _ _ h))
  · exact .inl (.inr ⟨o, k _ _ h⟩)
  · exact .inr h
mutual
theorem Da.same (k : Same H H') : ∀ {v : V} {d : PyData}, Da K N H v d → Da K N H' v d
  | _, _, .non => .non
  | _, _, .bl b => .bl b
  | _, _, .int i => .int i
  | _, _, .str x => .str x
  | _, _, .lst h ne r => .lst (k _ _ h) ne (DaAll.same k r)
  | _, _, .tup h r => .tup (sqT_same k h) (DaAll.same k r)
  | _, _, .dct h ne r => .dct (k _ _ h) ne (DaAll.same k r)
theorem DaAll.same (k : Same H H') : ∀ {vs : List V} {ds : List PyData}, DaAll K N H vs ds → DaAll K N H' vs ds
  | _, _, .nil => .nil
  | _, _, .cons a r => .cons (Da.same k a) (DaAll.same k r)
end
theorem Da.tupInv {v : V} {ds : List PyData} (h : Da K N H v (.tuple ds)) : ∃ a xs, v = .ref a ∧ SqT K H a xs ∧ DaAll K N H xs ds := by
  cases h with
  | tup h r => exact ⟨_, _, rfl, h, r⟩
theorem Da.strInv {v : V} {x : Str} (h : Da K N H v (.str x)) : v = .str x := by
  cases h
  rfl
theorem Da.tup3 {v : V} {s a b : PyData} (h : Da K N H v (.tuple [s, a, b])) : ∃ t x y z, v = .ref t ∧ SqT K H t [x, y, z] ∧ Da K N H x s ∧ Da K N H y a ∧ Da K N H z b := by
  obtain ⟨t, xs, rfl, h1, h2⟩ := h.tupInv
  cases h2 with
  | cons g1 h2 =>
    cases h2 with
    | cons g2 h2 =>
      cases h2 with
      | cons g3 h2 =>
        cases h2
        exact ⟨_, _, _, _, rfl, h1, g1, g2, g3⟩
end
theorem ty_str {d : PyData} (h : tyD d = "str") : ∃ x, d = .str x := by
  cases d <;> simp [tyD] at h ⊢
theorem ty_tup {d : PyData} (h : tyD d = "tuple") : ∃ ds, d = .tuple ds := by
  cases d <;> simp [tyD] at h ⊢
theorem row3 {d : PyData} (h : isRowD d 3 3 = true) : ∃ s a b, d = .tuple [s, a, b] := by
  cases d with
  | tuple ds =>
    simp only [isRowD, Bool.and_eq_true, decide_eq_true_eq] at h
    match ds, h with
    | [s, a, b], _ => exact ⟨s, a, b, rfl⟩
    | [], h => simp at h
    | [_], h => simp at h
    | [_, _], h => simp at h
    | _ :: _ :: _ :: _ :: _, h =>
      simp only [List.length_cons] at h
      omega
  | _ => simp [isRowD] at h
theorem kind_str (n : Nat) (x : Str) : kindW (n + 1) (.str x) = isNameD (.str x) := rfl
theorem kind_tup (n : Nat) (s a b : PyData) : kindW (n + 1) (.tuple [s, a, b]) = (decide (n ≠ 0) && memD s signs2 && kindW n a && kindW n b) := rfl
theorem kind_no {n : Nat} {d : PyData} (h : tyD d ≠ "str") (h2 : n = 0 ∨ isRowD d 3 3 = false) : kindW (n + 1) d = false := by
  cases d with
  | str x => exact absurd rfl h
  | tuple ds =>
    match ds with
    | [s, a, b] =>
      rw [kind_tup]
      rcases h2 with h2 | h2
      · rw [h2]
        rfl
      · simp [isRowD] at h2
    | [] => rfl
    | [_] => rfl
    | [_, _] => rfl
    | _ :: _ :: _ :: _ :: _ => rfl
  | _ => rfl
theorem fit3 {n m : Nat} {s a b : PyData} (f : Fit n m (.tuple [s, a, b])) : Fit n m s ∧ Fit n m a ∧ Fit n m b := by
  obtain ⟨m', rfl⟩ := f.deep
  obtain ⟨h4, g⟩ := f.items
  obtain ⟨_, _, _, _, _, g0, _⟩ := g.get (i := 0) rfl
  obtain ⟨_, _, _, _, _, g1, _⟩ := g.get (i := 1) rfl
  obtain ⟨_, _, _, _, _, g2, _⟩ := g.get (i := 2) rfl
  exact ⟨g0.le (by omega) (by omega), g1.le (by omega) (by omega), g2.le (by omega) (by omega)⟩
/-! ### what the program's and the law's own looks promise -/
def spIsRow (K : PySem.W.Frag) : Sp := fun vs H Q _ => ∃ (N : Addr → Prop) (v : V) (d : PyData) (a b : Int), vs = [v, .int a, .int b] ∧ Da K N H v d ∧ Q (.bl (isRowD d a b)) H
def spIsName (K : PySem.W.Frag) : Sp := fun vs H Q _ => ∃ (N : Addr → Prop) (v : V) (d : PyData) (n m : Nat), vs = [v] ∧ Da K N H v d ∧ Fit n m d ∧ n ≤ 16000000 ∧ ∀ H', Same H H' → Q (.bl (isNameD d)) H'
def spKindW (K : PySem.W.Frag) (k : Nat) : Sp := fun vs H Q _ => ∃ (N : Addr → Prop) (v : V) (d : PyData) (n m : Nat) (z : Int), vs = [v, .int z] ∧ z = (k : Int) ∧ 1 ≤ k ∧ Da K N H v d ∧ Fit n m d ∧ n ≤ 16000000 ∧ ∀ H', Same H H' → Q (.bl (kindW k d)) H'
def spKind (K : PySem.W.Frag) : Sp := fun vs H Q _ => ∃ (N : Addr → Prop) (v : V) (d : PyData) (n m : Nat), vs = [v] ∧ Da K N H v d ∧ Fit n m d ∧ n ≤ 16000000 ∧ ∀ H', Same H H' → Q (.bl (kindW 6 d)) H'
def spShown (K : PySem.W.Frag) (neg : Bool) (k : Nat) : Sp := fun vs H Q _ => ∃ (N : Addr → Prop) (v : V) (d : PyData), vs = [v] ∧ Da K N H v d ∧ kindW k d = true ∧ Q (.bl (if neg then !shownW k d else shownW k d)) H
end Ow

/-! Comprehensions whose element is plain. -/
namespace Ow
open PySem PySem.Spec PyProof.Rows L2
/-- what a comprehension over J asks: the new list at D -/
def LcG (J : It) (g : TG) (tt : TT) (te : TE) (vs : List Nat) (σ : L2.St) (H1 : Hp) (D : Addr) (Qd : Hp → Prop) : Prop :=
  ∃ W : Nat → Nat → Hp → Prop, (∃ m, W 0 m (upd H1 D (.lst []))) ∧
    ∀ i m H, W i m H → (J.stop i H ∧ Qd H) ∨ (J.go i H ∧ ∃ Nx : Hp → Prop, (∀ H', Nx H' → ∃ m', m' < m ∧ W (i + 1) m' H') ∧
      ∀ x H', J.yld i H x H' → g x (wipe σ vs) H' fun σ2 H2 => wipe σ2 vs = wipe σ vs ∧
        tt σ2 H2 fun b H3 => if b = true then te σ2 H3 fun y H4 => ∃ acc, H4 D = some (.lst acc) ∧ acc.length < sizeLine ∧ Nx (upd H4 D (.lst (acc ++ [y]))) else Nx H3)
section
variable {j : Nat} {te : TE} {vs : List Nat} {σ : L2.St} {H1 : Hp} {D : Addr} {Qd : Hp → Prop}
/-- over a text: each sign's value is f of its code -/
theorem lc_str_map {x : Str} (f : Nat → V) (hx : x.cps.size < sizeLine) (hw : ∀ v, wipe ((wipe σ vs).set j (some v)) vs = wipe σ vs)
    (hv : ∀ c ∈ x.cps.toList, ∀ (H2 : Hp) (Q : VK), Q (f c) H2 → te ((wipe σ vs).set j (some (.str ⟨#[c]⟩))) H2 Q)
    (hd : Qd (upd H1 D (.lst (x.cps.toList.map f)))) : LcG (Its x) (gName j) tYes te vs σ H1 D Qd := by
  refine ⟨fun i m H => m = x.cps.size - i ∧ i ≤ x.cps.size ∧ H = upd H1 D (.lst ((x.cps.toList.take i).map f)), ⟨_, rfl, Nat.zero_le _, rfl⟩, ?_⟩
  rintro i m H ⟨rfl, hi, rfl⟩
  by_cases hl : i < x.cps.size
  · refine .inr ⟨hl, fun H => H = upd H1 D (.lst ((x.cps.toList.take (i + 1)).map f)), fun H' e => ⟨x.cps.size - (i + 1), by omega, rfl, hl, e⟩, fun y H' z => ?_⟩
    obtain ⟨rfl, c, hc, rfl⟩ := z
    have hc2 : x.cps.toList[i]? = some c := by
      rw [Array.getElem?_toList]
      exact hc
    refine ⟨hw _, ?_⟩
    simp only [tYes, if_true]
    refine hv c (List.mem_of_getElem? hc2) _ _ ⟨_, upd_same, ?_, ?_⟩
    · rw [List.length_map, List.length_take]
      omega
    · rw [upd_upd, List.take_add_one, hc2, List.map_append]
      rfl
  · have e : i = x.cps.size := by omega
    subst e
    refine .inl ⟨Nat.le_refl _, ?_⟩
    rw [List.take_of_length_le (by simp)]
    exact hd
/-- over a list or a tuple that stays: each item's value is f of it -/
theorem lc_seq_map {K : PySem.W.Frag} {J : It} {xs : List V} (hJ : ∀ i H, (i < xs.length → Same H1 H → J.go i H) ∧ (xs.length ≤ i → Same H1 H → J.stop i H)) (hy : ∀ i H x H', Same H1 H → J.yld i H x H' → H' = H ∧ xs[i]? = some x)
    (hD : H1 D = none) (f : V → V) (hx : xs.length < sizeLine) (hw : ∀ v, wipe ((wipe σ vs).set j (some v)) vs = wipe σ vs)
    (hv : ∀ x ∈ xs, ∀ (H2 : Hp) (Q : VK), Same H1 H2 → Q (f x) H2 → te ((wipe σ vs).set j (some x)) H2 Q)
    (hd : Qd (upd H1 D (.lst (xs.map f)))) : LcG J (gName j) tYes te vs σ H1 D Qd := by
  refine ⟨fun i m H => m = xs.length - i ∧ i ≤ xs.length ∧ H = upd H1 D (.lst ((xs.take i).map f)), ⟨_, rfl, Nat.zero_le _, rfl⟩, ?_⟩
  rintro i m H ⟨rfl, hi, rfl⟩
  have sm : ∀ l, Same H1 (upd H1 D (.lst l)) := fun l => same_new hD
  by_cases hl : i < xs.length
  · refine .inr ⟨(hJ i _).1 hl (sm _), fun H => H = upd H1 D (.lst ((xs.take (i + 1)).map f)), fun H' e => ⟨xs.length - (i + 1), by omega, rfl, hl, e⟩, fun y H' z => ?_⟩
    obtain ⟨rfl, hc⟩ := hy i _ y H' (sm _) z
    refine ⟨hw _, ?_⟩
    simp only [tYes, if_true]
    refine hv y (List.mem_of_getElem? hc) _ _ (sm _) ⟨_, upd_same, ?_, ?_⟩
    · rw [List.length_map, List.length_take]
      omega
    · rw [upd_upd, List.take_add_one, hc, List.map_append]
      rfl
  · have e : i = xs.length := by omega
    subst e
    refine .inl ⟨(hJ _ _).2 (Nat.le_refl _) (sm _), ?_⟩
    rw [List.take_of_length_le (Nat.le_refl _)]
    exact hd
end
end Ow
namespace Ow
open PySem PySem.Spec PyProof.Rows L2
theorem kind_cases {n : Nat} {d : PyData} (h : kindW n d = true) : (∃ x, d = .str x) ∨ ∃ (m : Nat) (sg : Str) (a b : PyData), n = m + 1 ∧ d = .tuple [.str sg, a, b] ∧ sg ∈ signs2 ∧ kindW m a = true ∧ kindW m b = true := by
  cases n with
  | zero => cases h
  | succ n =>
    by_cases ht : tyD d = "str"
    · exact .inl (ty_str ht)
    · cases hr : isRowD d 3 3 with
      | false =>
        rw [kind_no ht (.inr hr)] at h
        cases h
      | true =>
        obtain ⟨s, a, b, rfl⟩ := row3 hr
        rw [kind_tup] at h
        simp only [Bool.and_eq_true] at h
        obtain ⟨⟨⟨_, h2⟩, h3⟩, h4⟩ := h
        cases s with
        | str sg => exact .inr ⟨n, sg, a, b, rfl, rfl, of_decide_eq_true h2, h3, h4⟩
        | _ => cases h2
theorem shown_str (n : Nat) (x : Str) : shownW n (.str x) = true := by cases n <;> rfl
theorem shown_tup (n : Nat) (s a b : PyData) : shownW (n + 1) (.tuple [s, a, b]) = (!(memD s [Str.ofString ">"]) && shownW n a && shownW n b) := rfl
theorem mem_one (sg z : Str) : memD (.str sg) [z] = decide (sg = z) := by
  show decide (sg ∈ [z]) = _
  simp
end Ow
namespace Ow
open PySem PySem.Spec PyProof.Rows L2
/-! ### what the drawing defs promise -/
def bAny : Nat → Nat
  | 0 => 60
  | n + 1 => 5 * (bAny n + 2) + 20
theorem bAny_ge : ∀ n : Nat, 60 ≤ bAny n
  | 0 => Nat.le_refl _
  | n + 1 => by
    have := bAny_ge n
    show 60 ≤ 5 * (bAny n + 2) + 20
    omega
def spAny (K : PySem.W.Frag) (k : Nat) : Sp := fun vs H Q _ => ∃ (p c : Addr) (z : Int), vs = [.ref p, .int z] ∧ z = (k : Int) ∧ k ≤ 4 ∧ Pen H p c ∧
  ∀ (v : V) (d : PyData) (H' : Hp), Da K (Tk H) H' v d → Fit (bAny k) (2 * k) d → Pen H' p c → Kp p H H' → Q v H'
abbrev anyList : List V := [.int 0, .bl true, .non, .str "", .str "x", .str "^", .str "Ab", .str "x1", .int (-(10 ^ (39 : Int).toNat)), .str "abcdefghi"]
theorem fit_of {d : PyData} (h : (d.showable && decide (wt d ≤ 60) && decide (d.depth ≤ 0)) = true) : Fit 60 0 d := by
  simp only [Bool.and_eq_true, decide_eq_true_eq] at h
  exact ⟨h.1.1, h.1.2, h.2⟩
theorem any_at {n : Int} (h0 : 0 ≤ n) (h1 : n < 10) : ∃ (v : V) (d : PyData), atI anyList n = some v ∧ (∀ K N H, Da K N H v d) ∧ Fit 60 0 d := by
  have : n = 0 ∨ n = 1 ∨ n = 2 ∨ n = 3 ∨ n = 4 ∨ n = 5 ∨ n = 6 ∨ n = 7 ∨ n = 8 ∨ n = 9 := by omega
  rcases this with rfl | rfl | rfl | rfl | rfl | rfl | rfl | rfl | rfl | rfl
  · exact ⟨_, _, rfl, fun _ _ _ => .int _, fit_of (by decide +kernel)⟩
  · exact ⟨_, _, rfl, fun _ _ _ => .bl _, fit_of (by decide +kernel)⟩
  · exact ⟨_, _, rfl, fun _ _ _ => .non, fit_of (by decide +kernel)⟩
  · exact ⟨_, _, rfl, fun _ _ _ => .str _, fit_of (by decide +kernel)⟩
  · exact ⟨_, _, rfl, fun _ _ _ => .str _, fit_of (by decide +kernel)⟩
  · exact ⟨_, _, rfl, fun _ _ _ => .str _, fit_of (by decide +kernel)⟩
  · exact ⟨_, _, rfl, fun _ _ _ => .str _, fit_of (by decide +kernel)⟩
  · exact ⟨_, _, rfl, fun _ _ _ => .str _, fit_of (by decide +kernel)⟩
  · exact ⟨_, _, rfl, fun _ _ _ => .int _, fit_of (by decide +kernel)⟩
  · exact ⟨_, _, rfl, fun _ _ _ => .str _, fit_of (by decide +kernel)⟩
section
variable {K : PySem.W.Frag} {N : Addr → Prop} {H H' : Hp}
theorem Da.put {D : Addr} {o o' : HO} {v : V} {d : PyData} (h : Da K N H v d) (hD : H D = some o) (ht : ∀ xs, o ≠ .tup xs) (hf : ∀ ob u, o ≠ .frz ob u) (hN : N D) : Da K N (upd H D o') v d :=
  h.kp (p := D) Kp.self (fun xs r => by
    rcases r with r | ⟨ob, r⟩
    · rw [hD] at r
      exact ht _ (Option.some.inj r)
    · rw [hD] at r
      exact hf _ _ (Option.some.inj r)) hN
theorem DaAll.put {D : Addr} {o o' : HO} {vs : List V} {ds : List PyData} (h : DaAll K N H vs ds) (hD : H D = some o) (ht : ∀ xs, o ≠ .tup xs) (hf : ∀ ob u, o ≠ .frz ob u) (hN : N D) : DaAll K N (upd H D o') vs ds :=
  h.kp (p := D) Kp.self (fun xs r => by
    rcases r with r | ⟨ob, r⟩
    · rw [hD] at r
      exact ht _ (Option.some.inj r)
    · rw [hD] at r
      exact hf _ _ (Option.some.inj r)) hN
end
theorem Pen.keepTk {H H0 : Hp} {p c D : Addr} {o : HO} (h : Pen H p c) (h0 : Pen H0 p c) (hD : H0 D = none) : Pen (upd H D o) p c := h.keep (h0.neP hD) (h0.neC hD)
end Ow
namespace Ow
open PySem PySem.Spec PyProof.Rows L2
/-- data without lists and dicts avoids all -/
abbrev All : Addr → Prop := fun _ => True
def bKind : Nat → Nat
  | 0 => 90
  | n + 1 => 2 * (bKind n + 2) + 12
def spRough (K : PySem.W.Frag) (k : Nat) : Sp := fun vs H Q _ => ∃ (p c : Addr) (z : Int), vs = [.ref p, .int z] ∧ z = (k : Int) ∧ k ≤ 6 ∧ Pen H p c ∧
  ∀ (v : V) (d : PyData) (H' : Hp), Da K All H' v d → Fit (bKind k) k d → Pen H' p c → Kp p H H' → Q v H'
theorem bKind_ge : ∀ n : Nat, 90 ≤ bKind n
  | 0 => Nat.le_refl _
  | n + 1 => by
    have := bKind_ge n
    show 90 ≤ 2 * (bKind n + 2) + 12
    omega
theorem fit_sign {x : Str} (h : wt (.str x) ≤ 4) : Fit 4 0 (.str x) := ⟨by rw [PyData.showable], h, by simp only [PyData.depth]; exact Nat.zero_le _⟩
abbrev signs3 : List V := [.str ">", .str "*"]
theorem sign_at {n : Int} (h0 : 0 ≤ n) (h1 : n < 2) : ∃ x : Str, atI signs3 n = some (.str x) ∧ Fit 4 0 (.str x) ∧ x ∈ signs2 := by
  have : n = 0 ∨ n = 1 := by omega
  rcases this with rfl | rfl
  · exact ⟨_, rfl, fit_sign (by decide +kernel), by simp⟩
  · exact ⟨_, rfl, fit_sign (by decide +kernel), by simp⟩
end Ow
namespace Ow
open PySem PySem.Spec PyProof.Rows L2
def spSpoil (K : PySem.W.Frag) (k : Nat) : Sp := fun vs H Q _ => ∃ (p c : Addr) (v : V) (d : PyData) (z : Int) (n m : Nat), vs = [.ref p, v, .int z] ∧ z = (k : Int) ∧ k ≤ 8 ∧ Pen H p c ∧ Da K All H v d ∧ Fit n m d ∧ n ≤ 4000000 ∧
  ∀ (v' : V) (d' : PyData) (H' : Hp), Da K (Tk H) H' v' d' → Fit (2 * n + 1800) (m + 8) d' → Pen H' p c → Kp p H H' → Q v' H'
section
variable {K : PySem.W.Frag} {H : Hp} {Q : VK} {a b : Addr} {xs ys : List V}
theorem cat_any (ha : SqT K H a xs) (hb : SqT K H b ys) (hl : xs.length + ys.length ≤ sizeLine) (k : ∀ t H', Same H H' → SqT K H' t (xs ++ ys) → Q (.ref t) H') : rCatA K (.ref a) (.ref b) H Q := by
  refine ⟨a, b, xs, ys, rfl, rfl, ha, hb, hl, fun e => ?_, fun _ e => ?_, fun _ _ p hp => ?_⟩
  · exact k b H (Same.refl H) (by rw [e, List.nil_append]; exact hb)
  · exact k a H (Same.refl H) (by rw [e, List.append_nil]; exact ha)
  · exact k p _ (same_new hp) (SqT.of upd_same)
theorem cut_any {lo hi : Option Int} (ha : SqT K H a xs) (k : ∀ t H', Same H H' → SqT K H' t (cutV xs lo hi) → Q (.ref t) H') : rSlA K (.ref a) lo hi H Q := by
  refine ⟨a, xs, rfl, ha, fun e => ?_, fun _ p hp => ?_⟩
  · refine k a H (Same.refl H) ?_
    have z : cutV xs lo hi = xs := by
      unfold cutV
      rw [e.1, e.2]
      simp
    rw [z]
    exact ha
  · exact k p _ (same_new hp) (SqT.of upd_same)
theorem cut_take (xs : List V) (k : Nat) : cutV xs none (some (k : Int)) = xs.take k := by
  unfold cutV
  rw [HT.sIx_none, HT.sIx_nat, List.drop_zero, Nat.sub_zero]
  by_cases h : k ≤ xs.length
  · rw [Nat.min_eq_left h]
  · rw [Nat.min_eq_right (by omega), List.take_of_length_le (Nat.le_refl _), List.take_of_length_le (by omega)]
theorem cut_drop (xs : List V) (k : Nat) : cutV xs (some (k : Int)) none = xs.drop k := by
  unfold cutV
  rw [HT.sIx_none, HT.sIx_nat]
  by_cases h : k ≤ xs.length
  · rw [Nat.min_eq_left h, List.take_of_length_le (by rw [List.length_drop]; exact Nat.le_refl _)]
  · rw [Nat.min_eq_right (by omega), Nat.sub_self, List.take_zero, List.drop_eq_nil_of_le (by omega)]
end
end Ow
namespace Ow
open PySem PySem.Spec PyProof.Rows L2
theorem len_wt : ∀ ds : List PyData, ds.length ≤ wtAll ds
  | [] => Nat.zero_le _
  | d :: ds => by
    have := len_wt ds
    rw [wtAll, List.length_cons]
    omega
theorem Kp.same {p : Addr} {H H1 H2 : Hp} (a : Kp p H H1) (s : Same H1 H2) : Kp p H H2 := a.trans (Kp.of s)
end Ow
namespace Ow
open PySem PySem.Spec PyProof.Rows L2
def spChain (K : PySem.W.Frag) : Sp := fun vs H Q _ => ∃ (p c : Addr) (z : Int), vs = [.ref p, .int z] ∧ 1 ≤ z ∧ z ≤ 7 ∧ Pen H p c ∧
  ∀ (v : V) (d : PyData) (H' : Hp), Da K All H' v d → Fit 2000 10 d → Pen H' p c → Kp p H H' → Q v H'
/-- the script is handed in, True comes out -/
def spLaw (K : PySem.W.Frag) : Sp := fun vs H Q _ => ∃ (a : Addr) (ns : List Int), vs = [.ref a] ∧ SqL K H a (ns.map V.int) ∧ ns.length ≤ 63 ∧ ∀ H', Q (.bl true) H'
abbrev signs4 : List V := [.str ">", .str "*", .str "*"]
theorem sign_at3 {n : Int} (h0 : 0 ≤ n) (h1 : n < 3) : ∃ x : Str, atI signs4 n = some (.str x) ∧ Fit 4 0 (.str x) := by
  have : n = 0 ∨ n = 1 ∨ n = 2 := by omega
  rcases this with rfl | rfl | rfl
  · exact ⟨_, rfl, fit_sign (by decide +kernel)⟩
  · exact ⟨_, rfl, fit_sign (by decide +kernel)⟩
  · exact ⟨_, rfl, fit_sign (by decide +kernel)⟩
abbrev tails7 : List V := [.str "", .str "a", .str "A", .str "_", .str " ", .str "1", .str "7"]
/-- a short text of small codes -/
def Sm (x : Str) (n : Nat) : Prop := x.length ≤ n ∧ ∀ c ∈ x.cps.toList, c < 16 ^ 8
theorem sm_of {x : Str} {n : Nat} (h : (decide (x.length ≤ n) && x.cps.toList.all fun c => decide (c < 16 ^ 8)) = true) : Sm x n := by
  simp only [Bool.and_eq_true, decide_eq_true_eq, List.all_eq_true] at h
  exact h
theorem tail_at {n : Int} (h0 : 0 ≤ n) (h1 : n < 7) : ∃ x : Str, atI tails7 n = some (.str x) ∧ Sm x 1 := by
  have : n = 0 ∨ n = 1 ∨ n = 2 ∨ n = 3 ∨ n = 4 ∨ n = 5 ∨ n = 6 := by omega
  rcases this with rfl | rfl | rfl | rfl | rfl | rfl | rfl <;> exact ⟨_, rfl, sm_of (by decide +kernel)⟩
theorem Nm.sm {x : Str} (h : Nm x) : Sm x 8 := ⟨h.2.1, fun c hc => by have := (h.2.2 c hc).2; omega⟩
theorem Sm.app {x y : Str} {n m : Nat} (h : Sm x n) (k : Sm y m) : Sm (x ++ y) (n + m) := by
  refine ⟨?_, fun c hc => ?_⟩
  · have := h.1
    have := k.1
    rw [strLen_append]
    omega
  · rw [app_cps] at hc
    exact (List.mem_append.mp hc).elim (h.2 c) (k.2 c)
theorem Sm.fit {x : Str} {n : Nat} (h : Sm x n) : Fit (11 * n + 2) 0 (.str x) := fit_str h.2 h.1
end Ow
namespace Ow
open PySem PySem.Spec PyProof.Rows L2
/-- two truths beside one another -/
def spTruth : Sp := fun vs H Q _ => ∃ a b : Bool, vs = [.bl a, .bl b] ∧ Q (.bl (decide (a = b))) H
theorem room_un {n k : Nat} (h : n + 16 * k + 200 < cLine) : n + 151 < cLine := by omega
end Ow
namespace Ow
open PySem PySem.Spec PyProof.Rows L2
section
variable {K : PySem.W.Frag} {mg : Str → Option Value} {h : Heap} {x : Str} {st : Stmt} {ps : List Str} {f : Addr} {od an : Option Addr} {sl : Array (Option Value)} {oc kV dc pm cd ct : Value}
theorem defAt_mk (X : K.In h) (G : h.Ns mainGlobals mg) (a : PySem.W.nsIn K mainGlobals x = some (some (.ref f)))
    (l : K.lookup f = some ⟨oc, od, .func (PySem.W.fnOf x x (defArgs st) (defBody st) (defScope st) .none kV dc pm an cd ct), sl⟩) (c : PySem.W.codeIn K cd x = true) (k : PySem.W.keepIn K (.ref f) = true)
    (hb : ∀ (kV doc pm : Value) (an : Option Addr) (cdv ct : Value) (us : List Value), us.length = ps.length → bindArgs (PySem.W.fnOf x x (defArgs st) (defBody st) (defScope st) .none kV doc pm an cdv ct) ⟨us, []⟩ = pure (ps.zip us)) : DefAt K mg x st ps :=
  ⟨f, _, fun_mk l c k, PySem.W.mg_of X G a, (fun_mk (st := st) l c k).binds hb⟩
theorem lawAt_mk {fa : Addr} {y : Str} (X : K.In h) (G : h.Ns mainGlobals mg) (hmg : mg x = some (.ref fa)) (a : PySem.W.nsIn K mainGlobals x = some (some (.ref f)))
    (l : K.lookup f = some ⟨oc, od, .func (PySem.W.fnOf x x (defArgs st) (defBody st) (defScope st) .none kV dc pm an cd ct), sl⟩) (c : PySem.W.codeIn K cd x = true) (k : PySem.W.keepIn K (.ref f) = true)
    (hb : ∀ (s : Shared) (u : Value), BindsTo s (PySem.W.fnOf x x (defArgs st) (defBody st) (defScope st) .none kV dc pm an cd ct) ⟨[u], []⟩ [(y, u)]) :
    ∃ fd, Fun K x x st fa fd ∧ ∀ (s : Shared) (u : Value), BindsTo s fd ⟨[u], []⟩ [(y, u)] := by
  have e := hmg.symm.trans (PySem.W.mg_of X G a)
  injection e with e
  injection e with e
  subst e
  exact ⟨_, fun_mk l c k, hb⟩
theorem gv_mk {v : V} {u : Value} (X : K.In h) (G : h.Ns mainGlobals mg) (a : PySem.W.nsIn K mainGlobals x = some (some u)) (r : RelV v u) : GV mg x v := ⟨u, PySem.W.mg_of X G a, r⟩
end
end Ow

/-! Drawn terms: their shape, their size. -/
namespace Ow
open PySem PySem.Spec PyProof.Rows L2
abbrev strD (x : Str) : PyData := .str x
/-- the shape of a term, by how many are within one another at most -/
inductive Tm : Nat → PyData → Prop
  | name (n : Nat) (x : Str) : Tm (n + 1) (.str x)
  | at (n : Nat) (f : Str) : Tm (n + 1) (.tuple [.str (Str.ofString "@"), .str f])
  | lam {n : Nat} (x : Str) (k : PyData) {t : PyData} : Tm n t → Tm (n + 1) (.tuple [.str (Str.ofString "^"), .str x, k, t])
  | two {n : Nat} (s : Str) {t u : PyData} : s ∈ [Str.ofString "!", Str.ofString "&", Str.ofString "-"] → Tm n t → Tm n u → Tm (n + 1) (.tuple [.str s, t, u])
  | five {n : Nat} (s x y : Str) {t u : PyData} : s ∈ [Str.ofString "/", Str.ofString "+"] → Tm n t → Tm n u → Tm (n + 1) (.tuple [.str s, t, .str x, .str y, u])
  | mk {n : Nat} (c : Str) (ts : List PyData) : (∀ t ∈ ts, Tm n t) → Tm (n + 1) (.tuple [.str (Str.ofString "#"), .str c, .tuple ts])
  | ch {n : Nat} {t : PyData} (cs : List (Str × List Str × PyData)) : Tm n t → (∀ c ∈ cs, Tm n c.2.2) →
      Tm (n + 1) (.tuple [.str (Str.ofString "?"), t, .tuple (cs.map fun c => .tuple [.str c.1, .tuple (c.2.1.map strD), c.2.2])])
theorem Tm.up : ∀ {n : Nat} {d : PyData}, Tm n d → ∀ {m : Nat}, n ≤ m → Tm m d
  | _, _, .name n x, m, h => by
    obtain ⟨m, rfl⟩ : ∃ k, m = k + 1 := ⟨m - 1, by omega⟩
    exact .name m x
  | _, _, .at n x, m, h => by
    obtain ⟨m, rfl⟩ : ∃ k, m = k + 1 := ⟨m - 1, by omega⟩
    exact .at m x
  | _, _, .lam x k t, m, h => by
    obtain ⟨m, rfl⟩ : ∃ k, m = k + 1 := ⟨m - 1, by omega⟩
    exact .lam x k (t.up (by omega))
  | _, _, .two s hs t u, m, h => by
    obtain ⟨m, rfl⟩ : ∃ k, m = k + 1 := ⟨m - 1, by omega⟩
    exact .two s hs (t.up (by omega)) (u.up (by omega))
  | _, _, .five s x y hs t u, m, h => by
    obtain ⟨m, rfl⟩ : ∃ k, m = k + 1 := ⟨m - 1, by omega⟩
    exact .five s x y hs (t.up (by omega)) (u.up (by omega))
  | _, _, .mk c ts ht, m, h => by
    obtain ⟨m, rfl⟩ : ∃ k, m = k + 1 := ⟨m - 1, by omega⟩
    exact .mk c ts fun t z => (ht t z).up (by omega)
  | _, _, .ch cs t hc, m, h => by
    obtain ⟨m, rfl⟩ : ∃ k, m = k + 1 := ⟨m - 1, by omega⟩
    exact .ch cs (t.up (by omega)) fun c z => (hc c z).up (by omega)
def bT : Nat → Nat
  | 0 => 110
  | n + 1 => 4 * bT n + 1700
theorem bT_ge : ∀ n : Nat, 110 ≤ bT n
  | 0 => Nat.le_refl _
  | n + 1 => by
    have := bT_ge n
    show 110 ≤ 4 * bT n + 1700
    omega
def spFew : Sp := fun vs H Q _ => ∃ (p c : Addr), vs = [.ref p] ∧ Pen H p c ∧ ∀ (x : Str) (H' : Hp), Nm x → Pen H' p c → Kp p H H' → Q (.str x) H'
def spRow (K : PySem.W.Frag) : Sp := fun vs H Q _ => ∃ (p c : Addr) (z : Int), vs = [.ref p, .int z] ∧ 0 ≤ z ∧ z ≤ 4 ∧ Pen H p c ∧
  ∀ (t : Addr) (xs : List Str) (H' : Hp), SqT K H' t (xs.map V.str) → (xs.length : Int) = z → (∀ x ∈ xs, Nm x) → Pen H' p c → Kp p H H' → Q (.ref t) H'
def spRoughT (K : PySem.W.Frag) (k : Nat) : Sp := fun vs H Q _ => ∃ (p c : Addr) (z : Int), vs = [.ref p, .int z] ∧ z ≤ (k : Int) ∧ k ≤ 6 ∧ Pen H p c ∧
  ∀ (v : V) (d : PyData) (H' : Hp), Da K All H' v d → Fit (bT k) (3 * k + 2) d → Tm (k + 1) d → Pen H' p c → Kp p H H' → Q v H'
abbrev few3 : List Str := [Str.ofString "x", Str.ofString "y", Str.ofString "xy"]
theorem nm_of {x : Str} (h : (decide (0 < x.cps.size) && decide (x.cps.size ≤ 8) && x.cps.toList.all fun c => decide (97 ≤ c) && decide (c ≤ 122)) = true) : Nm x := by
  simp only [Bool.and_eq_true, decide_eq_true_eq, List.all_eq_true] at h
  exact ⟨h.1.1, h.1.2, h.2⟩
theorem nm_few : ∀ x ∈ few3, Nm x := by
  intro x h
  simp only [List.mem_cons, List.not_mem_nil, or_false] at h
  rcases h with rfl | rfl | rfl
  · exact nm_of (by decide +kernel)
  · exact nm_of (by decide +kernel)
  · exact nm_of (by decide +kernel)
theorem few_at {y : Str} (hy : Nm y) {n : Int} (h0 : 0 ≤ n) (h1 : n < 4) : ∃ x : Str, atI [V.str "x", .str "y", .str "xy", .str y] n = some (.str x) ∧ Nm x := by
  have : n = 0 ∨ n = 1 ∨ n = 2 ∨ n = 3 := by omega
  rcases this with rfl | rfl | rfl | rfl
  · exact ⟨_, rfl, nm_few _ (by simp)⟩
  · exact ⟨_, rfl, nm_few _ (by simp)⟩
  · exact ⟨_, rfl, nm_few _ (by simp)⟩
  · exact ⟨_, rfl, hy⟩
theorem fit_names : ∀ {xs : List Str}, (∀ x ∈ xs, Nm x) → FitAll (92 * xs.length) 0 (xs.map strD)
  | [], _ => .nil
  | x :: xs, h => by
    have g := fit_names (xs := xs) fun y hy => h y (List.mem_cons_of_mem _ hy)
    refine (FitAll.cons (fit_nm (h x (List.mem_cons_self ..))) g).le ?_ (Nat.le_refl _)
    rw [List.length_cons]
    omega
theorem da_names {K : PySem.W.Frag} {N : Addr → Prop} {H : Hp} : ∀ xs : List Str, DaAll K N H (xs.map V.str) (xs.map strD)
  | [] => .nil
  | x :: xs => .cons (.str x) (da_names xs)
abbrev tri : List V := [.str "!", .str "&", .str "-"]
theorem tri_at {n : Int} (h0 : 0 ≤ n) (h1 : n < 3) : ∃ x : Str, atI tri n = some (.str x) ∧ Fit 4 0 (.str x) ∧ x ∈ [Str.ofString "!", Str.ofString "&", Str.ofString "-"] := by
  have : n = 0 ∨ n = 1 ∨ n = 2 := by omega
  rcases this with rfl | rfl | rfl
  · exact ⟨_, rfl, fit_sign (by decide +kernel), by simp⟩
  · exact ⟨_, rfl, fit_sign (by decide +kernel), by simp⟩
  · exact ⟨_, rfl, fit_sign (by decide +kernel), by simp⟩
abbrev duo : List V := [.str "/", .str "+"]
theorem duo_at {n : Int} (h0 : 0 ≤ n) (h1 : n < 2) : ∃ x : Str, atI duo n = some (.str x) ∧ Fit 4 0 (.str x) ∧ x ∈ [Str.ofString "/", Str.ofString "+"] := by
  have : n = 0 ∨ n = 1 := by omega
  rcases this with rfl | rfl
  · exact ⟨_, rfl, fit_sign (by decide +kernel), by simp⟩
  · exact ⟨_, rfl, fit_sign (by decide +kernel), by simp⟩
end Ow

/-! What stands within a term, in the order of its text. -/
namespace Ow
open PySem PySem.Spec PyProof.Rows L2
abbrev sg (x : String) : Str := Str.ofString x
def nmD : PyData → Str
  | .str x => x
  | _ => sg ""
def itD : PyData → List PyData
  | .tuple ds => ds
  | _ => []
def caseD : PyData → List Str × PyData
  | .tuple [_, ns, u] => ((itD ns).map nmD, u)
  | c => ([], c)
def kids : PyData → List (List Str × PyData)
  | .tuple [.str s, a, b] => if s = sg "#" then (itD b).map (fun t => ([], t)) else if s = sg "?" then ([], a) :: (itD b).map caseD else [([], a), ([], b)]
  | .tuple [.str _, x, _, t] => [([nmD x], t)]
  | .tuple [.str _, t, x, y, u] => [([], t), ([nmD x, nmD y], u)]
  | _ => []
theorem nm_map (xs : List Str) : (xs.map strD).map nmD = xs := by
  induction xs with
  | nil => rfl
  | cons x xs ih =>
    show x :: (xs.map strD).map nmD = _
    rw [ih]
theorem kids_str (x : Str) : kids (.str x) = [] := rfl
theorem kids_at (s : Str) (f : PyData) : kids (.tuple [.str s, f]) = [] := rfl
theorem kids_lam (s x : Str) (k t : PyData) : kids (.tuple [.str s, .str x, k, t]) = [([x], t)] := rfl
theorem kids_five (s x y : Str) (t u : PyData) : kids (.tuple [.str s, t, .str x, .str y, u]) = [([], t), ([x, y], u)] := rfl
theorem kids_three (s : Str) (a b : PyData) : kids (.tuple [.str s, a, b]) = if s = sg "#" then (itD b).map (fun t => ([], t)) else if s = sg "?" then ([], a) :: (itD b).map caseD else [([], a), ([], b)] := rfl
theorem kids_mk (c : PyData) (ts : List PyData) : kids (.tuple [.str (sg "#"), c, .tuple ts]) = ts.map (fun t => ([], t)) := by
  rw [kids_three, if_pos rfl]
  rfl
theorem kids_ch (t : PyData) (cs : List (Str × List Str × PyData)) : kids (.tuple [.str (sg "?"), t, .tuple (cs.map fun c => .tuple [.str c.1, .tuple (c.2.1.map strD), c.2.2])]) = ([], t) :: cs.map (·.2) := by
  rw [kids_three, if_neg (by decide +kernel), if_pos rfl]
  show _ :: (cs.map _).map caseD = _
  rw [List.map_map]
  congr 1
  refine List.map_congr_left fun c _ => ?_
  show ((c.2.1.map strD).map nmD, c.2.2) = c.2
  rw [nm_map]
theorem kids_two {s : Str} (t u : PyData) (h : s ∈ [sg "!", sg "&", sg "-"]) : kids (.tuple [.str s, t, u]) = [([], t), ([], u)] := by
  rw [kids_three]
  simp only [List.mem_cons, List.not_mem_nil, or_false] at h
  rcases h with rfl | rfl | rfl
  all_goals rw [if_neg (by decide +kernel), if_neg (by decide +kernel)]
theorem kids_tm : ∀ {n : Nat} {d : PyData}, Tm (n + 1) d → ∀ k ∈ kids d, Tm n k.2
  | _, _, .name n x, k, h => by cases h
  | _, _, .at n x, k, h => by cases h
  | _, _, .lam x kk t, k, h => by
    rw [kids_lam] at h
    rw [List.mem_singleton.mp h]
    exact t
  | _, _, .two s hs t u, k, h => by
    rw [kids_two _ _ hs] at h
    simp only [List.mem_cons, List.not_mem_nil, or_false] at h
    rcases h with rfl | rfl
    · exact t
    · exact u
  | _, _, .five s x y hs t u, k, h => by
    rw [kids_five] at h
    simp only [List.mem_cons, List.not_mem_nil, or_false] at h
    rcases h with rfl | rfl
    · exact t
    · exact u
  | _, _, .mk c ts ht, k, h => by
    rw [kids_mk] at h
    obtain ⟨t, ht', rfl⟩ := List.mem_map.mp h
    exact ht t ht'
  | _, _, .ch cs t hc, k, h => by
    rw [kids_ch] at h
    rcases List.mem_cons.mp h with rfl | h
    · exact t
    · obtain ⟨c, hc', rfl⟩ := List.mem_map.mp h
      exact hc c hc'
theorem FitAll.unc {n m : Nat} {d : PyData} {ds : List PyData} (f : FitAll n m (d :: ds)) : ∃ a b, a + 2 + b ≤ n ∧ Fit a m d ∧ FitAll b m ds := by
  obtain ⟨a, b, c, h, _, f2, f3⟩ := f.get (i := 0) rfl
  exact ⟨b, c, by omega, f2, f3⟩
theorem FitAll.fmap (f : PyData → PyData) : ∀ {ds : List PyData} {n m : Nat}, (∀ d ∈ ds, ∀ {n m : Nat}, Fit n m d → Fit n m (f d)) → FitAll n m ds → FitAll n m (ds.map f)
  | [], n, m, _, h => h
  | d :: ds, n, m, g, h => by
    obtain ⟨a, b, l, f1, f2⟩ := h.unc
    exact (FitAll.cons (g d (List.mem_cons_self ..) f1) (FitAll.fmap f (fun e he => g e (List.mem_cons_of_mem _ he)) f2)).le l (Nat.le_refl _)
theorem Fit.two {n m : Nat} {s t u : PyData} (f : Fit n m (.tuple [s, t, u])) : FitAll n m [t, u] ∧ Fit n m u ∧ Fit n m t := by
  obtain ⟨m', rfl⟩ := f.deep
  obtain ⟨h4, fa⟩ := f.items
  obtain ⟨a, b, l, f1, f2⟩ := fa.unc
  obtain ⟨a2, b2, l2, f3, f4⟩ := f2.unc
  obtain ⟨a3, b3, l3, f5, f6⟩ := f4.unc
  exact ⟨f2.le (by omega) (by omega), f5.le (by omega) (by omega), f3.le (by omega) (by omega)⟩
theorem Fit.inner {n m : Nat} {ts : List PyData} (f : Fit n m (.tuple ts)) : FitAll n m ts := by
  obtain ⟨m', rfl⟩ := f.deep
  obtain ⟨h4, fa⟩ := f.items
  exact fa.le (by omega) (by omega)
theorem kids_fit : ∀ {n w m : Nat} {d : PyData}, Tm n d → Fit w m d → FitAll w m ((kids d).map (·.2))
  | _, w, m, _, .name n x, f => FitAll.nil.le (Nat.zero_le _) (Nat.le_refl _)
  | _, w, m, _, .at n x, f => FitAll.nil.le (Nat.zero_le _) (Nat.le_refl _)
  | _, w, m, _, .lam x kk t, f => by
    rw [kids_lam]
    obtain ⟨a, b, l, f1, f2⟩ := f.inner.unc
    obtain ⟨a2, b2, l2, f3, f4⟩ := f2.unc
    obtain ⟨a3, b3, l3, f5, f6⟩ := f4.unc
    exact f6.le (by omega) (Nat.le_refl _)
  | _, w, m, _, .two s hs t u, f => by
    rw [kids_two _ _ hs]
    exact f.two.1
  | _, w, m, _, .five s x y hs t u, f => by
    rw [kids_five]
    obtain ⟨a, b, l, f1, f2⟩ := f.inner.unc
    obtain ⟨a2, b2, l2, f3, f4⟩ := f2.unc
    obtain ⟨a3, b3, l3, f5, f6⟩ := f4.unc
    obtain ⟨a4, b4, l4, f7, f8⟩ := f6.unc
    exact (FitAll.cons f3 f8).le (by omega) (Nat.le_refl _)
  | _, w, m, _, .mk c ts ht, f => by
    rw [kids_mk, List.map_map]
    have := f.two.2.1.inner
    rwa [show ts.map ((fun x : List Str × PyData => x.2) ∘ fun t => ([], t)) = ts from List.map_id _]
  | _, w, m, _, .ch cs t hc, f => by
    rw [kids_ch]
    obtain ⟨a, b, l, f1, f2⟩ := f.inner.unc
    obtain ⟨a2, b2, l2, f3, f4⟩ := f2.unc
    obtain ⟨a3, b3, l3, f5, f6⟩ := f4.unc
    have g := f5.inner
    have g2 := FitAll.fmap (fun c => (caseD c).2) (fun d hd => by
      obtain ⟨c, _, rfl⟩ := List.mem_map.mp hd
      intro n m q
      exact q.two.2.1) g
    rw [List.map_map] at g2
    show FitAll w m (_ :: (cs.map (·.2)).map (·.2))
    rw [List.map_map]
    exact (FitAll.cons f3 g2).le (by omega) (Nat.le_refl _)
theorem len_wt2 : ∀ {n m : Nat} {ds : List PyData}, FitAll n m ds → 2 * ds.length ≤ n
  | n, m, [], _ => Nat.zero_le _
  | n, m, d :: ds, f => by
    obtain ⟨a, b, l, f1, f2⟩ := f.unc
    have := len_wt2 f2
    rw [List.length_cons]
    omega
theorem kids_len {n w m : Nat} {d : PyData} (t : Tm n d) (f : Fit w m d) : 2 * (kids d).length ≤ w := by
  have := len_wt2 (kids_fit t f)
  rwa [List.length_map] at this
theorem FitAll.mem {n m : Nat} {ds : List PyData} (f : FitAll n m ds) {d : PyData} (h : d ∈ ds) : Fit n m d := by
  obtain ⟨i, hi⟩ := List.getElem?_of_mem h
  obtain ⟨a, b, c, l, _, f2, _⟩ := f.get hi
  exact f2.le (by omega) (Nat.le_refl _)
theorem kids_names : ∀ {n w m : Nat} {d : PyData}, Tm n d → Fit w m d → 4 ≤ w → ∀ k ∈ kids d, k.1.length ≤ w
  | _, w, m, _, .name n x, f, _, k, h => by cases h
  | _, w, m, _, .at n x, f, _, k, h => by cases h
  | _, w, m, _, .lam x kk t, f, hw, k, h => by
    rw [kids_lam] at h
    rw [List.mem_singleton.mp h]
    show 1 ≤ w
    omega
  | _, w, m, _, .two s hs t u, f, _, k, h => by
    rw [kids_two _ _ hs] at h
    simp only [List.mem_cons, List.not_mem_nil, or_false] at h
    rcases h with rfl | rfl
    · exact Nat.zero_le _
    · exact Nat.zero_le _
  | _, w, m, _, .five s x y hs t u, f, hw, k, h => by
    rw [kids_five] at h
    simp only [List.mem_cons, List.not_mem_nil, or_false] at h
    rcases h with rfl | rfl
    · exact Nat.zero_le _
    · show 2 ≤ w
      omega
  | _, w, m, _, .mk c ts ht, f, _, k, h => by
    rw [kids_mk] at h
    obtain ⟨t, ht', rfl⟩ := List.mem_map.mp h
    exact Nat.zero_le _
  | _, w, m, _, .ch cs t hc, f, _, k, h => by
    rw [kids_ch] at h
    rcases List.mem_cons.mp h with rfl | h
    · exact Nat.zero_le _
    · obtain ⟨c, hc', rfl⟩ := List.mem_map.mp h
      have g := f.two.2.1.inner.mem (List.mem_map.mpr ⟨c, hc', rfl⟩)
      have := len_wt2 g.two.2.2.inner
      rw [List.length_map] at this
      omega
/-- each part, in the order of the text -/
def pre : Nat → PyData → List PyData
  | 0, _ => []
  | n + 1, d => d :: (kids d).flatMap fun k => pre n k.2
/-- each part with the names that are given around it -/
def walkD : Nat → PyData → List Str → List (PyData × List Str)
  | 0, _, _ => []
  | n + 1, d, g => (d, g) :: (kids d).flatMap fun k => walkD n k.2 (g ++ k.1)
theorem map_flat {A B C : Type} (f : A → List B) (g : B → C) : ∀ xs : List A, (xs.flatMap f).map g = xs.flatMap fun x => (f x).map g
  | [] => rfl
  | x :: xs => by
    rw [List.flatMap_cons, List.flatMap_cons, List.map_append, map_flat f g xs]
theorem flat_eq {A B : Type} {f g : A → List B} : ∀ {xs : List A}, (∀ x ∈ xs, f x = g x) → xs.flatMap f = xs.flatMap g
  | [], _ => rfl
  | x :: xs, h => by
    rw [List.flatMap_cons, List.flatMap_cons, h x (List.mem_cons_self ..), flat_eq fun y hy => h y (List.mem_cons_of_mem _ hy)]
theorem walk_pre : ∀ (n : Nat) (d : PyData) (g : List Str), (walkD n d g).map (·.1) = pre n d
  | 0, _, _ => rfl
  | n + 1, d, g => by
    show d :: ((kids d).flatMap fun k => walkD n k.2 (g ++ k.1)).map (·.1) = d :: _
    rw [map_flat]
    congr 1
    exact flat_eq fun k _ => walk_pre n k.2 _
theorem walk_up : ∀ {m : Nat} {d : PyData} {g : List Str}, Tm m d → ∀ {n : Nat}, m ≤ n → walkD n d g = walkD m d g
  | 0, d, g, t, n, h => by cases t
  | m + 1, d, g, t, n, h => by
    obtain ⟨n, rfl⟩ : ∃ k, n = k + 1 := ⟨n - 1, by omega⟩
    show (d, g) :: _ = (d, g) :: _
    congr 1
    exact flat_eq fun k hk => walk_up (kids_tm t k hk) (by omega)
theorem pre_up {m n : Nat} {d : PyData} (t : Tm m d) (h : m ≤ n) : pre n d = pre m d := by
  rw [← walk_pre n d [], ← walk_pre m d [], walk_up t h]
theorem pre_fit : ∀ {n w m : Nat} {d : PyData}, Tm n d → Fit w m d → FitAll (n * (w + 2)) m (pre n d)
  | 0, w, m, d, t, f => by cases t
  | n + 1, w, m, d, t, f => by
    have step : ∀ (ks : List (List Str × PyData)) (b : Nat), (∀ k ∈ ks, Tm n k.2) → FitAll b m (ks.map (·.2)) → FitAll (n * b) m (ks.flatMap fun k => pre n k.2) := by
      intro ks
      induction ks with
      | nil => exact fun b _ h => FitAll.nil.le (Nat.zero_le _) (Nat.le_refl _)
      | cons k ks ih =>
        intro b ht h
        obtain ⟨x, y, l, f1, f2⟩ := FitAll.unc h
        rw [List.flatMap_cons]
        refine ((pre_fit (ht k (List.mem_cons_self ..)) f1).append (ih y (fun e he => ht e (List.mem_cons_of_mem _ he)) f2)).le ?_ (Nat.le_refl _)
        rw [← Nat.mul_add]
        exact Nat.mul_le_mul_left _ l
    refine (FitAll.cons f (step (kids d) w (kids_tm t) (kids_fit t f))).le ?_ (Nat.le_refl _)
    rw [Nat.succ_mul]
    have : n * w ≤ n * (w + 2) := Nat.mul_le_mul_left _ (by omega)
    omega
theorem pre_len {n w m : Nat} {d : PyData} (t : Tm n d) (f : Fit w m d) : 2 * (pre n d).length ≤ n * (w + 2) := len_wt2 (pre_fit t f)
/-- each but the first of its like is left out -/
def dd (acc : List Str) : List Str → List Str
  | [] => acc
  | x :: xs => dd (if x ∈ acc then acc else acc ++ [x]) xs
/-- a name that is not given -/
def outs : List (PyData × List Str) → List Str
  | [] => []
  | (.str x, g) :: ws => if x ∈ g then outs ws else x :: outs ws
  | _ :: ws => outs ws
theorem dd_app (xs ys : List Str) : ∀ acc, dd acc (xs ++ ys) = dd (dd acc xs) ys := by
  induction xs with
  | nil => exact fun _ => rfl
  | cons x xs ih => exact fun acc => ih _
theorem outs_app (ws zs : List (PyData × List Str)) : outs (ws ++ zs) = outs ws ++ outs zs := by
  induction ws with
  | nil => rfl
  | cons q ws ih =>
    obtain ⟨d, g⟩ := q
    cases d with
    | str x =>
      show (if x ∈ g then outs (ws ++ zs) else x :: outs (ws ++ zs)) = (if x ∈ g then outs ws else x :: outs ws) ++ outs zs
      by_cases h : x ∈ g
      · rw [if_pos h, if_pos h, ih]
      · rw [if_neg h, if_neg h, ih]
        rfl
    | _ => exact ih
theorem outs_len (ws : List (PyData × List Str)) : (outs ws).length ≤ ws.length := by
  induction ws with
  | nil => exact Nat.le_refl _
  | cons q ws ih =>
    obtain ⟨d, g⟩ := q
    rw [List.length_cons]
    cases d with
    | str x =>
      show (if x ∈ g then outs ws else x :: outs ws).length ≤ _
      by_cases h : x ∈ g
      · rw [if_pos h]
        omega
      · rw [if_neg h, List.length_cons]
        omega
    | _ => exact Nat.le_trans ih (by omega)
theorem dd_len (xs : List Str) : ∀ acc, (dd acc xs).length ≤ acc.length + xs.length := by
  induction xs with
  | nil => exact fun _ => Nat.le_refl _
  | cons x xs ih =>
    intro acc
    refine Nat.le_trans (ih _) ?_
    rw [List.length_cons]
    by_cases h : x ∈ acc
    · rw [if_pos h]
      omega
    · rw [if_neg h, List.length_append]
      show acc.length + 1 + _ ≤ _
      omega
/-! tuples that stay -/
def Ts (K : PySem.W.Frag) (H H' : Hp) : Prop := ∀ a xs, SqT K H a xs → SqT K H' a xs
section
variable {K : PySem.W.Frag} {H H1 H2 H' : Hp}
theorem Ts.trans (a : Ts K H H1) (b : Ts K H1 H2) : Ts K H H2 := fun c xs h => b c xs (a c xs h)
theorem Ts.of (s : Same H H') : Ts K H H' := fun c xs h => sqT_same s h
theorem Ts.refl : Ts K H H := fun c xs h => h
theorem Ts.kp {p : Addr} (k : Kp p H H') (n : NoTup H p) : Ts K H H' := fun c xs h => sqT_kp k n h
theorem Ts.put {p : Addr} {xs : List V} {o : HO} (h : H p = some (.lst xs)) : Ts K H (upd H p o) := Ts.kp Kp.self fun ys r => by
  rcases r with r | ⟨ob, r⟩
  · rw [h] at r
    cases r
  · rw [h] at r
    cases r
mutual
theorem Da.ts (k : Ts K H H') : ∀ {v : V} {d : PyData}, Da K All H v d → Da K All H' v d
  | _, _, .non => .non
  | _, _, .bl b => .bl b
  | _, _, .int i => .int i
  | _, _, .str x => .str x
  | _, _, .lst e n r => absurd trivial n
  | _, _, .tup h r => .tup (k _ _ h) (r.ts k)
  | _, _, .dct e n r => absurd trivial n
theorem DaAll.ts (k : Ts K H H') : ∀ {vs : List V} {ds : List PyData}, DaAll K All H vs ds → DaAll K All H' vs ds
  | _, _, .nil => .nil
  | _, _, .cons h r => .cons (h.ts k) (r.ts k)
end
end
theorem DaAll.snoc {K : PySem.W.Frag} {N : Addr → Prop} {H : Hp} {ds : List PyData} {d : PyData} : ∀ {vs : List V}, DaAll K N H vs (ds ++ [d]) → ∃ us v, vs = us ++ [v] ∧ DaAll K N H us ds ∧ Da K N H v d := by
  induction ds with
  | nil =>
    intro vs h
    cases h with
    | cons a b =>
      cases b
      exact ⟨[], _, rfl, .nil, a⟩
  | cons e ds ih =>
    intro vs h
    cases h with
    | cons a b =>
      obtain ⟨us, v, rfl, h1, h2⟩ := ih b
      exact ⟨_ :: us, v, rfl, .cons a h1, h2⟩
theorem DaAll.rev {K : PySem.W.Frag} {N : Addr → Prop} {H : Hp} : ∀ {vs : List V} {ds : List PyData}, DaAll K N H vs ds → DaAll K N H vs.reverse ds.reverse
  | _, _, .nil => .nil
  | _, _, .cons a b => by
    rw [List.reverse_cons, List.reverse_cons]
    exact b.rev.append (.cons a .nil)
theorem DaAll.at {K : PySem.W.Frag} {N : Addr → Prop} {H : Hp} {vs : List V} {ds : List PyData} (h : DaAll K N H vs ds) {i : Nat} {d : PyData} (e : ds[i]? = some d) : ∃ v, vs[i]? = some v ∧ Da K N H v d := by
  have hl := h.length
  obtain ⟨hi, _⟩ := List.getElem?_eq_some_iff.mp e
  have hv : vs[i]? = some vs[i] := List.getElem?_eq_getElem (by omega)
  obtain ⟨d', e', hd⟩ := h.get hv
  rw [e] at e'
  cases e'
  exact ⟨_, hv, hd⟩
def kdA (k : List Str × PyData) : PyData := .tuple [.tuple (k.1.map strD), k.2]
def kdB (k : List Str × PyData) : PyData := .tuple [k.2, .tuple (k.1.map strD)]
def spKids (K : PySem.W.Frag) (f : List Str × PyData → PyData) : Sp := fun vs H Q _ => ∃ (v : V) (d : PyData) (n w m : Nat), vs = [v] ∧ Da K All H v d ∧ Tm n d ∧ Fit w m d ∧ w ≤ 16000000 ∧
  ∀ (L : Addr) (us : List V) (H' : Hp), Same H H' → H L = none → H' L = some (.lst us) → DaAll K All H' us ((kids d).map f) → Q (.ref L) H'
def spParts (K : PySem.W.Frag) : Sp := fun vs H Q _ => ∃ (v : V) (d : PyData) (n w m : Nat), vs = [v] ∧ Da K All H v d ∧ Tm n d ∧ Fit w m d ∧ n * (w + 2) ≤ 16000000 ∧
  ∀ (L : Addr) (us : List V) (H' : Hp), Same H H' → H L = none → H' L = some (.lst us) → DaAll K All H' us (pre n d) → Q (.ref L) H'
def spUses (K : PySem.W.Frag) : Sp := fun vs H Q _ => ∃ (v : V) (d : PyData) (n w m : Nat), vs = [v] ∧ Da K All H v d ∧ Tm n d ∧ Fit w m d ∧ 4 ≤ w ∧ n * (w + 2) ≤ 16000000 ∧
  ∀ (L : Addr) (H' : Hp), Same H H' → H L = none → H' L = some (.lst ((dd [] (outs (walkD n d []))).map V.str)) → Q (.ref L) H'
def spFirst : Sp := fun vs H Q _ => ∃ (a : Addr) (xs : List Str), vs = [.ref a] ∧ H a = some (.lst (xs.map V.str)) ∧ xs.length ≤ 16000000 ∧
  ∀ (L : Addr) (H' : Hp), Same H H' → H L = none → H' L = some (.lst ((dd [] xs).map V.str)) → Q (.ref L) H'
/-- a row of a part with a list of the names given around it -/
def Wk (K : PySem.W.Frag) (H : Hp) (u : V) (q : PyData × List Str) : Prop := ∃ (t : Addr) (v : V) (h : Addr), u = .ref t ∧ SqT K H t [v, .ref h] ∧ Da K All H v q.1 ∧ H h = some (.lst (q.2.map V.str))
theorem Wk.same {K : PySem.W.Frag} {H H' : Hp} {u : V} {q : PyData × List Str} (s : Same H H') (h : Wk K H u q) : Wk K H' u q := by
  obtain ⟨t, v, a, rfl, h1, h2, h3⟩ := h
  exact ⟨t, v, a, rfl, sqT_same s h1, h2.same s, s _ _ h3⟩
inductive WkAll (K : PySem.W.Frag) (H : Hp) : List V → List (PyData × List Str) → Prop
  | nil : WkAll K H [] []
  | cons {u : V} {us : List V} {q : PyData × List Str} {qs : List (PyData × List Str)} : Wk K H u q → WkAll K H us qs → WkAll K H (u :: us) (q :: qs)
theorem WkAll.same {K : PySem.W.Frag} {H H' : Hp} (s : Same H H') : ∀ {us : List V} {qs : List (PyData × List Str)}, WkAll K H us qs → WkAll K H' us qs
  | _, _, .nil => .nil
  | _, _, .cons a b => .cons (a.same s) (b.same s)
theorem WkAll.append {K : PySem.W.Frag} {H : Hp} : ∀ {us vs : List V} {qs rs : List (PyData × List Str)}, WkAll K H us qs → WkAll K H vs rs → WkAll K H (us ++ vs) (qs ++ rs)
  | _, _, _, _, .nil, h => h
  | _, _, _, _, .cons a b, h => .cons a (b.append h)
theorem WkAll.length {K : PySem.W.Frag} {H : Hp} : ∀ {us : List V} {qs : List (PyData × List Str)}, WkAll K H us qs → us.length = qs.length
  | _, _, .nil => rfl
  | _, _, .cons a b => by rw [List.length_cons, List.length_cons, b.length]
theorem WkAll.get {K : PySem.W.Frag} {H : Hp} : ∀ {us : List V} {qs : List (PyData × List Str)}, WkAll K H us qs → ∀ {i : Nat} {u : V}, us[i]? = some u → ∃ q, qs[i]? = some q ∧ Wk K H u q
  | _, _, .nil, i, u, e => by cases e
  | _, _, .cons a b, 0, u, e => by
    cases e
    exact ⟨_, rfl, a⟩
  | _, _, .cons a b, i + 1, u, e => b.get (i := i) e
def spWalk (K : PySem.W.Frag) (n : Nat) : Sp := fun vs H Q _ => ∃ (v : V) (d : PyData) (h : Addr) (g : List Str) (w m : Nat), vs = [v, .ref h] ∧ Da K All H v d ∧ Tm n d ∧ Fit w m d ∧ 4 ≤ w ∧ H h = some (.lst (g.map V.str)) ∧ n * (w + 2) ≤ 16000000 ∧ g.length + n * w ≤ 16000000 ∧
  ∀ (L : Addr) (us : List V) (H' : Hp), Same H H' → H L = none → H' L = some (.lst us) → WkAll K H' us (walkD n d g) → Q (.ref L) H'
section
variable {K : PySem.W.Frag} {N : Addr → Prop} {H H' : Hp}
theorem DaAll.unc {vs : List V} {d : PyData} {ds : List PyData} (h : DaAll K N H vs (d :: ds)) : ∃ v us, vs = v :: us ∧ Da K N H v d ∧ DaAll K N H us ds := by
  cases h with
  | cons a b => exact ⟨_, _, rfl, a, b⟩
theorem DaAll.un0 {vs : List V} (h : DaAll K N H vs []) : vs = [] := by
  cases h
  rfl
theorem Da.tup2 {v : V} {a b : PyData} (h : Da K N H v (.tuple [a, b])) : ∃ t x y, v = .ref t ∧ SqT K H t [x, y] ∧ Da K N H x a ∧ Da K N H y b := by
  obtain ⟨t, xs, rfl, hT, hA⟩ := h.tupInv
  obtain ⟨x, us, rfl, hx, hA⟩ := hA.unc
  obtain ⟨y, us, rfl, hy, hA⟩ := hA.unc
  obtain rfl := hA.un0
  exact ⟨t, x, y, rfl, hT, hx, hy⟩
theorem Da.tup4 {v : V} {a b c d : PyData} (h : Da K N H v (.tuple [a, b, c, d])) : ∃ t x y z w, v = .ref t ∧ SqT K H t [x, y, z, w] ∧ Da K N H x a ∧ Da K N H y b ∧ Da K N H z c ∧ Da K N H w d := by
  obtain ⟨t, xs, rfl, hT, hA⟩ := h.tupInv
  obtain ⟨x, us, rfl, hx, hA⟩ := hA.unc
  obtain ⟨y, us, rfl, hy, hA⟩ := hA.unc
  obtain ⟨z, us, rfl, hz, hA⟩ := hA.unc
  obtain ⟨w, us, rfl, hw, hA⟩ := hA.unc
  obtain rfl := hA.un0
  exact ⟨t, x, y, z, w, rfl, hT, hx, hy, hz, hw⟩
theorem Da.tup5 {v : V} {a b c d e : PyData} (h : Da K N H v (.tuple [a, b, c, d, e])) : ∃ t x y z w u, v = .ref t ∧ SqT K H t [x, y, z, w, u] ∧ Da K N H x a ∧ Da K N H y b ∧ Da K N H z c ∧ Da K N H w d ∧ Da K N H u e := by
  obtain ⟨t, xs, rfl, hT, hA⟩ := h.tupInv
  obtain ⟨x, us, rfl, hx, hA⟩ := hA.unc
  obtain ⟨y, us, rfl, hy, hA⟩ := hA.unc
  obtain ⟨z, us, rfl, hz, hA⟩ := hA.unc
  obtain ⟨w, us, rfl, hw, hA⟩ := hA.unc
  obtain ⟨u, us, rfl, hu, hA⟩ := hA.unc
  obtain rfl := hA.un0
  exact ⟨t, x, y, z, w, u, rfl, hT, hx, hy, hz, hw, hu⟩
theorem da_strs : ∀ {vs : List V} {xs : List Str}, DaAll K N H vs (xs.map strD) → vs = xs.map V.str
  | vs, [], h => h.un0
  | vs, x :: xs, h => by
    obtain ⟨v, us, rfl, hv, hA⟩ := DaAll.unc h
    rw [hv.strInv, da_strs hA]
    rfl
theorem Da.names {v : V} {xs : List Str} (h : Da K N H v (.tuple (xs.map strD))) : ∃ t, v = .ref t ∧ SqT K H t (xs.map V.str) := by
  obtain ⟨t, vs, rfl, hT, hA⟩ := h.tupInv
  rw [da_strs hA] at hT
  exact ⟨t, rfl, hT⟩
theorem row_a {t n : Addr} {v : V} {d : PyData} {xs : List Str} (h : SqT K H t [.ref n, v]) (h1 : SqT K H n (xs.map V.str)) (h2 : Da K All H v d) : Da K All H (.ref t) (kdA (xs, d)) :=
  .tup h (.cons (.tup h1 (da_names xs)) (.cons h2 .nil))
theorem row_b {t n : Addr} {v : V} {d : PyData} {xs : List Str} (h : SqT K H t [v, .ref n]) (h1 : SqT K H n (xs.map V.str)) (h2 : Da K All H v d) : Da K All H (.ref t) (kdB (xs, d)) :=
  .tup h (.cons h2 (.cons (.tup h1 (da_names xs)) .nil))
theorem acc_da {D : Addr} {us : List V} {ds : List PyData} {y : V} {d : PyData} (e : H D = some (.lst us)) (h : DaAll K All H us ds) (g : Da K All H y d) : DaAll K All (upd H D (.lst (us ++ [y]))) (us ++ [y]) (ds ++ [d]) :=
  (h.append (.cons g .nil)).ts (Ts.put e)
theorem in_strs (s : Str) (xs : List Str) : inV (.str s) (xs.map V.str) = decide (s ∈ xs) := by
  induction xs with
  | nil => rfl
  | cons x xs ih =>
    show ((x == s) || inV (.str s) (xs.map V.str)) = _
    rw [ih]
    by_cases h : x = s
    · subst h
      simp
    · rw [show (x == s) = false from beq_eq_false_iff_ne.mpr h, Bool.false_or]
      have : ¬ s = x := fun e => h e.symm
      simp [this]
theorem flat_strs (xs : List Str) : (xs.map V.str).all flatV = true := by simp [flatV]
end
theorem iteSF {A B : Prop} {a b : Str} (h : a ≠ b) (hb : B) : if decide (V.str a = V.str b) = true then A else B := by
  rw [decide_eq_false (fun e => h (by injection e))]
  exact iteF hb
theorem iteST {A B : Prop} {a b : Str} (h : a = b) (ha : A) : if decide (V.str a = V.str b) = true then A else B := by
  rw [decide_eq_true (congrArg V.str h)]
  exact iteT ha
theorem iteInF {A B : Prop} {x : Str} {xs : List Str} (h : x ∉ xs) (hb : B) : if (if false = true then !inV (.str x) (xs.map V.str) else inV (.str x) (xs.map V.str)) = true then A else B := by
  rw [if_neg Bool.false_ne_true, in_strs, decide_eq_false h]
  exact iteF hb
theorem iteInT {A B : Prop} {x : Str} {xs : List Str} (h : x ∈ xs) (ha : A) : if (if false = true then !inV (.str x) (xs.map V.str) else inV (.str x) (xs.map V.str)) = true then A else B := by
  rw [if_neg Bool.false_ne_true, in_strs, decide_eq_true h]
  exact iteT ha
abbrev m2 : List Str := [Str.ofString "/", Str.ofString "+"]
abbrev m3 : List Str := [Str.ofString "!", Str.ofString "&", Str.ofString "-"]
theorem ne_mem {s z : Str} {l : List Str} (h : s ∈ l) (g : z ∉ l) : s ≠ z := fun e => g (e ▸ h)
theorem none_same {H H' : Hp} {L : Addr} (s : Same H H') (h : H' L = none) : H L = none := by
  cases e : H L with
  | none => rfl
  | some o => exact absurd (s _ _ e) (by rw [h]; nofun)
theorem ix_tupK {X : Cx} {K : PySem.W.Frag} (h : X.K = K) : IxR X (rIxT K) := h ▸ ix_tup
theorem ix_listK {X : Cx} {K : PySem.W.Frag} (h : X.K = K) : IxR X (rIxL K) := h ▸ ix_list
theorem notIn_seqK {X : Cx} {K : PySem.W.Frag} (h : X.K = K) : OpR X (compareOp .NotIn) (rIn K true) := h ▸ op_notIn_seq
theorem isDK {X : Cx} {K : PySem.W.Frag} (h : X.K = K) : CallR X (.builtin "isinstance") (rIsD K) := h ▸ call_isD
theorem tm_pos {n : Nat} {d : PyData} (t : Tm n d) : ∃ m, n = m + 1 := by
  cases n with
  | zero => cases t
  | succ m => exact ⟨m, rfl⟩
theorem kids_tmn {n : Nat} {d : PyData} (t : Tm n d) : ∀ k ∈ kids d, Tm n k.2 := by
  obtain ⟨m, rfl⟩ := tm_pos t
  exact fun k hk => (kids_tm t k hk).up (by omega)
theorem walk_step {n : Nat} {d : PyData} (t : Tm n d) (g : List Str) : walkD n d g = (d, g) :: (kids d).flatMap fun k => walkD n k.2 (g ++ k.1) := by
  obtain ⟨m, rfl⟩ := tm_pos t
  show (d, g) :: _ = (d, g) :: _
  congr 1
  exact flat_eq fun k hk => (walk_up (kids_tm t k hk) (by omega)).symm
theorem flat_map {A B C : Type} (f : A → B) (g : B → List C) : ∀ xs : List A, (xs.map f).flatMap g = xs.flatMap fun x => g (f x)
  | [] => rfl
  | x :: xs => by rw [List.map_cons, List.flatMap_cons, List.flatMap_cons, flat_map f g xs]
theorem pre_step {n : Nat} {d : PyData} (t : Tm n d) : pre n d = d :: ((kids d).map (·.2)).flatMap (pre n) := by
  obtain ⟨m, rfl⟩ := tm_pos t
  show d :: _ = d :: _
  rw [flat_map]
  congr 1
  exact flat_eq fun k hk => (pre_up (kids_tm t k hk) (by omega)).symm
theorem pre_pos {n : Nat} {d : PyData} (t : Tm n d) : 1 ≤ (pre n d).length := by
  rw [pre_step t, List.length_cons]
  omega
theorem flat_ge {n : Nat} : ∀ {ds : List PyData}, (∀ e ∈ ds, Tm n e) → ds.length ≤ (ds.flatMap (pre n)).length
  | [], _ => Nat.le_refl _
  | d :: ds, h => by
    have := flat_ge (ds := ds) fun e he => h e (List.mem_cons_of_mem _ he)
    have := pre_pos (h d (List.mem_cons_self ..))
    rw [List.flatMap_cons, List.length_append, List.length_cons]
    omega
theorem walk_len {n : Nat} {d : PyData} {g : List Str} : (walkD n d g).length = (pre n d).length := by
  rw [← walk_pre n d g, List.length_map]
theorem opAddK {X : Cx} {K : PySem.W.Frag} (h : X.K = K) : OpR X (binaryOp .Add) (rAddAny K) := h ▸ opAdd
theorem outs_no {d : PyData} {g : List Str} {ws : List (PyData × List Str)} (h : tyD d ≠ "str") : outs ((d, g) :: ws) = outs ws := by
  cases d with
  | str x => exact absurd rfl h
  | _ => rfl
theorem outs_str (x : Str) (g : List Str) : outs [(.str x, g)] = if x ∈ g then [] else [x] := rfl
theorem outs_cons (q : PyData × List Str) (ws : List (PyData × List Str)) : outs (q :: ws) = outs [q] ++ outs ws := outs_app [q] ws
theorem dd_one (t : List Str) (x : Str) : dd t [x] = if x ∈ t then t else t ++ [x] := rfl
theorem walk_ge {n : Nat} : ∀ {qs : List (List Str × PyData)}, (∀ q ∈ qs, Tm n q.2) → qs.length ≤ (qs.flatMap fun q => walkD n q.2 q.1).length
  | [], _ => Nat.le_refl _
  | q :: qs, h => by
    have := walk_ge (qs := qs) fun e he => h e (List.mem_cons_of_mem _ he)
    have h1 := pre_pos (h q (List.mem_cons_self ..))
    rw [← walk_len (g := q.1)] at h1
    rw [List.flatMap_cons, List.length_append, List.length_cons]
    omega
theorem FitAll.sub {m : Nat} {es ds : List PyData} (h : es.Sublist ds) : ∀ {n : Nat}, FitAll n m ds → FitAll n m es := by
  induction h with
  | slnil => exact fun f => f
  | cons a h ih =>
    intro n f
    obtain ⟨x, y, l, _, f2⟩ := f.unc
    exact (ih f2).le (by omega) (Nat.le_refl _)
  | cons_cons a h ih =>
    intro n f
    obtain ⟨x, y, l, f1, f2⟩ := f.unc
    exact (FitAll.cons f1 (ih f2)).le l (Nat.le_refl _)
theorem outs_sub : ∀ ws : List (PyData × List Str), ((outs ws).map strD).Sublist (ws.map (·.1))
  | [] => .slnil
  | (d, g) :: ws => by
    have ih := outs_sub ws
    by_cases hs : tyD d = "str"
    · obtain ⟨x, rfl⟩ := ty_str hs
      show ((if x ∈ g then outs ws else x :: outs ws).map strD).Sublist (.str x :: ws.map (·.1))
      by_cases h : x ∈ g
      · rw [if_pos h]
        exact ih.cons _
      · rw [if_neg h]
        exact ih.cons_cons _
    · rw [outs_no hs]
      exact ih.cons _
theorem dd_sub : ∀ (xs acc : List Str), ∃ ys, dd acc xs = acc ++ ys ∧ ys.Sublist xs
  | [], acc => ⟨[], (List.append_nil _).symm, .slnil⟩
  | x :: xs, acc => by
    by_cases h : x ∈ acc
    · obtain ⟨ys, e, l⟩ := dd_sub xs acc
      refine ⟨ys, ?_, l.cons _⟩
      show dd (if x ∈ acc then acc else acc ++ [x]) xs = _
      rw [if_pos h, e]
    · obtain ⟨ys, e, l⟩ := dd_sub xs (acc ++ [x])
      refine ⟨x :: ys, ?_, l.cons_cons _⟩
      show dd (if x ∈ acc then acc else acc ++ [x]) xs = _
      rw [if_neg h, e, List.append_assoc]
      rfl
/-- the names of a term, as a list that is shown -/
theorem free_fit {n w m : Nat} {d : PyData} (t : Tm n d) (f : Fit w m d) : FitAll (n * (w + 2)) m ((dd [] (outs (walkD n d []))).map strD) := by
  obtain ⟨ys, e, l⟩ := dd_sub (outs (walkD n d [])) []
  rw [e, List.nil_append]
  refine FitAll.sub (l.map strD) (FitAll.sub (outs_sub _) ?_)
  rw [walk_pre]
  exact pre_fit t f
abbrev No : Addr → Prop := fun _ => False
theorem da_lst {K : PySem.W.Frag} {H : Hp} {L : Addr} {us : List V} {ds : List PyData} (e : H L = some (.lst us)) (g : DaAll K All H us ds) : Da K No H (.ref L) (.list ds) := .lst e (fun z => z) (g.less fun _ z => z.elim)
theorem da_frees {K : PySem.W.Frag} {H : Hp} {L : Addr} {xs : List Str} (e : H L = some (.lst (xs.map V.str))) : Da K No H (.ref L) (.list (xs.map strD)) := .lst e (fun z => z) (da_names xs)
end Ow

/-! How many texts of a tuple are unlike: len(set(..)). -/
namespace Ow
open PySem PySem.Spec PyProof.Rows
def Dn (g : Nat → Str) (i : Nat) : List Str := dd [] ((List.range i).map g)
theorem Dn_succ (g : Nat → Str) (i : Nat) : Dn g (i + 1) = if g i ∈ Dn g i then Dn g i else Dn g i ++ [g i] := by
  show dd [] ((List.range (i + 1)).map g) = _
  rw [List.range_succ, List.map_append, dd_app]
  rfl
theorem Dn_le (g : Nat → Str) (i : Nat) : (Dn g i).length ≤ i := by
  have := dd_len ((List.range i).map g) []
  rw [List.length_map, List.length_range] at this
  exact Nat.le_trans this (by show 0 + i ≤ i; omega)
theorem setOf_eq {prog : Program} {w : World} {h : Heap} {a : Addr} {S T : Str → Bool} {n m : Nat} (z : h.SetOf (strKind prog w) a S n) (e : S = T) (f : n = m) : h.SetOf (strKind prog w) a T m := e ▸ f ▸ z
section
variable {prog : Program} {w : World} {A : Around} {R : Result → Shared → Prop} {it : Addr} {fp wr : List Addr} {G : Array GenState → Array GenState → Prop} {n : Nat} {P : Nat → Value → Prop} {St : Nat → Shared → Prop}
theorem fill_loop (W : WalksS prog w A.in1 it fp wr G n P St) {C : Addr} (out : C ∉ fp) (g : Nat → Str) (isG : ∀ i v, P i v → ∃ t, v = Value.str (g i) t) (room : n + 1 < scanBound) (left : Nat) :
    ∀ (i : Nat) (z : Shared), i + left = n → St i z → z.heap.SetOf (strKind prog w) C (fun q => decide (q ∈ Dn g i)) (Dn g i).length →
      (∀ z', Moved (C :: wr) G z z' → z'.heap.SetOf (strKind prog w) C (fun q => decide (q ∈ Dn g n)) (Dn g n).length → R (.ok (.ret .none)) z') →
      codeAny (model prog w) A (.builtin "set.update.loop" ⟨[.ref C, .ref it], []⟩) R z := by
  have outW : C ∉ wr := fun c => out (W.sub _ c)
  have wider : ∀ {a b : Shared}, Moved wr G a b → Moved (C :: wr) G a b := fun mv => mv.mono fun c hc => List.mem_cons_of_mem _ hc
  have moved : ∀ {a b : Shared} {S : Str → Bool} {k : Nat}, Moved wr G a b → a.heap.SetOf (strKind prog w) C S k → b.heap.SetOf (strKind prog w) C S k := fun mv hs => by
    obtain ⟨ob, x1, x2, x3, at_, more⟩ := hs
    exact ⟨ob, x1, x2, x3, mv.heap C _ outW at_, more⟩
  induction left with
  | zero =>
    intro i z hi st hs fin
    obtain rfl : i = n := by omega
    refine codeAny_builtin F.entry_set_update_loop ?_
    rw [Around.under_plainId F.plain_set_update_loop _]
    exact wpAny_bind (W.done z _ _ st fun z' mv => wpAny_pure (fin z' (wider mv) (moved mv hs)))
  | succ left ih =>
    intro i z hi st hs fin
    refine codeAny_builtin F.entry_set_update_loop ?_
    rw [Around.under_plainId F.plain_set_update_loop _]
    refine wpAny_bind (W.item i z _ _ (by omega) st fun v z1 pv st1 mv => ?_)
    obtain ⟨t, rfl⟩ := isG i v pv
    show wpAny _ A.in1 (holding [Value.str (g i) t] (setAdd C (.str (g i) t)) >>= _) _ _ z1
    refine wpAny_bind (wpAny_holding ?_)
    unfold setAdd
    refine wpAny_holding (wpAny_bind ((strKind prog w).pyHash (k := g i) (strKind_is _ _ _ _) ?_))
    refine wpAny_setAddHashed_of (knd := strKind prog w) (s := { z1 with toks := z1.toks + 1 }) (strKind_is _ _ _ _) rfl (moved (b := z1) mv hs) (by have := Dn_le g i; omega) fun h2 same hs2 => ?_
    have next : h2.SetOf (strKind prog w) C (fun q => decide (q ∈ Dn g (i + 1))) (Dn g (i + 1)).length := by
      refine setOf_eq hs2 (funext fun q => ?_) ?_
      · rw [Dn_succ]
        by_cases c : g i ∈ Dn g i
        · rw [if_pos c]
          by_cases e : q = g i
          · subst e
            simp [c]
          · simp [e]
        · rw [if_neg c]
          simp
      · rw [Dn_succ]
        by_cases c : g i ∈ Dn g i
        · rw [if_pos c, if_pos (decide_eq_true c)]
        · rw [if_neg c, if_neg (by simpa using c), List.length_append]
          rfl
    have still : ∀ b, b ≠ C → ∀ o, z1.heap.get? b = some o → h2.get? b = some o := fun b hb o e => by
      rw [same.2 b hb]
      exact e
    refine wpAny_pure ⟨plainId_quiet F.plain_set_update_loop _, ih (i + 1) _ (by omega) (W.frame _ z1 _ _ st1 (Nat.le_succ _) fun b hb o e => still b (fun c => out (c ▸ hb)) o e) next fun z3 mv3 hs3 => ?_⟩
    exact fin z3 (Moved.trans W.gtrans ((wider mv).then_heap (Nat.le_succ _) fun b o hb e => still b (fun c => hb (c ▸ List.mem_cons_self ..)) o e) mv3) hs3
end
abbrev freshSet (led : Bool) : Obj := ⟨.type "set", none, .set #[] 0 (.fresh 0 0 led), #[]⟩
theorem strs_get : ∀ {us : List Value} {xs : List Str}, StrsAre us xs → ∀ {i : Nat} {v : Value}, us[i]? = some v → ∃ t, v = .str (xs.getD i Str.empty) t
  | _, _, .nil, i, v, e => by cases e
  | _, _, .cons x t r, 0, v, e => by
    cases e
    exact ⟨t, rfl⟩
  | _, _, .cons x t r, i + 1, v, e => strs_get r (i := i) e
theorem strs_len : ∀ {us : List Value} {xs : List Str}, StrsAre us xs → us.length = xs.length
  | _, _, .nil => rfl
  | _, _, .cons x t r => by rw [List.length_cons, List.length_cons, strs_len r]
theorem range_getD (xs : List Str) : (List.range xs.length).map (fun i => xs.getD i Str.empty) = xs := by
  refine List.ext_getElem (by simp) fun i h1 h2 => ?_
  rw [List.getElem_map, List.getElem_range, List.getD_eq_getElem?_getD, List.getElem?_eq_getElem h2]
  rfl
section
variable {prog : Program} {w : World} {A : Around} {E : Value → Shared → Prop} {s : Shared}
theorem init_setTx {l : Addr} {items : Array Value} {xs : List Str} (led : Bool) (free : A.handled = none) (tup : s.heap.IsTuple l items) (texts : StrsAre items.toList xs) (small : xs.length + 1 < scanBound) {F : PySem.Fin → Shared → Prop}
    (k : ∀ (h' : Heap) (tk : Nat), h'.SetOf (strKind prog w) s.heap.objs.size (fun q => decide (q ∈ dd [] xs)) (dd [] xs).length →
      (∀ b o, b < s.heap.objs.size → s.heap.get? b = some o → h'.get? b = some o) → wpAny (model prog w) A (ret Value.none) F E { s with heap := h', toks := tk }) :
    wpAny (model prog w) A (Builtin.«set.__init__» ⟨[.ref s.heap.objs.size, .ref l], []⟩) F E { s with heap := s.heap.push (freshSet led) } := by
  obtain ⟨⟨_, dl, _, sl⟩, at_, rfl, nl, rfl⟩ := tup
  have atS : (s.heap.push (freshSet led)).get? s.heap.objs.size = some (freshSet led) := Heap.get?_push_size _ rfl
  have at1 := Heap.get?_push_of_some (freshSet led) at_
  have low := Heap.lt_size at_
  have tup1 : (s.heap.push (freshSet led)).IsTuple l items := ⟨_, at1, rfl, nl, rfl⟩
  have n1 := PySem.F.sub_tuple_set
  have n2 := PySem.F.sub_tuple_frozenset
  have n3 : (Value.type "tuple" == .type "dict") = false := by decide
  have hT : Shared.TypeIs { s with heap := s.heap.push (freshSet led) } (.ref s.heap.objs.size) "set" := ⟨_, atS, rfl⟩
  unfold Builtin.«set.__init__» noKeywords Builtin.Frozenset.updateFrom; generalize hPI : pyIter = PI
  wp_walk
  rw [← hPI]
  refine wpAny_pyIter_tuple tup1 (wpAny_bind (wpAny_runValue ?_))
  have sz : (s.heap.push (freshSet led)).objs.size = s.heap.objs.size + 1 := Heap.size_push _ _
  have apart : l ≠ (s.heap.push (freshSet led)).objs.size := fun e => absurd (e.trans sz) (Nat.ne_of_lt (Nat.lt_succ_of_lt low))
  have len : xs.length = items.size := by rw [← strs_len texts, Array.length_toList]
  have dn : Dn (fun i => xs.getD i Str.empty) items.size = dd [] xs := by
    unfold Dn
    rw [← len, range_getD]
  refine fill_loop ((Walks.tuple (by simp [free]) _ l apart items).toS) (C := s.heap.objs.size) ?_ (fun i => xs.getD i Str.empty) (fun i v e => strs_get texts (by rw [Array.getElem?_toList]; exact e)) (by omega) items.size 0 _ (Nat.zero_add _)
    ⟨⟨_, Heap.get?_push_size _ rfl, rfl, rfl⟩, tup1.push _⟩ ?_ ?_
  · rw [sz]
    intro c
    simp only [List.mem_cons, List.not_mem_nil, or_false] at c
    rcases c with c | c
    · exact absurd c (Nat.ne_of_lt (Nat.lt_succ_self _))
    · exact absurd c.symm (Nat.ne_of_lt low)
  · refine setOf_eq ((setObjOf_fresh (knd := strKind prog w) led).setOf (Heap.get?_push_of_some _ atS) (by unfold scanBound; omega)) (funext fun q => ?_) rfl
    rfl
  · rintro ⟨h2, g2, d2, tk2, os2⟩ mv hs
    obtain rfl : g2 = s.gens := mv.gens
    obtain rfl : d2 = s.drawn := mv.drawn
    obtain rfl : os2 = s.os := mv.os
    rw [dn] at hs
    refine wpAny_pure (k h2 tk2 hs fun b o hb e => mv.heap b o ?_ (Heap.get?_push_of_some _ (Heap.get?_push_of_some _ e)))
    rw [sz]
    simp only [List.mem_cons, List.not_mem_nil, or_false, not_or]
    exact ⟨Nat.ne_of_lt hb, Nat.ne_of_lt (Nat.lt_succ_of_lt hb)⟩
theorem call_setTx {l : Addr} {items : Array Value} {xs : List Str} {Q : Value → Shared → Prop} (free : A.handled = none) (tup : s.heap.IsTuple l items) (texts : StrsAre items.toList xs) (small : xs.length + 1 < scanBound)
    (k : ∀ (h' : Heap) (tk : Nat), h'.SetOf (strKind prog w) s.heap.objs.size (fun q => decide (q ∈ dd [] xs)) (dd [] xs).length →
      (∀ b o, b < s.heap.objs.size → s.heap.get? b = some o → h'.get? b = some o) → Q (.ref s.heap.objs.size) { s with heap := h', toks := tk }) : wpAny (model prog w) A (call (.type "set") [.ref l]) Q E s := by
  have ⟨cc, tl, mro⟩ := PySem.F.called_set.mro
  have a1 := PySem.F.called_set.made; have a2 := PySem.F.called_set.sub
  have a3 := PySem.F.called_set.notType; have a4 := PySem.F.called_set.canCreate; have a5 := PySem.F.typeCall_set_1 (.ref l)
  refine wpAny_call (codeAny_of_tree (show wpAny _ _ (callAny (.type "set") _) _ _ _ from wpAny_pure ⟨Code.quiet_builtin _ (by decide +kernel), codeAny_builtin PySem.F.entry_type_call ?_⟩))
  rw [Around.under_plain (weight_type_call_type "set" [.ref l] []) rfl]
  repeat any_goals first | assumption | wp_step
  refine codeAny_mono (code_set_new_1 (.ref l) (E := E) (Q₁ := fun ob z => ∃ led : Bool, ob = .ref s.heap.objs.size ∧ z = { s with heap := s.heap.push (freshSet led) }) fun led => ⟨led, rfl, rfl⟩) fun r z hr => ?_
  match r, hr with
  | .ok (.ret ob), hr =>
    obtain ⟨led, rfl, rfl⟩ := hr
    have atS : (s.heap.push (freshSet led)).get? s.heap.objs.size = some (freshSet led) := Heap.get?_push_size _ rfl
    have hT : Shared.TypeIs { s with heap := s.heap.push (freshSet led) } (.ref s.heap.objs.size) "set" := ⟨_, atS, rfl⟩
    have b1 := PySem.F.called_set.init.lookup; have b2 := PySem.F.called_set.init.bind (.ref s.heap.objs.size)
    repeat any_goals first | assumption | wp_step
    refine codeAny_mono (codeAny_call_builtin (R := wants (fun r z => r = .none ∧ ∃ (h' : Heap) (tk : Nat), z = { s with heap := h', toks := tk } ∧ h'.SetOf (strKind prog w) s.heap.objs.size (fun q => decide (q ∈ dd [] xs)) (dd [] xs).length ∧
      ∀ b o, b < s.heap.objs.size → s.heap.get? b = some o → h'.get? b = some o) E) PySem.F.called_set.init.plain PySem.F.entry_set_init (check_set_init_1 hT ?_)) fun r2 z2 hr2 => ?_
    · exact init_setTx led (by simp [free]) tup texts small fun h2 tk hs keep => wpAny_pure ⟨rfl, h2, tk, rfl, hs, keep⟩
    · match r2, hr2 with
      | .ok (.ret v), hr2 =>
        obtain ⟨rfl, h2, tk, rfl, hs, keep⟩ := hr2
        repeat any_goals first | assumption | wp_step
        exact k h2 tk hs keep
      | .error e, hr2 => exact hr2
  | .error e, hr => exact hr
theorem init_setLx {l : Addr} {items : Array Value} {xs : List Str} (led : Bool) (free : A.handled = none) (tup : s.heap.IsList l items) (texts : StrsAre items.toList xs) (small : xs.length + 1 < scanBound) {F : PySem.Fin → Shared → Prop}
    (k : ∀ (h' : Heap) (tk : Nat), h'.SetOf (strKind prog w) s.heap.objs.size (fun q => decide (q ∈ dd [] xs)) (dd [] xs).length →
      (∀ b o, b < s.heap.objs.size → s.heap.get? b = some o → h'.get? b = some o) → wpAny (model prog w) A (ret Value.none) F E { s with heap := h', toks := tk }) :
    wpAny (model prog w) A (Builtin.«set.__init__» ⟨[.ref s.heap.objs.size, .ref l], []⟩) F E { s with heap := s.heap.push (freshSet led) } := by
  obtain ⟨⟨_, dl, _, sl⟩, at_, rfl, nl, rfl⟩ := tup
  have atS : (s.heap.push (freshSet led)).get? s.heap.objs.size = some (freshSet led) := Heap.get?_push_size _ rfl
  have at1 := Heap.get?_push_of_some (freshSet led) at_
  have low := Heap.lt_size at_
  have tup1 : (s.heap.push (freshSet led)).IsList l items := ⟨_, at1, rfl, nl, rfl⟩
  have n1 := PySem.F.sub_list_set
  have n2 := PySem.F.sub_list_frozenset
  have n3 : (Value.type "list" == .type "dict") = false := by decide
  have hT : Shared.TypeIs { s with heap := s.heap.push (freshSet led) } (.ref s.heap.objs.size) "set" := ⟨_, atS, rfl⟩
  unfold Builtin.«set.__init__» noKeywords Builtin.Frozenset.updateFrom; generalize hPI : pyIter = PI
  wp_walk
  rw [← hPI]
  refine wpAny_pyIter_list tup1 (wpAny_bind (wpAny_runValue ?_))
  have sz : (s.heap.push (freshSet led)).objs.size = s.heap.objs.size + 1 := Heap.size_push _ _
  have apart : l ≠ (s.heap.push (freshSet led)).objs.size := fun e => absurd (e.trans sz) (Nat.ne_of_lt (Nat.lt_succ_of_lt low))
  have len : xs.length = items.size := by rw [← strs_len texts, Array.length_toList]
  have dn : Dn (fun i => xs.getD i Str.empty) items.size = dd [] xs := by
    unfold Dn
    rw [← len, range_getD]
  refine fill_loop ((Walks.list (by simp [free]) _ l apart items).toS) (C := s.heap.objs.size) ?_ (fun i => xs.getD i Str.empty) (fun i v e => strs_get texts (by rw [Array.getElem?_toList]; exact e)) (by omega) items.size 0 _ (Nat.zero_add _)
    ⟨⟨_, Heap.get?_push_size _ rfl, rfl, rfl⟩, tup1.push _⟩ ?_ ?_
  · rw [sz]
    intro c
    simp only [List.mem_cons, List.not_mem_nil, or_false] at c
    rcases c with c | c
    · exact absurd c (Nat.ne_of_lt (Nat.lt_succ_self _))
    · exact absurd c.symm (Nat.ne_of_lt low)
  · refine setOf_eq ((setObjOf_fresh (knd := strKind prog w) led).setOf (Heap.get?_push_of_some _ atS) (by unfold scanBound; omega)) (funext fun q => ?_) rfl
    rfl
  · rintro ⟨h2, g2, d2, tk2, os2⟩ mv hs
    obtain rfl : g2 = s.gens := mv.gens
    obtain rfl : d2 = s.drawn := mv.drawn
    obtain rfl : os2 = s.os := mv.os
    rw [dn] at hs
    refine wpAny_pure (k h2 tk2 hs fun b o hb e => mv.heap b o ?_ (Heap.get?_push_of_some _ (Heap.get?_push_of_some _ e)))
    rw [sz]
    simp only [List.mem_cons, List.not_mem_nil, or_false, not_or]
    exact ⟨Nat.ne_of_lt hb, Nat.ne_of_lt (Nat.lt_succ_of_lt hb)⟩
theorem call_setLx {l : Addr} {items : Array Value} {xs : List Str} {Q : Value → Shared → Prop} (free : A.handled = none) (tup : s.heap.IsList l items) (texts : StrsAre items.toList xs) (small : xs.length + 1 < scanBound)
    (k : ∀ (h' : Heap) (tk : Nat), h'.SetOf (strKind prog w) s.heap.objs.size (fun q => decide (q ∈ dd [] xs)) (dd [] xs).length →
      (∀ b o, b < s.heap.objs.size → s.heap.get? b = some o → h'.get? b = some o) → Q (.ref s.heap.objs.size) { s with heap := h', toks := tk }) : wpAny (model prog w) A (call (.type "set") [.ref l]) Q E s := by
  have ⟨cc, tl, mro⟩ := PySem.F.called_set.mro
  have a1 := PySem.F.called_set.made; have a2 := PySem.F.called_set.sub
  have a3 := PySem.F.called_set.notType; have a4 := PySem.F.called_set.canCreate; have a5 := PySem.F.typeCall_set_1 (.ref l)
  refine wpAny_call (codeAny_of_tree (show wpAny _ _ (callAny (.type "set") _) _ _ _ from wpAny_pure ⟨Code.quiet_builtin _ (by decide +kernel), codeAny_builtin PySem.F.entry_type_call ?_⟩))
  rw [Around.under_plain (weight_type_call_type "set" [.ref l] []) rfl]
  repeat any_goals first | assumption | wp_step
  refine codeAny_mono (code_set_new_1 (.ref l) (E := E) (Q₁ := fun ob z => ∃ led : Bool, ob = .ref s.heap.objs.size ∧ z = { s with heap := s.heap.push (freshSet led) }) fun led => ⟨led, rfl, rfl⟩) fun r z hr => ?_
  match r, hr with
  | .ok (.ret ob), hr =>
    obtain ⟨led, rfl, rfl⟩ := hr
    have atS : (s.heap.push (freshSet led)).get? s.heap.objs.size = some (freshSet led) := Heap.get?_push_size _ rfl
    have hT : Shared.TypeIs { s with heap := s.heap.push (freshSet led) } (.ref s.heap.objs.size) "set" := ⟨_, atS, rfl⟩
    have b1 := PySem.F.called_set.init.lookup; have b2 := PySem.F.called_set.init.bind (.ref s.heap.objs.size)
    repeat any_goals first | assumption | wp_step
    refine codeAny_mono (codeAny_call_builtin (R := wants (fun r z => r = .none ∧ ∃ (h' : Heap) (tk : Nat), z = { s with heap := h', toks := tk } ∧ h'.SetOf (strKind prog w) s.heap.objs.size (fun q => decide (q ∈ dd [] xs)) (dd [] xs).length ∧
      ∀ b o, b < s.heap.objs.size → s.heap.get? b = some o → h'.get? b = some o) E) PySem.F.called_set.init.plain PySem.F.entry_set_init (check_set_init_1 hT ?_)) fun r2 z2 hr2 => ?_
    · exact init_setLx led (by simp [free]) tup texts small fun h2 tk hs keep => wpAny_pure ⟨rfl, h2, tk, rfl, hs, keep⟩
    · match r2, hr2 with
      | .ok (.ret v), hr2 =>
        obtain ⟨rfl, h2, tk, rfl, hs, keep⟩ := hr2
        repeat any_goals first | assumption | wp_step
        exact k h2 tk hs keep
      | .error e, hr2 => exact hr2
  | .error e, hr => exact hr
end
end Ow
namespace Ow
open PySem PySem.Spec PyProof.Rows L2
def tLenSetT (K : PySem.W.Frag) (ta : TE) : TE := fun σ H Q => ta σ H fun x H1 => ∃ (l : Addr) (xs : List Str), x = .ref l ∧ (SqT K H1 l (xs.map V.str) ∨ SqL K H1 l (xs.map V.str)) ∧ xs.length ≤ 1000 ∧ Q (.int (dd [] xs).length) H1
theorem strs_are : ∀ {xs : List Str} {us : List Value}, Vals (xs.map V.str) us → StrsAre us xs
  | [], _, .nil => .nil
  | x :: xs, _, .cons ⟨k, e⟩ t => e ▸ .cons x k (strs_are t)
theorem pe_lenSetT {X : Cx} {a : Expr} {ta : TE} {p p2 q pos : Pos} (calm : X.calm = true) (g1 : Gl X "len") (n1 : X.mg "len" = none) (g2 : Gl X "set") (n2 : X.mg "set" = none) (ha : PE X a ta)
    (na : starEach [a] X.env = (false, eval a X.env) :: starEach [] X.env := by rfl) : PE X (.Call (.Name "len" p) [.Call (.Name "set" p2) [a] [] q] [] pos) (tLenSetT X.K ta) := by
  refine ⟨fun pins s σ H Q I h => Call_ (ld_blt I g1 n1 boot_len (callWith_builtin1 (args_cons (Call_ (ld_blt I g2 n2 boot_set (callWith_type1 (args_cons (thn (ha.run pins s σ H _ I h) fun v s1 z => args_nil ?_) na) na rfl))) rfl) rfl rfl))⟩
  obtain ⟨x, H1, I1, r1, l, xs, rfl, hT, small, done⟩ := z
  cases r1
  have fin : ∀ (h2 : Heap) (tk : Nat), h2.SetOf (strKind X.prog X.w) s1.heap.objs.size (fun q => decide (q ∈ dd [] xs)) (dd [] xs).length → (∀ b o, b < s1.heap.objs.size → s1.heap.get? b = some o → h2.get? b = some o) →
      wpAny (model X.prog X.w) X.A (spliced (backTo pos (starEach [] X.env))) (fun vs s₂ => wpAny (model X.prog X.w) X.A (call (.builtin "len") (Value.ref s1.heap.objs.size :: vs)) (EP X pins σ Q) X.xe s₂) X.xe { s1 with heap := h2, toks := tk } := fun h2 tk hs keep => by
    refine args_nil ?_
    obtain ⟨ob, x1, x2, x3, at_, y1, y2, _, _, _, y3, y4⟩ := hs
    have I2 : Inv X pins σ H1 { s1 with heap := h2, toks := tk } := I1.kept fun b o e => keep b o (Heap.lt_size e) e
    have short := dd_len xs []
    have nn : ([] : List Str).length = 0 := rfl
    exact call_len_set at_ y1 y2 y3 (by rw [y4]; omega) ⟨.int (dd [] xs).length, H1, I2.tok _, ⟨_, by rw [y4]⟩, done⟩
  rcases hT with hT | hT
  · obtain ⟨us, r, tup, _⟩ := I1.tuple hT
    exact call_setTx (I1.ok.hd calm) tup (by simpa using strs_are r) (by unfold scanBound; omega) fin
  · obtain ⟨us, r, lst, _⟩ := I1.list hT
    exact call_setLx (I1.ok.hd calm) lst.isList (by simpa using strs_are r) (by unfold scanBound; omega) fin
end Ow

/-! What is a term, over any data. -/
namespace Ow
open PySem PySem.Spec PyProof.Rows L2
def unlikeN (xs : List Str) : Bool := decide ((dd [] xs).length = xs.length)
def caseOk : PyData → Bool
  | .tuple [m, .tuple ns, _] => isNameD m && decide (ns.length ≤ 4) && ns.all isNameD && unlikeN (ns.map nmD)
  | _ => false
def slotOk (s : Str) (d : PyData) : Bool :=
  if s = sg "name" then isNameD d else if s = sg "kind" then kindW 6 d else if s = sg "terms" then isRowD d 0 4 else if s = sg "cases" then isRowD d 1 6 && (itD d).all caseOk else true
def formsL : List (Str × List Str) := [(sg "@", [sg "name"]), (sg "^", [sg "name", sg "kind", sg "term"]), (sg "!", [sg "term", sg "term"]), (sg "&", [sg "term", sg "term"]), (sg "/", [sg "term", sg "name", sg "name", sg "term"]),
  (sg "#", [sg "name", sg "terms"]), (sg "?", [sg "term", sg "cases"]), (sg "+", [sg "term", sg "name", sg "name", sg "term"]), (sg "-", [sg "term", sg "term"])]
def formOf (s : Str) : Option (List Str) := (formsL.find? fun p => decide (p.1 = s)).map (·.2)
def sameN (a b : Option PyData) : Bool := decide (a.map nmD = b.map nmD)
def formedD : PyData → Bool
  | .str x => isNameD (.str x)
  | .tuple (.str s :: r) => match formOf s with
    | none => false
    | some sl => decide (r.length = sl.length) && (sl.zip r).all (fun p => slotOk p.1 p.2) && (!decide (s ∈ m2) || !sameN r[1]? r[2]?)
  | _ => false
/-- the shape of what is formed, what is within it left aside -/
inductive Sh : PyData → Prop
  | name (x : Str) : isNameD (.str x) = true → Sh (.str x)
  | at (x : Str) : isNameD (.str x) = true → Sh (.tuple [.str (Str.ofString "@"), .str x])
  | lam (x : Str) (k t : PyData) : isNameD (.str x) = true → kindW 6 k = true → Sh (.tuple [.str (Str.ofString "^"), .str x, k, t])
  | two (s : Str) (t u : PyData) : s ∈ [Str.ofString "!", Str.ofString "&", Str.ofString "-"] → Sh (.tuple [.str s, t, u])
  | five (s x y : Str) (t u : PyData) : s ∈ [Str.ofString "/", Str.ofString "+"] → isNameD (.str x) = true → isNameD (.str y) = true → x ≠ y → Sh (.tuple [.str s, t, .str x, .str y, u])
  | mk (c : Str) (ts : List PyData) : isNameD (.str c) = true → ts.length ≤ 4 → Sh (.tuple [.str (Str.ofString "#"), .str c, .tuple ts])
  | ch (t : PyData) (cs : List (Str × List Str × PyData)) : 1 ≤ cs.length → cs.length ≤ 6 → (∀ c ∈ cs, isNameD (.str c.1) = true ∧ c.2.1.length ≤ 4 ∧ (∀ x ∈ c.2.1, isNameD (.str x) = true) ∧ unlikeN c.2.1 = true) →
      Sh (.tuple [.str (Str.ofString "?"), t, .tuple (cs.map fun c => .tuple [.str c.1, .tuple (c.2.1.map strD), c.2.2])])
theorem name_str {d : PyData} (h : isNameD d = true) : ∃ x, d = .str x := by
  cases d with
  | str x => exact ⟨x, rfl⟩
  | _ => cases h
theorem names_of : ∀ {ns : List PyData}, ns.all isNameD = true → ∃ xs : List Str, ns = xs.map strD ∧ ∀ x ∈ xs, isNameD (.str x) = true
  | [], _ => ⟨[], rfl, fun _ z => nomatch z⟩
  | d :: ns, h => by
    rw [List.all_cons, Bool.and_eq_true] at h
    obtain ⟨x, rfl⟩ := name_str h.1
    obtain ⟨xs, rfl, hx⟩ := names_of h.2
    refine ⟨x :: xs, rfl, fun y hy => ?_⟩
    rcases List.mem_cons.mp hy with rfl | hy
    · exact h.1
    · exact hx y hy
theorem case_of {d : PyData} (h : caseOk d = true) : ∃ c : Str × List Str × PyData, d = .tuple [.str c.1, .tuple (c.2.1.map strD), c.2.2] ∧ isNameD (.str c.1) = true ∧ c.2.1.length ≤ 4 ∧ (∀ x ∈ c.2.1, isNameD (.str x) = true) ∧ unlikeN c.2.1 = true := by
  unfold caseOk at h
  split at h
  · rename_i m ns u
    simp only [Bool.and_eq_true, decide_eq_true_eq] at h
    obtain ⟨⟨⟨h1, h2⟩, h3⟩, h4⟩ := h
    obtain ⟨x, rfl⟩ := name_str h1
    obtain ⟨xs, rfl, hx⟩ := names_of h3
    rw [nm_map] at h4
    rw [List.length_map] at h2
    exact ⟨(x, xs, u), rfl, h1, h2, hx, h4⟩
  · cases h
theorem cases_of : ∀ {ds : List PyData}, ds.all caseOk = true → ∃ cs : List (Str × List Str × PyData), ds = cs.map (fun c => .tuple [.str c.1, .tuple (c.2.1.map strD), c.2.2]) ∧ ∀ c ∈ cs, isNameD (.str c.1) = true ∧ c.2.1.length ≤ 4 ∧ (∀ x ∈ c.2.1, isNameD (.str x) = true) ∧ unlikeN c.2.1 = true
  | [], _ => ⟨[], rfl, fun _ z => nomatch z⟩
  | d :: ds, h => by
    rw [List.all_cons, Bool.and_eq_true] at h
    obtain ⟨c, rfl, hc⟩ := case_of h.1
    obtain ⟨cs, rfl, hcs⟩ := cases_of h.2
    refine ⟨c :: cs, rfl, fun e he => ?_⟩
    rcases List.mem_cons.mp he with rfl | he
    · exact hc
    · exact hcs e he
theorem slot_name (d : PyData) : slotOk (sg "name") d = isNameD d := if_pos rfl
theorem slot_kind (d : PyData) : slotOk (sg "kind") d = kindW 6 d := (if_neg (by decide +kernel)).trans (if_pos rfl)
theorem slot_terms (d : PyData) : slotOk (sg "terms") d = isRowD d 0 4 := (if_neg (by decide +kernel)).trans ((if_neg (by decide +kernel)).trans (if_pos rfl))
theorem slot_cases (d : PyData) : slotOk (sg "cases") d = (isRowD d 1 6 && (itD d).all caseOk) := (if_neg (by decide +kernel)).trans ((if_neg (by decide +kernel)).trans ((if_neg (by decide +kernel)).trans (if_pos rfl)))
theorem slot_term (d : PyData) : slotOk (sg "term") d = true := (if_neg (by decide +kernel)).trans ((if_neg (by decide +kernel)).trans ((if_neg (by decide +kernel)).trans (if_neg (by decide +kernel))))
theorem form_cases {s : Str} {sl : List Str} (h : formOf s = some sl) : (s, sl) ∈ formsL := by
  unfold formOf at h
  obtain ⟨p, hp, rfl⟩ := Option.map_eq_some_iff.mp h
  have e := List.find?_some hp
  rw [← of_decide_eq_true e]
  exact List.mem_of_find?_eq_some hp
theorem row_tup {d : PyData} {a b : Int} (h : isRowD d a b = true) : ∃ ds, d = .tuple ds ∧ a ≤ (ds.length : Int) ∧ (ds.length : Int) ≤ b := by
  cases d with
  | tuple ds =>
    refine ⟨ds, rfl, ?_⟩
    simpa [isRowD] using h
  | _ => cases h
theorem form_eq {s : Str} {r : List PyData} : formedD (.tuple (.str s :: r)) = match formOf s with
    | none => false
    | some sl => decide (r.length = sl.length) && (sl.zip r).all (fun p => slotOk p.1 p.2) && (!decide (s ∈ m2) || !sameN r[1]? r[2]?) := rfl
theorem len1 {α : Type} {r : List α} (h : r.length = 1) : ∃ a, r = [a] := by
  match r, h with
  | [a], _ => exact ⟨a, rfl⟩
theorem len2 {α : Type} {r : List α} (h : r.length = 2) : ∃ a b, r = [a, b] := by
  match r, h with
  | [a, b], _ => exact ⟨a, b, rfl⟩
theorem len3 {α : Type} {r : List α} (h : r.length = 3) : ∃ a b c, r = [a, b, c] := by
  match r, h with
  | [a, b, c], _ => exact ⟨a, b, c, rfl⟩
theorem len4 {α : Type} {r : List α} (h : r.length = 4) : ∃ a b c d, r = [a, b, c, d] := by
  match r, h with
  | [a, b, c, d], _ => exact ⟨a, b, c, d, rfl⟩
theorem formed_sh {d : PyData} (h : formedD d = true) : Sh d := by
  unfold formedD at h
  split at h
  · exact .name _ h
  · rename_i s r
    split at h
    · cases h
    · rename_i sl hs
      simp only [Bool.and_eq_true, decide_eq_true_eq] at h
      obtain ⟨⟨hl, ha⟩, hm⟩ := h
      have hf := form_cases hs
      simp only [formsL, List.mem_cons, List.not_mem_nil, or_false, Prod.mk.injEq] at hf
      rcases hf with ⟨rfl, rfl⟩ | ⟨rfl, rfl⟩ | ⟨rfl, rfl⟩ | ⟨rfl, rfl⟩ | ⟨rfl, rfl⟩ | ⟨rfl, rfl⟩ | ⟨rfl, rfl⟩ | ⟨rfl, rfl⟩ | ⟨rfl, rfl⟩
      · obtain ⟨a, rfl⟩ := len1 hl
        simp only [List.zip_cons_cons, List.zip_nil_left, List.all_cons, List.all_nil, slot_name, Bool.and_true] at ha
        obtain ⟨x, rfl⟩ := name_str ha
        exact .at x ha
      · obtain ⟨a, b, c, rfl⟩ := len3 hl
        simp only [List.zip_cons_cons, List.zip_nil_left, List.all_cons, List.all_nil, slot_name, slot_kind, slot_term, Bool.and_true, Bool.and_eq_true] at ha
        obtain ⟨x, rfl⟩ := name_str ha.1
        exact .lam x b c ha.1 ha.2
      · obtain ⟨a, b, rfl⟩ := len2 hl
        exact .two _ a b (by simp)
      · obtain ⟨a, b, rfl⟩ := len2 hl
        exact .two _ a b (by simp)
      · obtain ⟨a, b, c, e, rfl⟩ := len4 hl
        simp only [List.zip_cons_cons, List.zip_nil_left, List.all_cons, List.all_nil, slot_name, slot_term, Bool.and_true, Bool.true_and, Bool.and_eq_true] at ha
        obtain ⟨x, rfl⟩ := name_str ha.1
        obtain ⟨y, rfl⟩ := name_str ha.2
        refine .five _ x y a e (by simp) ha.1 ha.2 fun hxy => ?_
        subst hxy
        simp [sameN] at hm
      · obtain ⟨a, b, rfl⟩ := len2 hl
        simp only [List.zip_cons_cons, List.zip_nil_left, List.all_cons, List.all_nil, slot_name, slot_terms, Bool.and_true, Bool.and_eq_true] at ha
        obtain ⟨x, rfl⟩ := name_str ha.1
        obtain ⟨ts, rfl, _, h4⟩ := row_tup ha.2
        exact .mk x ts ha.1 (by omega)
      · obtain ⟨a, b, rfl⟩ := len2 hl
        simp only [List.zip_cons_cons, List.zip_nil_left, List.all_cons, List.all_nil, slot_term, slot_cases, Bool.and_true, Bool.true_and, Bool.and_eq_true] at ha
        obtain ⟨ts, rfl, h1, h6⟩ := row_tup ha.1
        obtain ⟨cs, rfl, hcs⟩ := cases_of (ds := ts) ha.2
        rw [List.length_map] at h1 h6
        exact .ch a cs (by omega) (by omega) hcs
      · obtain ⟨a, b, c, e, rfl⟩ := len4 hl
        simp only [List.zip_cons_cons, List.zip_nil_left, List.all_cons, List.all_nil, slot_name, slot_term, Bool.and_true, Bool.true_and, Bool.and_eq_true] at ha
        obtain ⟨x, rfl⟩ := name_str ha.1
        obtain ⟨y, rfl⟩ := name_str ha.2
        refine .five _ x y a e (by simp) ha.1 ha.2 fun hxy => ?_
        subst hxy
        simp [sameN] at hm
      · obtain ⟨a, b, rfl⟩ := len2 hl
        exact .two _ a b (by simp)
  · cases h
end Ow

/-! How large a term is; rows of what stands within. -/
namespace Ow
open PySem PySem.Spec PyProof.Rows L2
theorem kidsS_fit {d : PyData} (h : Sh d) : ∀ {w m : Nat}, Fit w m d → FitAll w m ((kids d).map (·.2)) := by
  intro w m f
  cases h with
  | name x _ => exact FitAll.nil.le (Nat.zero_le _) (Nat.le_refl _)
  | «at» x _ => exact FitAll.nil.le (Nat.zero_le _) (Nat.le_refl _)
  | lam x kk t _ _ =>
    obtain ⟨a, b, l, f1, f2⟩ := f.inner.unc
    obtain ⟨a2, b2, l2, f3, f4⟩ := f2.unc
    obtain ⟨a3, b3, l3, f5, f6⟩ := f4.unc
    exact f6.le (by omega) (Nat.le_refl _)
  | two s t u hs =>
    rw [kids_two _ _ hs]
    exact f.two.1
  | five s x y t u hs _ _ _ =>
    obtain ⟨a, b, l, f1, f2⟩ := f.inner.unc
    obtain ⟨a2, b2, l2, f3, f4⟩ := f2.unc
    obtain ⟨a3, b3, l3, f5, f6⟩ := f4.unc
    obtain ⟨a4, b4, l4, f7, f8⟩ := f6.unc
    exact (FitAll.cons f3 f8).le (by omega) (Nat.le_refl _)
  | mk c ts _ _ =>
    rw [kids_mk, List.map_map]
    have := f.two.2.1.inner
    rwa [show ts.map ((fun x : List Str × PyData => x.2) ∘ fun t => ([], t)) = ts from List.map_id _]
  | ch t cs _ _ _ =>
    rw [kids_ch]
    obtain ⟨a, b, l, f1, f2⟩ := f.inner.unc
    obtain ⟨a2, b2, l2, f3, f4⟩ := f2.unc
    obtain ⟨a3, b3, l3, f5, f6⟩ := f4.unc
    have g2 := FitAll.fmap (fun c => (caseD c).2) (fun d hd => by
      obtain ⟨c, _, rfl⟩ := List.mem_map.mp hd
      intro n m q
      exact q.two.2.1) f5.inner
    rw [List.map_map] at g2
    show FitAll w m (_ :: (cs.map (·.2)).map (·.2))
    rw [List.map_map]
    exact (FitAll.cons f3 g2).le (by omega) (Nat.le_refl _)
theorem kidsS_len {d : PyData} (h : Sh d) : (kids d).length ≤ 7 := by
  cases h with
  | name x _ => exact Nat.zero_le _
  | «at» x _ => exact Nat.zero_le _
  | lam x kk t _ _ => show 1 ≤ 7; omega
  | two s t u hs => rw [kids_two _ _ hs]; show 2 ≤ 7; omega
  | five s x y t u hs _ _ _ => show 2 ≤ 7; omega
  | mk c ts _ h4 => rw [kids_mk, List.length_map]; omega
  | ch t cs _ h6 _ => rw [kids_ch, List.length_cons, List.length_map]; omega
def addO : Option Nat → Option Nat → Option Nat
  | some a, some b => some (a + b)
  | _, _ => none
def sumO : List (Option Nat) → Option Nat
  | [] => some 0
  | x :: xs => addO x (sumO xs)
theorem addO_assoc (a b c : Option Nat) : addO (addO a b) c = addO a (addO b c) := by
  cases a <;> cases b <;> cases c <;> simp [addO, Nat.add_assoc]
theorem addO_zero (a : Option Nat) : addO (some 0) a = a := by cases a <;> simp [addO]
theorem addO_none (a : Option Nat) : addO a none = none := by cases a <;> rfl
theorem sumO_app (xs ys : List (Option Nat)) : sumO (xs ++ ys) = addO (sumO xs) (sumO ys) := by
  induction xs with
  | nil => exact (addO_zero _).symm
  | cons x xs ih =>
    show addO x (sumO (xs ++ ys)) = addO (addO x (sumO xs)) (sumO ys)
    rw [ih, addO_assoc]
def sizedD : Nat → PyData → Option Nat
  | 0, _ => none
  | n + 1, d => if formedD d = true then addO (some 1) (sumO ((kids d).map fun k => sizedD n k.2)) else none
def upTo (n : Nat) : Option Nat → Bool
  | some k => decide (k ≤ n)
  | none => false
def termD (d : PyData) : Bool := upTo 200 (sizedD 30 d)
theorem sized_pos : ∀ {n : Nat} {d : PyData} {k : Nat}, sizedD n d = some k → 1 ≤ k
  | n + 1, d, k, h => by
    rw [sizedD] at h
    split at h
    · cases e : sumO ((kids d).map fun k => sizedD n k.2) with
      | none =>
        rw [e] at h
        cases h
      | some j =>
        rw [e] at h
        cases h
        omega
    · cases h
/-! rows that answer to a list, one by one -/
inductive AP {α : Type} (R : V → α → Prop) : List V → List α → Prop
  | nil : AP R [] []
  | cons {u : V} {us : List V} {q : α} {qs : List α} : R u q → AP R us qs → AP R (u :: us) (q :: qs)
section
variable {α : Type} {R S : V → α → Prop}
theorem AP.mono (h : ∀ u q, R u q → S u q) : ∀ {us : List V} {qs : List α}, AP R us qs → AP S us qs
  | _, _, .nil => .nil
  | _, _, .cons a b => .cons (h _ _ a) (b.mono h)
theorem AP.append : ∀ {us vs : List V} {qs rs : List α}, AP R us qs → AP R vs rs → AP R (us ++ vs) (qs ++ rs)
  | _, _, _, _, .nil, h => h
  | _, _, _, _, .cons a b, h => .cons a (b.append h)
theorem AP.length : ∀ {us : List V} {qs : List α}, AP R us qs → us.length = qs.length
  | _, _, .nil => rfl
  | _, _, .cons a b => by rw [List.length_cons, List.length_cons, b.length]
theorem AP.get : ∀ {us : List V} {qs : List α}, AP R us qs → ∀ {i : Nat} {u : V}, us[i]? = some u → ∃ q, qs[i]? = some q ∧ R u q
  | _, _, .nil, i, u, e => by cases e
  | _, _, .cons a b, 0, u, e => by
    cases e
    exact ⟨_, rfl, a⟩
  | _, _, .cons a b, i + 1, u, e => b.get (i := i) e
theorem AP.nil_of {us : List V} (h : AP R us []) : us = [] := by
  cases h
  rfl
theorem AP.snoc {qs : List α} {q : α} : ∀ {us : List V}, AP R us (qs ++ [q]) → ∃ vs u, us = vs ++ [u] ∧ AP R vs qs ∧ R u q := by
  induction qs with
  | nil =>
    intro us h
    cases h with
    | cons a b =>
      cases b
      exact ⟨[], _, rfl, .nil, a⟩
  | cons e qs ih =>
    intro us h
    cases h with
    | cons a b =>
      obtain ⟨vs, u, rfl, h1, h2⟩ := ih b
      exact ⟨_ :: vs, u, rfl, .cons a h1, h2⟩
end
/-- a row of the names that are given and of what stands within: this is read in the heap H0 -/
def KRow (K : PySem.W.Frag) (N : Addr → Prop) (H0 H : Hp) (u : V) (k : List Str × PyData) : Prop := ∃ (t n : Addr) (v : V), u = .ref t ∧ SqT K H t [.ref n, v] ∧ SqT K H n (k.1.map V.str) ∧ Da K N H0 v k.2
theorem KRow.ts {K : PySem.W.Frag} {N : Addr → Prop} {H0 H H' : Hp} (s : Ts K H H') (u : V) (k : List Str × PyData) (h : KRow K N H0 H u k) : KRow K N H0 H' u k := by
  obtain ⟨t, n, v, rfl, h1, h2, h3⟩ := h
  exact ⟨t, n, v, rfl, s _ _ h1, s _ _ h2, h3⟩
def spKidsS (K : PySem.W.Frag) : Sp := fun vs H Q _ => ∃ (N : Addr → Prop) (H0 : Hp) (v : V) (d : PyData), vs = [v] ∧ Same H0 H ∧ Da K N H0 v d ∧ Sh d ∧
  ∀ (L : Addr) (us : List V) (H' : Hp), Same H H' → H L = none → H' L = some (.lst us) → AP (KRow K N H0 H') us (kids d) → Q (.ref L) H'
def spUnlike (K : PySem.W.Frag) : Sp := fun vs H Q _ => ∃ (t : Addr) (xs : List Str), vs = [.ref t] ∧ (SqT K H t (xs.map V.str) ∨ SqL K H t (xs.map V.str)) ∧ xs.length ≤ 1000 ∧ Q (.bl (unlikeN xs)) H
def spOf (K : PySem.W.Frag) (f : PyData → Bool) : Sp := fun vs H Q _ => ∃ (N : Addr → Prop) (v : V) (d : PyData) (n m : Nat), vs = [v] ∧ Da K N H v d ∧ Fit n m d ∧ n ≤ 16000000 ∧ ∀ H', Same H H' → Q (.bl (f d)) H'
def spSlot (K : PySem.W.Frag) : Sp := fun vs H Q _ => ∃ (N : Addr → Prop) (s : Str) (v : V) (d : PyData) (n m : Nat), vs = [.str s, v] ∧ Da K N H v d ∧ Fit n m d ∧ n ≤ 16000000 ∧ ∀ H', Same H H' → Q (.bl (slotOk s d)) H'
/-- the table of forms, as the module keeps it -/
structure Forms (K : PySem.W.Frag) (w : World) (d : Addr) : Prop where
  dict : ∃ es n, KDict K w d es n
  no : ∀ z, formOf z = none → PySem.W.nsIn K d z = some none
  yes : ∀ z sl, formOf z = some sl → ∃ a, PySem.W.nsIn K d z = some (some (.ref a)) ∧ ∀ H, SqT K H a (sl.map V.str)
theorem acc_ap {K : PySem.W.Frag} {N : Addr → Prop} {H0 H : Hp} {D : Addr} {us : List V} {ks : List (List Str × PyData)} {y : V} {k : List Str × PyData} (e : H D = some (.lst us)) (h : AP (KRow K N H0 H) us ks) (g : KRow K N H0 H y k) :
    AP (KRow K N H0 (upd H D (.lst (us ++ [y])))) (us ++ [y]) (ks ++ [k]) := (h.append (.cons g .nil)).mono (KRow.ts (Ts.put e))
theorem AP.same {K : PySem.W.Frag} {N : Addr → Prop} {H0 H H' : Hp} {us : List V} {ks : List (List Str × PyData)} (h : AP (KRow K N H0 H) us ks) (s : Same H H') : AP (KRow K N H0 H') us ks := h.mono (KRow.ts (Ts.of s))
theorem KRow.same {K : PySem.W.Frag} {N : Addr → Prop} {H0 H H' : Hp} {u : V} {k : List Str × PyData} (h : KRow K N H0 H u k) (s : Same H H') : KRow K N H0 H' u k := h.ts (Ts.of s)
theorem krow {K : PySem.W.Frag} {N : Addr → Prop} {H0 H : Hp} {t n : Addr} {v : V} {d : PyData} {xs : List Str} (h : SqT K H t [.ref n, v]) (h1 : SqT K H n (xs.map V.str)) (h2 : Da K N H0 v d) : KRow K N H0 H (.ref t) (xs, d) := ⟨t, n, v, rfl, h, h1, h2⟩
theorem case_no {d : PyData} (h : isRowD d 3 3 = false) : caseOk d = false := by
  unfold caseOk
  split
  · simp [isRowD] at h
  · rfl
theorem case_yes (a b c : PyData) : caseOk (.tuple [a, b, c]) = (isNameD a && (isRowD b 0 4 && ((itD b).all isNameD && unlikeN ((itD b).map nmD)))) := by
  cases b with
  | tuple ns =>
    show (isNameD a && decide (ns.length ≤ 4) && ns.all isNameD && unlikeN (ns.map nmD)) = (isNameD a && (isRowD (.tuple ns) 0 4 && (ns.all isNameD && unlikeN (ns.map nmD))))
    have e : isRowD (.tuple ns) 0 4 = decide (ns.length ≤ 4) := by
      simp only [isRowD]
      by_cases h : ns.length ≤ 4
      · simp [h]; omega
      · simp [h]; omega
    rw [e]
    cases isNameD a <;> cases decide (ns.length ≤ 4) <;> cases ns.all isNameD <;> cases unlikeN (ns.map nmD) <;> rfl
  | _ => simp [caseOk, isRowD]
/-- a comprehension over a zip of two tuples of one length -/
theorem lc_zip2 {K : PySem.W.Frag} {a b : Addr} {xs ys : List V} {g : TG} {tt : TT} {te : TE} {vs : List Nat} {σ : L2.St} {H1 : Hp} {D : Addr} {Qd : Hp → Prop} (hl : xs.length = ys.length) (Pv : Nat → Hp → Prop) (h0 : Pv 0 (upd H1 D (.lst [])))
    (hq : ∀ i H, Pv i H → SqT K H a xs ∧ SqT K H b ys)
    (hs : ∀ i x y T H, xs[i]? = some x → ys[i]? = some y → Pv i H → H T = none → g (.ref T) (wipe σ vs) (upd H T (.tup [x, y])) fun σ2 H2 => wipe σ2 vs = wipe σ vs ∧ tt σ2 H2 fun b H3 =>
      if b = true then te σ2 H3 fun y H4 => ∃ acc, H4 D = some (.lst acc) ∧ acc.length < sizeLine ∧ Pv (i + 1) (upd H4 D (.lst (acc ++ [y]))) else Pv (i + 1) H3) (hd : ∀ H, Pv xs.length H → Qd H) : LcG (RZ.ItzT K a b) g tt te vs σ H1 D Qd := by
  refine ⟨fun i m H => m = xs.length - i ∧ i ≤ xs.length ∧ Pv i H, ⟨_, rfl, Nat.zero_le _, h0⟩, ?_⟩
  rintro i m H ⟨rfl, hi, p⟩
  obtain ⟨qx, qy⟩ := hq i H p
  by_cases lt : i < xs.length
  · refine .inr ⟨⟨xs, ys, xs[i], ys[i]'(hl ▸ lt), qx, qy, List.getElem?_eq_getElem lt, List.getElem?_eq_getElem (hl ▸ lt)⟩, Pv (i + 1), fun H' p' => ⟨xs.length - (i + 1), by omega, rfl, lt, p'⟩, fun v H' y => ?_⟩
    obtain ⟨T, x, z, rfl, hT, rfl, f1, f2⟩ := y
    exact hs i x z T H (f1 xs qx) (f2 ys qy) p hT
  · obtain rfl : i = xs.length := by omega
    exact .inl ⟨⟨xs, ys, qx, qy, .inl (Nat.le_refl _)⟩, hd H p⟩
theorem formed_no {d : PyData} (h1 : tyD d ≠ "str") (h2 : tyD d ≠ "tuple") : formedD d = false := by
  cases d with
  | str x => exact absurd rfl h1
  | tuple ds => exact absurd rfl h2
  | _ => rfl
theorem formed_nos {d : PyData} {r : List PyData} (h1 : tyD d ≠ "str") : formedD (.tuple (d :: r)) = false := by
  cases d with
  | str x => exact absurd rfl h1
  | _ => rfl
theorem formed_none {z : Str} {r : List PyData} (h : formOf z = none) : formedD (.tuple (.str z :: r)) = false := by rw [form_eq, h]
theorem formed_some {z : Str} {r : List PyData} {sl : List Str} (h : formOf z = some sl) : formedD (.tuple (.str z :: r)) = (decide (r.length = sl.length) && (sl.zip r).all (fun p => slotOk p.1 p.2) && (!decide (z ∈ m2) || !sameN r[1]? r[2]?)) := by rw [form_eq, h]
theorem form_len {z : Str} {sl : List Str} (h : formOf z = some sl) : sl.length ≤ 4 := by
  have hf := form_cases h
  simp only [formsL, List.mem_cons, List.not_mem_nil, or_false, Prod.mk.injEq] at hf
  rcases hf with ⟨rfl, rfl⟩ | ⟨rfl, rfl⟩ | ⟨rfl, rfl⟩ | ⟨rfl, rfl⟩ | ⟨rfl, rfl⟩ | ⟨rfl, rfl⟩ | ⟨rfl, rfl⟩ | ⟨rfl, rfl⟩ | ⟨rfl, rfl⟩ <;> decide
theorem form_m2 {z : Str} {sl : List Str} (h : formOf z = some sl) (hz : z ∈ m2) : sl = [sg "term", sg "name", sg "name", sg "term"] := by
  simp only [List.mem_cons, List.not_mem_nil, or_false] at hz
  rcases hz with rfl | rfl
  · have e : formOf (Str.ofString "/") = some [sg "term", sg "name", sg "name", sg "term"] := by decide +kernel
    rw [e] at h
    exact (Option.some.inj h).symm
  · have e : formOf (Str.ofString "+") = some [sg "term", sg "name", sg "name", sg "term"] := by decide +kernel
    rw [e] at h
    exact (Option.some.inj h).symm
theorem dec_intN {a b : Nat} : decide (V.int (a : Int) = V.int (b : Int)) = decide (a = b) := decide_eq_decide.mpr ⟨fun z => by
  injection z with z
  exact Int.ofNat.inj z, fun z => by rw [z]⟩
theorem at_zero {x : V} {xs : List V} : atI (x :: xs) 0 = some x := by
  have e : ixN (x :: xs).length 0 = some 0 := by
    unfold ixN
    rw [if_pos (by omega), if_pos (by rw [List.length_cons]; omega)]
    rfl
  show (ixN (x :: xs).length 0).bind _ = _
  rw [e]
  rfl
theorem cut_one (x : V) (xs : List V) : cutV (x :: xs) (some 1) none = xs := cut_drop (x :: xs) 1
theorem iteNF {c A B : Prop} [Decidable c] (hc : ¬ c) (h : A) : if (!decide c) = true then A else B := by
  rw [decide_eq_false hc]
  exact iteT h
theorem same_str {x y : Str} {r : List PyData} {d e : PyData} : sameN (d :: .str x :: .str y :: r)[1]? (d :: .str x :: .str y :: r)[2]? = decide (x = y) := by
  show decide (some x = some y) = _
  exact decide_eq_decide.mpr ⟨fun z => Option.some.inj z, fun z => by rw [z]⟩
theorem all_zip {sl : List Str} {r : List PyData} : ((sl.zip r).map fun p => slotOk p.1 p.2).all id = (sl.zip r).all fun p => slotOk p.1 p.2 := by
  rw [List.all_map]
  rfl
def okSum (many : Nat) (qs : List (PyData × Nat)) : Bool := upTo 200 (addO (some many) (sumO (qs.map fun q => sizedD (31 - q.2) q.1)))
theorem okSum_nil {many : Nat} (h : many ≤ 200) : okSum many [] = true := by
  show decide (many + 0 ≤ 200) = true
  exact decide_eq_true h
theorem okSum_one (d : PyData) : okSum 0 [(d, 1)] = termD d := by
  show upTo 200 (addO (some 0) (addO (sizedD 30 d) (some 0))) = upTo 200 (sizedD 30 d)
  rw [addO_zero]
  cases sizedD 30 d <;> rfl
theorem okSum_snoc (many : Nat) (qs : List (PyData × Nat)) (q : PyData × Nat) : okSum many (qs ++ [q]) = upTo 200 (addO (some many) (addO (sumO (qs.map fun q => sizedD (31 - q.2) q.1)) (sizedD (31 - q.2) q.1))) := by
  unfold okSum
  rw [List.map_append, sumO_app]
  show upTo 200 (addO _ (addO _ (addO (sizedD (31 - q.2) q.1) (some 0)))) = _
  have e : addO (sizedD (31 - q.2) q.1) (some 0) = sizedD (31 - q.2) q.1 := by cases sizedD (31 - q.2) q.1 <;> rfl
  rw [e]
theorem okSum_none {many : Nat} {qs : List (PyData × Nat)} {q : PyData × Nat} (h : sizedD (31 - q.2) q.1 = none) : okSum many (qs ++ [q]) = false := by
  rw [okSum_snoc, h, addO_none, addO_none]
  rfl
theorem okSum_full {many : Nat} {qs : List (PyData × Nat)} {q : PyData × Nat} (hm : 200 ≤ many) : okSum many (qs ++ [q]) = false := by
  cases h : sizedD (31 - q.2) q.1 with
  | none => exact okSum_none h
  | some k =>
    have := sized_pos h
    rw [okSum_snoc, h]
    cases sumO (qs.map fun q => sizedD (31 - q.2) q.1) with
    | none => rfl
    | some s =>
      show decide (many + (s + k) ≤ 200) = false
      exact decide_eq_false (by omega)
theorem okSum_step {many : Nat} {qs : List (PyData × Nat)} {q : PyData × Nat} (hf : formedD q.1 = true) (h30 : q.2 ≤ 30) : okSum (many + 1) (qs ++ (kids q.1).map fun k => (k.2, q.2 + 1)) = okSum many (qs ++ [q]) := by
  rw [okSum_snoc]
  have e : 31 - q.2 = (30 - q.2) + 1 := by omega
  rw [e, sizedD, if_pos hf]
  unfold okSum
  rw [List.map_append, sumO_app, List.map_map]
  have e2 : ((fun q : PyData × Nat => sizedD (31 - q.2) q.1) ∘ fun k : List Str × PyData => (k.2, q.2 + 1)) = fun k => sizedD (30 - q.2) k.2 := by
    funext k
    show sizedD (31 - (q.2 + 1)) k.2 = _
    rw [show 31 - (q.2 + 1) = 30 - q.2 by omega]
  rw [e2]
  cases sumO (qs.map fun q => sizedD (31 - q.2) q.1) with
  | none => rfl
  | some a =>
    cases sumO ((kids q.1).map fun k => sizedD (30 - q.2) k.2) with
    | none => rfl
    | some b =>
      show decide (many + 1 + (a + b) ≤ 200) = decide (many + (a + (1 + b)) ≤ 200)
      exact decide_eq_decide.mpr (by omega)
def RT (K : PySem.W.Frag) (N : Addr → Prop) (H0 H : Hp) (u : V) (q : PyData × Nat) : Prop := ∃ (t : Addr) (v : V), u = .ref t ∧ SqT K H t [v, .int (q.2 : Int)] ∧ Da K N H0 v q.1
theorem RT.ts {K : PySem.W.Frag} {N : Addr → Prop} {H0 H H' : Hp} (s : Ts K H H') (u : V) (q : PyData × Nat) (h : RT K N H0 H u q) : RT K N H0 H' u q := by
  obtain ⟨t, v, rfl, h1, h2⟩ := h
  exact ⟨t, v, rfl, s _ _ h1, h2⟩
def lunl (o : Int) : PyData → Bool
  | .tuple ds => decide ((ds.length : Int) ≤ o) && (ds.all isNameD && unlikeN (ds.map nmD))
  | _ => false
theorem lunl_no {o : Int} {d : PyData} (h : tyD d ≠ "tuple") : lunl o d = false := by
  cases d with
  | tuple ds => exact absurd rfl h
  | _ => rfl
def spLUnlike (K : PySem.W.Frag) : Sp := fun vs H Q _ => ∃ (N : Addr → Prop) (v : V) (d : PyData) (n m : Nat) (o : Int), vs = [v, .int o] ∧ Da K N H v d ∧ Fit n m d ∧ n ≤ 16000000 ∧ o ≤ 100 ∧ ∀ H', Same H H' → Q (.bl (lunl o d)) H'
def oV : Option Nat → V
  | none => .non
  | some k => .int k
def spSizes : Sp := fun vs H Q _ => ∃ (a : Addr) (os : List (Option Nat)), vs = [.ref a] ∧ H a = some (.lst (os.map oV)) ∧ os.length ≤ 1000 ∧ Q (oV (sumO os)) H
def spSized (K : PySem.W.Frag) (k : Nat) : Sp := fun vs H Q _ => ∃ (N : Addr → Prop) (v : V) (d : PyData) (n m : Nat) (z : Int), vs = [v, .int z] ∧ z = (k : Int) ∧ Da K N H v d ∧ Fit n m d ∧ n ≤ 8000000 ∧ ∀ H', Same H H' → Q (oV (sizedD k d)) H'
theorem sizes_in (os : List (Option Nat)) : (inV .non (os.map oV) = true ∧ sumO os = none) ∨ (inV .non (os.map oV) = false ∧ ∃ ns : List Nat, os.map oV = (ns.map Int.ofNat).map V.int ∧ sumO os = some ns.sum) := by
  induction os with
  | nil => exact .inr ⟨rfl, [], rfl, rfl⟩
  | cons o os ih =>
    cases o with
    | none => exact .inl ⟨rfl, rfl⟩
    | some k =>
      rcases ih with ⟨h1, h2⟩ | ⟨h1, ns, h2, h3⟩
      · refine .inl ⟨?_, ?_⟩
        · show (false || inV .non (os.map oV)) = true
          rw [h1]
          rfl
        · show addO (some k) (sumO os) = none
          rw [h2]
          rfl
      · refine .inr ⟨?_, k :: ns, ?_, ?_⟩
        · show (false || inV .non (os.map oV)) = false
          rw [h1]
          rfl
        · rw [List.map_cons, h2]
          rfl
        · show addO (some k) (sumO os) = _
          rw [h3, List.sum_cons]
          rfl
theorem flat_oV (os : List (Option Nat)) : (os.map oV).all flatV = true := by
  rw [List.all_map, List.all_eq_true]
  intro o _
  cases o <;> rfl
theorem sum_cast (ns : List Nat) : (ns.map Int.ofNat).sum = (ns.sum : Int) := by
  induction ns with
  | nil => rfl
  | cons n ns ih =>
    rw [List.map_cons, List.sum_cons, List.sum_cons, ih]
    exact (Int.natCast_add n ns.sum).symm
def rLenS (K : PySem.W.Frag) : List V → Hp → VK → Prop := fun xs H Q => ∃ p ys, xs = [V.ref p] ∧ (SqL K H p ys ∨ SqT K H p ys) ∧ Q (.int ys.length) H
theorem lenK {X : Cx} {K : PySem.W.Frag} (h : X.K = K) : CallR X (.builtin "len") (rLenS K) := h ▸ call_len_seq
end Ow

/-! Forms, sign by sign. -/
namespace Ow
open PySem PySem.Spec PyProof.Rows L2
theorem fd_len {s : Str} {r : List PyData} {sl : List Str} (h : formOf s = some sl) (hl : r.length ≠ sl.length) : formedD (.tuple (.str s :: r)) = false := by
  rw [formed_some h, decide_eq_false hl]
  rfl
theorem f_at : formOf (Str.ofString "@") = some [sg "name"] := by decide +kernel
theorem f_lam : formOf (Str.ofString "^") = some [sg "name", sg "kind", sg "term"] := by decide +kernel
theorem f_mk : formOf (Str.ofString "#") = some [sg "name", sg "terms"] := by decide +kernel
theorem f_ch : formOf (Str.ofString "?") = some [sg "term", sg "cases"] := by decide +kernel
theorem f_two {s : Str} (h : s ∈ m3) : formOf s = some [sg "term", sg "term"] := by
  simp only [List.mem_cons, List.not_mem_nil, or_false] at h
  rcases h with rfl | rfl | rfl <;> decide +kernel
theorem f_five {s : Str} (h : s ∈ m2) : formOf s = some [sg "term", sg "name", sg "name", sg "term"] := by
  simp only [List.mem_cons, List.not_mem_nil, or_false] at h
  rcases h with rfl | rfl <;> decide +kernel
theorem fd_at (a : PyData) : formedD (.tuple [.str (Str.ofString "@"), a]) = isNameD a := by
  rw [formed_some f_at, decide_eq_true (by rfl), decide_eq_false (by decide +kernel)]
  simp only [List.zip_cons_cons, List.zip_nil_left, List.all_cons, List.all_nil, slot_name, Bool.and_true, Bool.true_and, Bool.not_false, Bool.true_or]
theorem fd_lam (x k t : PyData) : formedD (.tuple [.str (Str.ofString "^"), x, k, t]) = (isNameD x && kindW 6 k) := by
  rw [formed_some f_lam, decide_eq_true (by rfl), decide_eq_false (by decide +kernel)]
  simp only [List.zip_cons_cons, List.zip_nil_left, List.all_cons, List.all_nil, slot_name, slot_kind, slot_term, Bool.and_true, Bool.true_and, Bool.not_false, Bool.true_or]
theorem fd_two {s : Str} (h : s ∈ m3) (t u : PyData) : formedD (.tuple [.str s, t, u]) = true := by
  have g : s ∉ m2 := by
    simp only [List.mem_cons, List.not_mem_nil, or_false] at h
    rcases h with rfl | rfl | rfl <;> decide +kernel
  rw [formed_some (f_two h), decide_eq_true (by rfl), decide_eq_false g]
  simp only [List.zip_cons_cons, List.zip_nil_left, List.all_cons, List.all_nil, slot_term, Bool.and_true, Bool.true_and, Bool.not_false, Bool.true_or]
theorem fd_mk (c ts : PyData) : formedD (.tuple [.str (Str.ofString "#"), c, ts]) = (isNameD c && isRowD ts 0 4) := by
  rw [formed_some f_mk, decide_eq_true (by rfl), decide_eq_false (by decide +kernel)]
  simp only [List.zip_cons_cons, List.zip_nil_left, List.all_cons, List.all_nil, slot_name, slot_terms, Bool.and_true, Bool.true_and, Bool.not_false, Bool.true_or]
theorem fd_ch (t cs : PyData) : formedD (.tuple [.str (Str.ofString "?"), t, cs]) = (isRowD cs 1 6 && (itD cs).all caseOk) := by
  rw [formed_some f_ch, decide_eq_true (by rfl), decide_eq_false (by decide +kernel)]
  simp only [List.zip_cons_cons, List.zip_nil_left, List.all_cons, List.all_nil, slot_cases, slot_term, Bool.and_true, Bool.true_and, Bool.not_false, Bool.true_or]
theorem unlike2 (a b : Str) : unlikeN [a, b] = !decide (a = b) := by
  unfold unlikeN
  show decide ((if b ∈ [a] then [a] else [a] ++ [b]).length = 2) = _
  by_cases h : a = b
  · subst h
    rw [if_pos (by simp), decide_eq_true (rfl : a = a)]
    rfl
  · rw [if_neg (by simp; exact fun e => h e.symm), decide_eq_false h]
    rfl
theorem fd_five {s : Str} (h : s ∈ m2) (t x y u : PyData) : formedD (.tuple [.str s, t, x, y, u]) = lunl 2 (.tuple [x, y]) := by
  rw [formed_some (f_five h), decide_eq_true (by rfl), decide_eq_true h]
  simp only [List.zip_cons_cons, List.zip_nil_left, List.all_cons, List.all_nil, slot_name, slot_term, Bool.and_true, Bool.true_and, Bool.not_true, Bool.false_or]
  show _ = (decide ((([x, y] : List PyData).length : Int) ≤ 2) && ((isNameD x && (isNameD y && true)) && unlikeN [nmD x, nmD y]))
  rw [decide_eq_true (show (([x, y] : List PyData).length : Int) ≤ 2 from Int.le_refl _), Bool.true_and, unlike2, Bool.and_true]
  show (isNameD x && isNameD y && !decide (some (nmD x) = some (nmD y))) = _
  congr 2
  exact decide_eq_decide.mpr ⟨fun z => Option.some.inj z, fun z => by rw [z]⟩
abbrev S6 : List Str := [Str.ofString "?", Str.ofString "#", Str.ofString "/", Str.ofString "+", Str.ofString "!", Str.ofString "&", Str.ofString "-", Str.ofString "^", Str.ofString "@"]
theorem form_not {s : Str} (h : s ∉ S6) : formOf s = none := by
  cases e : formOf s with
  | none => rfl
  | some sl =>
    have hf := form_cases e
    simp only [formsL, List.mem_cons, List.not_mem_nil, or_false, Prod.mk.injEq] at hf
    refine absurd ?_ h
    simp only [S6, List.mem_cons, List.not_mem_nil, or_false]
    rcases hf with ⟨rfl, _⟩ | ⟨rfl, _⟩ | ⟨rfl, _⟩ | ⟨rfl, _⟩ | ⟨rfl, _⟩ | ⟨rfl, _⟩ | ⟨rfl, _⟩ | ⟨rfl, _⟩ | ⟨rfl, _⟩ <;> simp
theorem sized_no {n : Nat} {d : PyData} (h : formedD d = false) : sizedD n d = none := by
  cases n with
  | zero => rfl
  | succ n =>
    rw [sizedD, if_neg (by rw [h]; exact Bool.false_ne_true)]
theorem sized_name {n : Nat} {d : PyData} (h : isNameD d = true) : sizedD (n + 1) d = some 1 := by
  obtain ⟨x, rfl⟩ := name_str h
  rw [sizedD, if_pos (show formedD (.str x) = true from h)]
  rfl
/-- what stands within, as the law's list of it, or None -/
def Res (K : PySem.W.Frag) (N : Addr → Prop) (d : PyData) (H' : Hp) (vi : V) : Prop := (formedD d = false ∧ vi = .non) ∨ (formedD d = true ∧ ∃ (L : Addr) (us : List V), vi = .ref L ∧ H' L = some (.lst us) ∧ DaAll K N H' us ((kids d).map (·.2)))
def MidS (K : PySem.W.Frag) (N : Addr → Prop) (H : Hp) (S : List Str) (v : V) (z : Int) (s : Str) (o : Nat) (d : PyData) (σ : L2.St) (H' : Hp) : Prop :=
  ∃ (vi : V) (v5 v6 : Option V), σ = [some v, some (.int z), some (.str s), some (.int o), some vi, v5, v6, none] ∧ Same H H' ∧ (s ∈ S → Res K N d H' vi) ∧ (s ∉ S → vi = .non)
theorem Res.same {K : PySem.W.Frag} {N : Addr → Prop} {d : PyData} {H H' : Hp} {vi : V} (s : Same H H') (h : Res K N d H vi) : Res K N d H' vi := by
  rcases h with h | ⟨h, L, us, rfl, e1, e2⟩
  · exact .inl h
  · exact .inr ⟨h, L, us, rfl, s _ _ e1, e2.same s⟩
theorem MidS.skip {K : PySem.W.Frag} {N : Addr → Prop} {H : Hp} {S S' : List Str} {v : V} {z : Int} {s : Str} {o : Nat} {d : PyData} {H' H'' : Hp} {vi : V} {v5 v6 : Option V} (sH : Same H H') (hin : s ∈ S → Res K N d H' vi) (hout : s ∉ S → vi = .non) (sm : Same H' H'') (g : s ∈ S' → s ∈ S) (g' : s ∈ S → s ∈ S') :
    MidS K N H S' v z s o d [some v, some (.int z), some (.str s), some (.int o), some vi, v5, v6, none] H'' :=
  ⟨vi, v5, v6, rfl, sH.trans sm, fun h => (hin (g h)).same sm, fun h => hout fun z => h (g' z)⟩
theorem MidS.no {K : PySem.W.Frag} {N : Addr → Prop} {H : Hp} {S' : List Str} {v : V} {z : Int} {s : Str} {o : Nat} {d : PyData} {H'' : Hp} {vi : V} {v5 v6 : Option V} (sH : Same H H'') (hv : vi = .non) (hf : formedD d = false) :
    MidS K N H S' v z s o d [some v, some (.int z), some (.str s), some (.int o), some vi, v5, v6, none] H'' :=
  ⟨vi, v5, v6, rfl, sH, fun _ => .inl ⟨hf, hv⟩, fun _ => hv⟩
theorem MidS.yes {K : PySem.W.Frag} {N : Addr → Prop} {H : Hp} {S' : List Str} {v : V} {z : Int} {s : Str} {o : Nat} {d : PyData} {H'' : Hp} {L : Addr} {us : List V} {v5 v6 : Option V} (sH : Same H H'') (hs : s ∈ S') (hf : formedD d = true) (e : H'' L = some (.lst us)) (g : DaAll K N H'' us ((kids d).map (·.2))) :
    MidS K N H S' v z s o d [some v, some (.int z), some (.str s), some (.int o), some (.ref L), v5, v6, none] H'' :=
  ⟨.ref L, v5, v6, rfl, sH, fun _ => .inr ⟨hf, L, us, rfl, e, g⟩, fun h => absurd hs h⟩
theorem iteD {c A B : Prop} [Decidable c] (hc : c) (h : A) : if decide c = true then A else B := by
  rw [decide_eq_true hc]
  exact iteT h
theorem iteDN {c A B : Prop} [Decidable c] (hc : ¬ c) (h : B) : if decide c = true then A else B := by
  rw [decide_eq_false hc]
  exact iteF h
theorem len_ne {x : V} {ys : List V} {r : List PyData} {k j : Nat} (hl : ys.length = r.length) (hr : r.length ≠ k) (e : j = k + 1) : ¬ V.int (((x :: ys).length : Nat) : Int) = V.int (j : Int) := fun z => by
  injection z with z
  rw [List.length_cons] at z
  omega
theorem row_no {d : PyData} {a b : Int} (h : tyD d ≠ "tuple") : isRowD d a b = false := by
  cases d with
  | tuple ds => exact absurd rfl h
  | _ => rfl
theorem row_is (ts : List PyData) (a b : Int) : isRowD (.tuple ts) a b = decide (a ≤ (ts.length : Int) ∧ (ts.length : Int) ≤ b) := by
  simp [isRowD]
theorem row_big {ts : List PyData} {a b : Int} (h : ¬ ((ts.length : Int) ≤ b)) : isRowD (.tuple ts) a b = false := by
  rw [row_is]
  exact decide_eq_false fun z => h z.2
theorem row_ok {ts : List PyData} {a b : Int} (h : a ≤ (ts.length : Int)) (h2 : (ts.length : Int) ≤ b) : isRowD (.tuple ts) a b = true := by
  rw [row_is]
  exact decide_eq_true ⟨h, h2⟩
theorem case_lunl (a b c : PyData) : caseOk (.tuple [a, b, c]) = (isNameD a && lunl 4 b) := by
  rw [case_yes]
  cases b with
  | tuple ns =>
    rw [row_is]
    show _ = (isNameD a && (decide ((ns.length : Int) ≤ 4) && (ns.all isNameD && unlikeN (ns.map nmD))))
    rw [show decide ((0 : Int) ≤ (ns.length : Int) ∧ (ns.length : Int) ≤ 4) = decide ((ns.length : Int) ≤ 4) from decide_eq_decide.mpr ⟨fun z => z.2, fun z => ⟨by omega, z⟩⟩]
    rfl
  | _ => rfl
theorem rows_no {ts : List PyData} (h : ts.all (fun d => isRowD d 3 3) = false) : ts.all caseOk = false := by
  cases e : ts.all caseOk with
  | false => rfl
  | true =>
    rw [List.all_eq_true] at e
    have : ts.all (fun d => isRowD d 3 3) = true := by
      rw [List.all_eq_true]
      intro d hd
      cases hr : isRowD d 3 3 with
      | true => rfl
      | false =>
        have := e d hd
        rw [case_no hr] at this
        exact this
    rw [this] at h
    exact h
theorem row_len (ys : List PyData) : decide (V.int ((ys.length : Nat) : Int) = V.int 3) = isRowD (.tuple ys) 3 3 := by
  rw [row_is]
  exact decide_eq_decide.mpr ⟨fun z => by
    injection z with z
    omega, fun z => by
    have : (ys.length : Int) = 3 := by omega
    rw [this]⟩
theorem kids_all {t : PyData} {ts : List PyData} (h : ts.all caseOk = true) : (kids (.tuple [.str (Str.ofString "?"), t, .tuple ts])).map (·.2) = t :: ts.map fun c => (caseD c).2 := by
  obtain ⟨cs, rfl, _⟩ := cases_of h
  rw [kids_ch, List.map_cons, List.map_map, List.map_map]
  rfl
/-- drawn data: at most so large for each of so many -/
def spWide (K : PySem.W.Frag) (n : Nat) : Sp := fun vs H Q _ => ∃ (p c : Addr) (z : Nat), vs = [.ref p, .int z] ∧ 1 ≤ z ∧ z < 2 ^ n ∧ z ≤ 201 ∧ Pen H p c ∧
  ∀ (v : V) (d : PyData) (H' : Hp), Da K All H' v d → Fit (400 * z) (4 * n) d → Pen H' p c → Kp p H H' → Q v H'
def spDeep (K : PySem.W.Frag) : Sp := fun vs H Q _ => ∃ (p c : Addr) (z : Int), vs = [.ref p, .int z] ∧ 1 ≤ z ∧ z ≤ 31 ∧ Pen H p c ∧
  ∀ (v : V) (d : PyData) (H' : Hp), Da K All H' v d → Fit 20000 95 d → Pen H' p c → Kp p H H' → Q v H'
def spOf8 (K : PySem.W.Frag) (f : PyData → Bool) : Sp := fun vs H Q _ => ∃ (N : Addr → Prop) (v : V) (d : PyData) (n m : Nat), vs = [v] ∧ Da K N H v d ∧ Fit n m d ∧ n ≤ 8000000 ∧ ∀ H', Same H H' → Q (.bl (f d)) H'
def EntAt (K : PySem.W.Frag) (e : DictEntry) (p : Str × List Str) : Prop := (∃ t, e.key = .str p.1 t) ∧ ∃ (a : Addr) (o : Obj) (its : Array Value) (n : Nat), e.val = .ref a ∧ K.lookup a = some o ∧ o.cls = .type "tuple" ∧ o.data = .seq its n ∧ its.size ≤ sizeLine ∧ Vals (p.2.map V.str) its.toList
def EntsAt (K : PySem.W.Frag) : List DictEntry → List (Str × List Str) → Prop
  | [], [] => True
  | e :: es, p :: ps => EntAt' K e p (EntsAt K es ps)
  | _, _ => False
where EntAt' (K : PySem.W.Frag) (e : DictEntry) (p : Str × List Str) (R : Prop) : Prop := (∃ t, e.key = .str p.1 t) ∧ (∃ (a : Addr) (o : Obj) (its : Array Value) (n : Nat), e.val = .ref a ∧ K.lookup a = some o ∧ o.cls = .type "tuple" ∧ o.data = .seq its n ∧ its.size ≤ sizeLine ∧ Vals (p.2.map V.str) its.toList) ∧ R
theorem ents_find {K : PySem.W.Frag} (z : Str) : ∀ {es : List DictEntry} {ps : List (Str × List Str)}, EntsAt K es ps → es.any (·.refKey) = false ∧
    ((ps.find? (fun p => decide (p.1 = z)) = none ∧ es.find? (·.key.isStr z) = none) ∨ ∃ p e, ps.find? (fun p => decide (p.1 = z)) = some p ∧ es.find? (·.key.isStr z) = some e ∧ EntAt K e p)
  | [], [], _ => ⟨rfl, .inl ⟨rfl, rfl⟩⟩
  | e :: es, p :: ps, ⟨⟨t, hk⟩, hv, hr⟩ => by
    obtain ⟨h1, h2⟩ := ents_find z hr
    have rk : e.refKey = false := by simp [DictEntry.refKey, hk]
    have ks : e.key.isStr z = decide (p.1 = z) := by
      rw [hk]
      show (p.1 == z) = decide (p.1 = z)
      by_cases c : p.1 = z
      · rw [decide_eq_true c, c]
        exact beq_self_eq_true z
      · rw [decide_eq_false c]
        exact beq_eq_false_iff_ne.mpr c
    refine ⟨by rw [List.any_cons, rk, h1]; rfl, ?_⟩
    by_cases c : p.1 = z
    · refine .inr ⟨p, e, ?_, ?_, ⟨t, hk⟩, hv⟩
      · rw [List.find?_cons, decide_eq_true c]
      · rw [List.find?_cons, ks, decide_eq_true c]
    · rw [List.find?_cons, decide_eq_false c, List.find?_cons, ks, decide_eq_false c]
      exact h2
theorem forms_mk {K : PySem.W.Frag} {w : World} {d : Addr} {es : Array DictEntry} {n : Nat} (at_ : K.lookup d = some ⟨.type "dict", none, .dict es n, #[]⟩) (lit : PySem.W.KeysLit w.params es.toList) (low : (d == sysModules) = false) (ents : EntsAt K es.toList formsL) : Forms K w d where
  dict := ⟨es, n, at_, lit, low⟩
  no z h := by
    obtain ⟨h1, h2 | ⟨p, e, h2, _⟩⟩ := ents_find z ents
    · unfold PySem.W.nsIn
      rw [at_]
      dsimp only
      rw [h2.2, h1]
      rfl
    · unfold formOf at h
      rw [h2] at h
      cases h
  yes z sl h := by
    obtain ⟨h1, h2 | ⟨p, e, h2, h3, _, a, o, its, m, hv, hl, hc, hd, hs, hV⟩⟩ := ents_find z ents
    · unfold formOf at h
      rw [h2.1] at h
      cases h
    · unfold formOf at h
      rw [h2] at h
      obtain rfl := Option.some.inj h
      refine ⟨a, ?_, fun H => .inr ⟨o, its, m, hl, hc, hd, hs, hV⟩⟩
      unfold PySem.W.nsIn
      rw [at_]
      dsimp only
      rw [h3]
      dsimp only
      rw [hv]
theorem ent_mk {K : PySem.W.Frag} {v : Value} {a : Addr} {its : Array Value} {n : Nat} {dd : Option Addr} {sl : Array (Option Value)} {xs : List Str} (hv : v = .ref a) (hl : K.lookup a = some ⟨.type "tuple", dd, .seq its n, sl⟩) (hs : its.size ≤ sizeLine) (hV : Vals (xs.map V.str) its.toList) :
    ∃ (a : Addr) (o : Obj) (its : Array Value) (n : Nat), v = .ref a ∧ K.lookup a = some o ∧ o.cls = .type "tuple" ∧ o.data = .seq its n ∧ its.size ≤ sizeLine ∧ Vals (xs.map V.str) its.toList := ⟨a, _, its, n, hv, hl, rfl, rfl, hs, hV⟩
end Ow

/-! What a program's rows are, over any data. -/
namespace Ow
open PySem PySem.Spec PyProof.Rows L2
def makerOk : PyData → Bool
  | .tuple [m, fs] => isNameD m && (isRowD fs 0 4 && (itD fs).all isNameD)
  | _ => false
def dataOk : PyData → Bool
  | .tuple [s, ms] => isNameD s && (isRowD ms 1 6 && (itD ms).all makerOk)
  | _ => false
def defOk : PyData → Bool
  | .tuple [n, k, t] => isNameD n && (kindW 6 k && termD t)
  | _ => false
def defName : PyData → Str
  | .tuple [n, _, _] => nmD n
  | _ => sg ""
def defsOk (d : PyData) : Bool := isRowD d 0 16 && ((itD d).all defOk && unlikeN ((itD d).map defName))
theorem row2 {d : PyData} (h : isRowD d 2 2 = true) : ∃ a b, d = .tuple [a, b] := by
  obtain ⟨ds, rfl, h1, h2⟩ := row_tup h
  obtain ⟨a, b, rfl⟩ := len2 (r := ds) (by omega)
  exact ⟨a, b, rfl⟩
theorem maker_no {d : PyData} (h : isRowD d 2 2 = false) : makerOk d = false := by
  unfold makerOk
  split
  · simp [isRowD] at h
  · rfl
theorem data_no {d : PyData} (h : isRowD d 2 2 = false) : dataOk d = false := by
  unfold dataOk
  split
  · simp [isRowD] at h
  · rfl
theorem def_no {d : PyData} (h : isRowD d 3 3 = false) : defOk d = false := by
  unfold defOk
  split
  · simp [isRowD] at h
  · rfl
theorem fit2 {n m : Nat} {a b : PyData} (f : Fit n m (.tuple [a, b])) : Fit n m a ∧ Fit n m b := ⟨f.inner.mem (by simp), f.inner.mem (by simp)⟩
theorem fit3' {n m : Nat} {a b c : PyData} (f : Fit n m (.tuple [a, b, c])) : Fit n m a ∧ Fit n m b ∧ Fit n m c := ⟨f.inner.mem (by simp), f.inner.mem (by simp), f.inner.mem (by simp)⟩
theorem all_id (g : PyData → Bool) (ns : List PyData) : (ns.map g).all id = ns.all g := by
  rw [List.all_map]
  rfl
end Ow

/-! Comprehensions of any number of clauses. -/
namespace Ow
open PySem PySem.Spec PyProof.Rows L2
/-- a clause, as its rules see it; its names, those of the later ones among them -/
structure Cls where
  tg : Expr
  iter : Expr
  ifs : List Expr
  wi : TI
  g : TG
  tt : TT
  vs : List Nat
def Cls.syn (c : Cls) : Comprehension := ⟨c.tg, c.iter, c.ifs, 0⟩
structure Cls.Ok (Y : Cx) (c : Cls) : Prop where
  pi : PI Y c.tg c.iter c.wi
  pg : PG Y c.tg c.g
  pt : PTs Y c.ifs c.tt
  fold : ∀ env x, foldedSetIterable c.iter env x = pure x
def topVs : List Cls → List Nat
  | [] => []
  | c :: _ => c.vs
def NestVs : List Cls → Prop
  | [] => True
  | c :: cs => (∀ i ∈ topVs cs, i ∈ c.vs) ∧ NestVs cs
/-- behind a turn's tests: the clauses that are left, then the element, put behind what the list at D has -/
def tDeep (D : Addr) (te : TE) : List Cls → L2.St → Hp → (Hp → Prop) → Prop
  | [], σ, H, Z => te σ H fun y H1 => ∃ acc, H1 D = some (.lst acc) ∧ acc.length < sizeLine ∧ Z (upd H1 D (.lst (acc ++ [y])))
  | c :: cs, σ, H, Z => c.wi σ H fun J H1 => ∃ W : Nat → Nat → Hp → Prop, (∃ m, W 0 m H1) ∧ ∀ j m H, W j m H →
      (J.stop j H ∧ Z H) ∨ (J.go j H ∧ ∃ Y : Hp → Prop, (∀ H', Y H' → ∃ m', m' < m ∧ W (j + 1) m' H') ∧ ∀ x H', J.yld j H x H' →
        c.g x (wipe σ c.vs) H' fun σ2 H2 => wipe σ2 c.vs = wipe σ c.vs ∧ c.tt σ2 H2 fun b H3 => if b = true then tDeep D te cs σ2 H3 Y else Y H3)
section
variable {prog : Program} {w : World} {A : Around} {R : Result → Shared → Prop} {s : Shared} {elt : Expr} {gens : List Comprehension} {scope : Scope} {pos : Pos} {it acc : Value} {env : Env}
/-- what is asked behind the tests of the clause ahead of d -/
def Bhd (prog : Program) (w : World) (A : Around) (elt : Expr) (gens : List Comprehension) (scope : Scope) (pos : Pos) (acc : Value) (env : Env) (d : Nat) (post : Shared → Prop) (s : Shared) : Prop :=
  match gens[d]? with
  | none => wpAny (model prog w) A (eval elt env) (fun x z => wpAny (model prog w) A (call (.builtin "list.append") [acc, x]) (fun _ z' => post z') (fun _ _ => False) z) (fun _ _ => False) s
  | some c => c.is_async = 0 ∧ (∀ x, foldedSetIterable c.iter env x = pure x) ∧ wpAny (model prog w) A (eval c.iter env) (fun x z => wpAny (model prog w) A (pyIter x) (fun i z' =>
      codeAny (model prog w) A (.compStart (.ListComp elt gens scope pos) d i acc env) (fun r y => match r with | .ok _ => post y | .error _ => False) z') (fun _ _ => False) z) (fun _ _ => False) s
/-- a turn's tests -/
def tests (ifs : List Expr) (env : Env) : Sem Bool := forIn ifs true fun c r => if r = true then do let ok ← isTrue c env (eval c env); pure (ForInStep.yield ok) else pure (ForInStep.yield r)
theorem loop_at {d : Nat} {t i : Expr} {ifs : List Expr} (hg : gens[d]? = some ⟨t, i, ifs, 0⟩) (I : Nat → Shared → Prop)
    (turn : ∀ n z, I n z → wpAny (model prog w) A (pyNext it) (fun r z1 => match r with
      | none => R (.ok .next) z1
      | some v => wpAny (model prog w) A (letOwnedTupleGo t it v) (fun _ z2 => wpAny (model prog w) A (assign t env v) (fun _ z3 => wpAny (model prog w) A (tests ifs env) (fun ok z4 =>
          if ok = true then Bhd prog w A elt gens scope pos acc env (d + 1) (fun z5 => ∃ m, m < n ∧ I m z5) z4 else ∃ m, m < n ∧ I m z4) (fun _ _ => False) z3) (fun _ _ => False) z2) (fun _ _ => False) z1) (fun _ _ => False) z)
    (n : Nat) (h : I n s) : codeAny (model prog w) A (.compLoop (.ListComp elt gens scope pos) d it acc env) R s := by
  refine codeAny_loop rfl I (fun n z hI => ?_) n h
  show wpAny _ A ((compTurn (.ListComp elt gens scope pos) d it acc env).onRaise (fun x => do noteFrame x env; theTreesLotGoes x)) _ _ z
  refine wpAny_noted ?_
  have no : ∀ {α : Type} {t : Sem α} {Q : α → Shared → Prop} {E : Value → Shared → Prop} {z : Shared}, wpAny (model prog w) A t Q (fun _ _ => False) z → wpAny (model prog w) A t Q E z := fun h => wpAny_mono h (fun _ _ q => q) fun _ _ q => q.elim
  unfold compTurn
  simp only [hg]
  refine wpAny_bind (wpAny_standAt (wpAny_bind (wpAny_mono (turn n z hI) (fun r z1 h1 => ?_) fun _ _ q => q.elim)))
  cases r with
  | none => exact wpAny_pure h1
  | some v =>
    refine wpAny_bind (wpAny_mono h1 (fun _ z2 h2 => ?_) fun _ _ q => q.elim)
    refine wpAny_bind (wpAny_mono h2 (fun _ z3 h3 => wpAny_bind (wpAny_mono h3 (fun ok z4 h4 => ?_) fun _ _ q => q.elim)) fun _ _ q => q.elim)
    cases ok with
    | false => exact wpAny_pure ⟨rfl, h4⟩
    | true =>
      have h4 : Bhd prog w A elt gens scope pos acc env (d + 1) (fun z5 => ∃ m, m < n ∧ I m z5) z4 := h4
      unfold Bhd at h4
      simp only [if_true]
      cases hn : gens[d + 1]? with
      | none =>
        rw [hn] at h4
        simp only
        exact wpAny_bind (wpAny_bind (wpAny_mono h4 (fun x z5 h5 => wpAny_bind (wpAny_mono h5 (fun _ z6 h6 => wpAny_pure (wpAny_pure ⟨rfl, h6⟩)) fun _ _ q => q.elim)) fun _ _ q => q.elim))
      | some c =>
        rw [hn] at h4
        obtain ⟨ha, hf, h4⟩ := h4
        simp only [ha]
        refine wpAny_bind (wpAny_mono h4 (fun x z5 h5 => ?_) fun _ _ q => q.elim)
        refine wpAny_bind (wpAny_standAt (wpAny_bind (wpAny_of_eq (hf x) (wpAny_bind (wpAny_holding (wpAny_mono h5 (fun i1 z6 h6 => ?_) fun _ _ q => q.elim))))))
        refine wpAny_bind (wpAny_runOwn ?_)
        rw [Around.mark_none]
        refine codeAny_mono h6 fun r y hr => ?_
        cases r with
        | ok f => exact wpAny_pure ⟨rfl, hr⟩
        | error e => exact hr.elim
/-- a clause's start -/
theorem start_at {d : Nat} {c : Comprehension} (hg : gens[d]? = some c) (ha : c.is_async = 0) (h0 : codeAny (model prog w) A (.compLoop (.ListComp elt gens scope pos) d it acc env) R s)
    (h : wpAny (model prog w) A (pyIter it) (fun i z => codeAny (model prog w) A (.compLoop (.ListComp elt gens scope pos) d i acc env) R z) (fun _ _ => False) s) :
    codeAny (model prog w) A (.compStart (.ListComp elt gens scope pos) d it acc env) R s := by
  refine codeAny_of_tree ?_
  show wpAny _ _ ((compStart (.ListComp elt gens scope pos) d it acc env).onRaise (fun x => do noteFrame x env; standAt theWindowsPlace)) _ _ s
  refine wpAny_notedAt ?_
  unfold compStart
  have hcl : (clausesOf (.ListComp elt gens scope pos))[d]? = some c := hg
  simp only [hcl, Option.elim, ha]
  rw [if_neg (by decide)]
  show wpAny _ _ (ask >>= _) _ _ s
  refine wpAny_bind (wpAny_askSetting (wpAny_ite ?_))
  have go : ∀ z (b : Value) (A' : Around) (E' : Value → Shared → Prop), codeAny (model prog w) A (.compLoop (.ListComp elt gens scope pos) d b acc env) R z → wpAny (model prog w) A' (again (.compLoop (.ListComp elt gens scope pos) d b acc env)) (fun fin s' => match fin with
      | Fin.done f => R (Except.ok f) s'
      | Fin.again c' => c'.quiet = true ∧ codeAny (model prog w) A c' R s') E' z := fun z b A' E' h => wpAny_pure ⟨rfl, h⟩
  split
  · exact go _ _ _ _ h0
  · exact wpAny_bind (wpAny_rule (wpAny_bind (wpAny_standAt (wpAny_bind (wpAny_mono h (fun i z h' => go _ _ _ _ h') fun _ _ q => q.elim)))))
end
section
variable {Y : Cx}
theorem wipe_nil (σ : L2.St) : wipe σ [] = σ := rfl
theorem wipe_sub {σ : L2.St} {vs us : List Nat} (h : ∀ i ∈ us, i ∈ vs) {j : Nat} {v : V} (e : (wipe σ vs)[j]? = some (some v)) : (wipe σ us)[j]? = some (some v) := by
  obtain ⟨e1, e2⟩ := wipe_some e
  rw [wipe_out fun z => e2 (h j z)]
  exact e1
/-- what is known behind it is as ahead, but for the clause's names -/
def Knows (σ τ : L2.St) (vs : List Nat) : Prop := τ.length = σ.length ∧ ∀ (j : Nat) v, (wipe σ vs)[j]? = some (some v) → τ[j]? = some (some v)
theorem drop_one {α : Type} {l cs : List α} {c : α} {d : Nat} (h : l.drop d = c :: cs) : l[d]? = some c ∧ l.drop (d + 1) = cs := by
  refine ⟨?_, ?_⟩
  · have e : (l.drop d)[0]? = some c := by rw [h]; rfl
    rw [List.getElem?_drop] at e
    exact e
  · rw [← List.drop_drop, h]
    rfl
theorem deep_ok (hc : Y.calm = true) {elt : Expr} {te : TE} (pe : PE Y elt te) {gens : List Comprehension} {scope : Scope} {pos : Pos} {D : Addr} : ∀ (cs : List Cls) (d : Nat), (∀ c ∈ cs, c.Ok Y) → NestVs cs → gens.drop d = cs.map Cls.syn →
    ∀ (pins : List (Addr × Obj)) (σ : L2.St) (H : Hp) (s : Shared) (Z : Hp → Prop) (post : Shared → Prop), Inv Y pins σ H s → tDeep D te cs σ H Z →
      (∀ τ H' s', Inv Y pins τ H' s' → Knows σ τ (topVs cs) → Z H' → post s') → Y.xe = (fun _ _ => False) → Bhd Y.prog Y.w Y.A elt gens scope pos (.ref D) Y.env d post s
  | [], d, _, _, hd, pins, σ, H, s, Z, post, I, h, fin, hx => by
    have e : gens[d]? = none := List.getElem?_eq_none (by simpa using hd)
    unfold Bhd
    rw [e]
    have r := pe.run pins s σ H _ I h
    rw [hx] at r
    refine thn r fun x z q => ?_
    obtain ⟨y, H1, I1, ry, acc, e1, hl, q⟩ := q
    exact app_ok I1 e1 hl ry fun z' I2 => fin σ _ z' I2 ⟨rfl, fun j v e => e⟩ q
  | c :: cs, d, ok, hn, hd, pins, σ, H, s, Z, post, I, h, fin, hx => by
    obtain ⟨e, hd1⟩ := drop_one (c := c.syn) (cs := cs.map Cls.syn) hd
    have oc := ok c (List.mem_cons_self ..)
    unfold Bhd
    rw [e]
    refine ⟨rfl, oc.fold _, ?_⟩
    have r := oc.pi.run pins s σ H _ I h
    rw [hx] at r
    refine thn r fun xv s1 q => thn q fun itv s2 q => ?_
    obtain ⟨it, fp, tn, J, H1, rfl, I1, T, st, fok, W, ⟨m0, w0⟩, turn⟩ := q
    have fo : ∀ {H' : Hp}, (∀ b ∈ fp, H' b = none) → ∀ b ∈ fp, FpOk Y pins H' b := fun hn b hb => ⟨hn b hb, (fok b hb).2⟩
    have lp : codeAny (model Y.prog Y.w) Y.A (.compLoop (.ListComp elt gens scope pos) d (.ref it) (.ref D) Y.env) (fun r y => match r with | .ok _ => post y | .error _ => False) s2 := by
      refine loop_at e (fun k z => ∃ j H', Inv Y pins (wipe σ c.vs) H' z ∧ tn j z.heap ∧ (∀ b ∈ fp, H' b = none) ∧ W j k H') ?_ m0 ⟨0, H1, I1.weak (wipe_length _ _) (fun j v q => (wipe_some q).1), st, fun b hb => (fok b hb).1, w0⟩
      rintro k z ⟨j, Hj, Ij, stj, nj, wj⟩
      rcases turn j k Hj wj with ⟨stop, hz⟩ | ⟨go, Nx, hNx, step⟩
      · refine thnF (T.done Y rfl rfl rfl hc j pins z _ Hj (fun _ _ => False) Ij (fo nj) stj stop) fun r z1 q => ?_
        obtain ⟨rfl, I3⟩ := q
        exact fin _ _ _ I3 ⟨wipe_length _ _, fun j v q => q⟩ hz
      · refine thnF (T.item Y rfl rfl rfl hc j pins z _ Hj (fun _ _ => False) Ij (fo nj) stj go) fun r z1 q => ?_
        obtain ⟨u, rfl, q⟩ := q
        refine thnF q fun _ z2 q => ?_
        obtain ⟨x, H2, I2, r2, y2, st2, n2⟩ := q
        have I2' := I2.pinned (fo n2) (T.obj _ _ st2)
        have rg := oc.pg.run _ z2 _ H2 x u _ I2' r2 (step x H2 y2)
        rw [hx] at rg
        refine thnF rg fun _ z3 q => ?_
        obtain ⟨σ3, H3, I3, hw, q3⟩ := q
        have rt := oc.pt.run _ z3 σ3 H3 _ I3 q3
        rw [hx] at rt
        refine thnF rt fun b z4 q => ?_
        obtain ⟨H4, I4, q4⟩ := q
        have back : ∀ τ H' z', Inv Y (pins ++ pinsAt fp z2.heap) τ H' z' → Knows σ3 τ (topVs cs) → Nx H' → ∃ m, m < k ∧ ∃ j H', Inv Y pins (wipe σ c.vs) H' z' ∧ tn j z'.heap ∧ (∀ b ∈ fp, H' b = none) ∧ W j m H' := fun τ H' z' I' kn nx => by
          obtain ⟨m', hm, w'⟩ := hNx H' nx
          have pn : ∀ b ∈ fp, ∀ o, z2.heap.get? b = some o → z'.heap.get? b = some o ∧ H' b = none := fun b hb o e =>
            let t := I'.pin (b, o) (List.mem_append_right _ (List.mem_append_right _ (mem_pinsAt hb e)))
            ⟨t.1, t.2.1⟩
          refine ⟨m', hm, j + 1, H', I'.unpinned.weak ?_ (fun i v q => ?_), T.keep _ _ _ st2 fun b hb o e => (pn b hb o e).1, fun b hb => ?_, w'⟩
          · rw [kn.1, ← hw, wipe_length]
          · rw [← hw] at q
            exact kn.2 i v (wipe_sub hn.1 q)
          · obtain ⟨o, e, _⟩ := T.obj _ _ st2 b hb
            exact (pn b hb o e).2
        cases b with
        | false =>
          simp only [Bool.false_eq_true, if_false] at q4 ⊢
          exact back σ3 H4 z4 I4 ⟨rfl, fun i v q => (wipe_some q).1⟩ q4
        | true =>
          simp only [if_true] at q4 ⊢
          exact deep_ok hc pe cs (d + 1) (fun c' h' => ok c' (List.mem_cons_of_mem _ h')) hn.2 hd1 _ σ3 H4 z4 Nx _ I4 q4 back hx
    exact start_at e rfl lp (T.self Y.A 0 _ _ _ st lp)
end
/-- a list comprehension of any number of clauses; the first one's names are all of the block's -/
def tLcN (c : Cls) (cs : List Cls) (te : TE) : TE := fun σ H Q => c.wi σ H fun J H1 => ∀ D, H1 D = none → ∃ W : Nat → Nat → Hp → Prop, (∃ m, W 0 m (upd H1 D (.lst []))) ∧ ∀ j m H, W j m H →
  (J.stop j H ∧ Q (.ref D) H) ∨ (J.go j H ∧ ∃ Y : Hp → Prop, (∀ H', Y H' → ∃ m', m' < m ∧ W (j + 1) m' H') ∧ ∀ x H', J.yld j H x H' →
    c.g x (wipe σ c.vs) H' fun σ2 H2 => wipe σ2 c.vs = wipe σ c.vs ∧ c.tt σ2 H2 fun b H3 => if b = true then tDeep D te cs σ2 H3 Y else Y H3)
section
variable {X : Cx}
/-- the context of a comprehension's block -/
abbrev inBlk (X : Cx) (scope : Scope) (s : Shared) (H : Hp) (C : Addr) (cl : List (Str × Addr)) (fp : List Addr) : Cx := X.blk s H scope (compEnvC scope cl C X.env) fp
abbrev theCells (X : Cx) (scope : Scope) (n : Nat) : List (Str × Addr) := cellsFrom (n + 1) scope.names (cloFrom X.env.cells scope.names [])
theorem core_n {pins : List (Addr × Obj)} {s : Shared} {σ : L2.St} {H : Hp} {Q : VK} {elt : Expr} {c : Cls} {cs : List Cls} {scope : Scope} {own : List (Str × Nat)} {pos pos' : Pos} {te : TE} {use : Option (Value → Sem Unit)} {Qf : Value → Shared → Prop}
    (calm : X.calm = true) (nd : X.N.Nodup) (I : Inv X pins σ H s) (first : PI X c.tg c.iter c.wi) (blk : BlkOk X.N X.env.scope scope own) (hv : c.vs = own.map (·.2)) (nest : NestVs (c :: cs))
    (hg : ∀ s H C cl fp, PG (inBlk X scope s H C cl fp) c.tg c.g) (ht : ∀ s H C cl fp, PTs (inBlk X scope s H C cl fp) c.ifs c.tt) (rest : ∀ s H C cl fp, ∀ k ∈ cs, k.Ok (inBlk X scope s H C cl fp))
    (he : ∀ s H C cl fp, PE (inBlk X scope s H C cl fp) elt te) (fold : ∀ x, foldedSetIterable c.iter X.env x = pure x) (h : tLcN c cs te σ H Q)
    (done : ∀ D C z m H', Inv X pins σ H' z → Q (.ref D) H' → z.heap.Ns C m → FpOk X pins H' C → compPost (model X.prog X.w) X.A X.xe use Qf (.ref D) C (.ok .next) z) :
    wpAny (model X.prog X.w) X.A (comprehension (.ListComp elt (c.syn :: cs.map Cls.syn) scope pos) scope X.env pos' (newList []) false (eval c.iter X.env) use) Qf X.xe s := by
  have free : ∀ y ∈ scope.names, y.2 = .free → ∃ a, X.env.cells.lookup y.1 = some a := fun y hy e => (blk.free y hy e).elim (fun k => I.ok.has _ (.inl k)) fun k => I.ok.has _ (.inr k)
  have r0 := first.run pins s σ H _ I h
  refine wpAny_comprehension_free (g := c.syn) (gs := cs.map Cls.syn) (use := use) rfl fold (closure_ok free) blk.kind (fun y hy e => by rw [blk.uniq y hy, e]) (thn r0 fun xv s1 q => thn q fun itv s2 q => ?_)
  obtain ⟨it, fp, tn, J, H2, rfl, I2, T, st2, fok, q⟩ := q
  refine wpAny_newObj_type (newEnv_comp ?_) (by show 0 ≤ sizeLine; decide)
  generalize eD : s2.heap.objs.size = D
  obtain ⟨W, ⟨m0, w0⟩, turn⟩ := q D (I2.hok.fresh (Nat.le_of_eq eD))
  generalize eL : ({ cls := .type "list", data := .seq ([] : List Value).toArray } : Obj) = oL
  generalize e3 : ({ s2 with heap := s2.heap.push oL } : Shared) = s3
  have hp3 : s3.heap = s2.heap.push oL := by rw [← e3]
  have I3 : Inv X pins σ (upd H2 D (.lst [])) s3 := by
    rw [← e3]
    refine I2.laid (t' := s2.toks) (fun b o e => Heap.get?_push_of_some _ e) (Nat.le_of_eq eD) ⟨Nat.zero_le _, [], 0, .nil, ?_⟩
    rw [← eD, ← eL]
    exact Heap.get?_push_size _ rfl
  have lay : ∀ b o, s2.heap.get? b = some o → s3.heap.get? b = some o := fun b o e => by
    rw [hp3]
    exact Heap.get?_push_of_some _ e
  have below : ∀ b ∈ fp, b < s2.heap.objs.size := fun b hb => let ⟨o, e, _⟩ := T.obj _ _ st2 b hb; Heap.lt_size e
  have fok3 : ∀ b ∈ fp, FpOk X pins (upd H2 D (.lst [])) b ∧ b < s3.heap.objs.size := fun b hb => by
    have lt := below b hb
    refine ⟨⟨?_, (fok b hb).2⟩, ?_⟩
    · rw [upd_ne (show b ≠ D by rw [← eD]; exact Nat.ne_of_lt lt)]
      exact (fok b hb).1
    · rw [hp3, Heap.size_push]
      exact Nat.lt_succ_of_lt lt
  have st3 : tn 0 s3.heap := T.keep _ _ _ st2 fun b _ o e => lay b o e
  have I4 := block_start I3 blk nd fok3
  rw [← hv] at I4
  have pg := hg s3 (upd H2 D (.lst [])) s3.heap.objs.size (theCells X scope s3.heap.objs.size) fp
  have pt := ht s3 (upd H2 D (.lst [])) s3.heap.objs.size (theCells X scope s3.heap.objs.size) fp
  have pr := rest s3 (upd H2 D (.lst [])) s3.heap.objs.size (theCells X scope s3.heap.objs.size) fp
  have pe := he s3 (upd H2 D (.lst [])) s3.heap.objs.size (theCells X scope s3.heap.objs.size) fp
  dsimp only [inBlk] at pg pt pr pe
  have nfp : ∀ b ∈ fp, (upd H2 D (.lst [])) b = none := fun b hb => (fok3 b hb).1.1
  show codeAny _ _ (.compStart (.ListComp elt (c.syn :: cs.map Cls.syn) scope pos) 0 (.ref it) (.ref D) (compEnvC scope (theCells X scope s3.heap.objs.size) s3.heap.objs.size X.env)) (compPost (model X.prog X.w) X.A X.xe use Qf (.ref D) s3.heap.objs.size)
    { s3 with heap := pushCells (s3.heap.push { cls := .type "dict", data := .dict #[] }) scope.names }
  have cL : (compEnvC scope (theCells X scope s3.heap.objs.size) s3.heap.objs.size X.env).locals = s3.heap.objs.size := rfl
  generalize compEnvC scope (theCells X scope s3.heap.objs.size) s3.heap.objs.size X.env = ce at I4 pg pt pe pr cL ⊢
  generalize upd H2 D (.lst []) = H3 at I3 I4 pg pt pe pr w0 nfp fok3
  have lay4 : ∀ b o, s3.heap.get? b = some o → (pushCells (s3.heap.push { cls := .type "dict", data := .dict #[] }) scope.names).get? b = some o := fun b o e => pushCells_keeps _ _ _ _ (Heap.get?_push_of_some _ e)
  have st4 : tn 0 (pushCells (s3.heap.push { cls := .type "dict", data := .dict #[] }) scope.names) := T.keep _ _ _ st3 fun b _ o e => lay4 b o e
  generalize e4 : ({ s3 with heap := pushCells (s3.heap.push { cls := .type "dict", data := .dict #[] }) scope.names } : Shared) = s4 at I4 ⊢
  have st4 : tn 0 s4.heap := by
    rw [← e4]
    exact st4
  generalize eY : X.blk s3 H3 scope ce fp = Y at I4 pg pt pe pr
  have yx : Y.xe = (fun _ _ => False) := by rw [← eY]
  have yP : X.prog = Y.prog := by rw [← eY]
  have yw : X.w = Y.w := by rw [← eY]
  have yA : X.A = Y.A := by rw [← eY]
  have yK : X.K = Y.K := by rw [← eY]
  have ye : ce = Y.env := by rw [← eY]
  have yc : Y.calm = true := by
    rw [← eY]
    exact calm
  have fo : ∀ {τ : L2.St} {H' : Hp} {z : Shared}, Inv Y [] τ H' z → (∀ b ∈ fp, H' b = none) → ∀ b ∈ fp, FpOk Y [] H' b := fun {τ H' z} I' hn b hb => by
    subst eY
    exact ⟨hn b hb, (I'.ok.exf b hb).1, I'.ok.exfs b hb, .inl hb, fun x a e => (I'.ok.exf b hb).2 x a e, fun p hp => absurd (show p ∈ ([] : List (Addr × Obj)) ++ [] from hp) (by simp)⟩
  have lp : codeAny (model X.prog X.w) X.A (.compLoop (.ListComp elt (c.syn :: cs.map Cls.syn) scope pos) 0 (.ref it) (.ref D) ce) (compPost (model X.prog X.w) X.A X.xe use Qf (.ref D) s3.heap.objs.size) s4 := by
    refine loop_at (d := 0) (gens := c.syn :: cs.map Cls.syn) rfl (fun k z => ∃ j H', Inv Y [] (wipe σ c.vs) H' z ∧ tn j z.heap ∧ (∀ b ∈ fp, H' b = none) ∧ W j k H') ?_ m0 ⟨0, H3, I4, st4, nfp, w0⟩
    rintro k z ⟨j, Hj, Ij, stj, nj, wj⟩
    rcases turn j k Hj wj with ⟨stop, hz⟩ | ⟨go, Nx, hNx, step⟩
    · have td := T.done Y yP.symm yw.symm yK.symm yc j [] z _ Hj (fun _ _ => False) Ij (fo Ij nj) stj stop
      rw [← yA] at td
      refine thnF td fun r z1 q => ?_
      obtain ⟨rfl, J1⟩ := q
      have out : Inv X pins σ Hj z1 := by
        subst eY
        exact I3.call' (ch := fp) J1.os J1.base J1.hok J1.bare fun b hb => let f := (fok3 b hb).1; ⟨f.2.2.2.1, f.2.1, f.2.2.2.2.1, f.2.2.2.2.2⟩
      have nC : Hj s3.heap.objs.size = none := by
        have e : Hj Y.env.locals = none := J1.free
        rw [← ye, cL] at e
        exact e
      obtain ⟨m, hm, _⟩ := J1.loc
      rw [← ye, cL] at hm
      exact done D s3.heap.objs.size z1 m Hj out hz hm (I3.fpOk (Nat.le_refl _) nC)
    · have ti := T.item Y yP.symm yw.symm yK.symm yc j [] z _ Hj (fun _ _ => False) Ij (fo Ij nj) stj go
      rw [← yA] at ti
      refine thnF ti fun r z1 q => ?_
      obtain ⟨u, rfl, q⟩ := q
      refine thnF q fun _ z2 q => ?_
      obtain ⟨x, H5, I5, r5, y5, st5, n5⟩ := q
      have rg := pg.run _ z2 _ H5 x u _ (I5.pinned (fo I5 n5) (T.obj _ _ st5)) r5 (step x H5 y5)
      rw [yx, ← yA, ← yP, ← yw, ← ye] at rg
      refine thnF rg fun _ z3 q => ?_
      obtain ⟨σ3, H6, I6, hw, q3⟩ := q
      have rt := pt.run _ z3 σ3 H6 _ I6 q3
      rw [yx, ← yA, ← yP, ← yw, ← ye] at rt
      refine thnF rt fun b z4 q => ?_
      obtain ⟨H7, I7, q4⟩ := q
      have back : ∀ τ H' z', Inv Y ([] ++ pinsAt fp z2.heap) τ H' z' → Knows σ3 τ (topVs cs) → Nx H' → ∃ m, m < k ∧ ∃ j H', Inv Y [] (wipe σ c.vs) H' z' ∧ tn j z'.heap ∧ (∀ b ∈ fp, H' b = none) ∧ W j m H' := fun τ H' z' I' kn nx => by
        obtain ⟨m', hm, w'⟩ := hNx H' nx
        have pn : ∀ b ∈ fp, ∀ o, z2.heap.get? b = some o → z'.heap.get? b = some o ∧ H' b = none := fun b hb o e =>
          let t := I'.pin (b, o) (List.mem_append_right _ (List.mem_append_right _ (mem_pinsAt hb e)))
          ⟨t.1, t.2.1⟩
        refine ⟨m', hm, j + 1, H', (I'.unpinned (pins := [])).weak ?_ (fun i v q => ?_), T.keep _ _ _ st5 fun b hb o e => (pn b hb o e).1, fun b hb => ?_, w'⟩
        · rw [kn.1, ← hw, wipe_length]
        · rw [← hw] at q
          exact kn.2 i v (wipe_sub nest.1 q)
        · obtain ⟨o, e, _⟩ := T.obj _ _ st5 b hb
          exact (pn b hb o e).2
      cases b with
      | false =>
        simp only [Bool.false_eq_true, if_false] at q4 ⊢
        exact back σ3 H7 z4 I7 ⟨rfl, fun i v q => (wipe_some q).1⟩ q4
      | true =>
        simp only [if_true] at q4 ⊢
        have r := deep_ok yc pe (gens := c.syn :: cs.map Cls.syn) (scope := scope) (pos := pos) cs 1 pr nest.2 rfl _ σ3 H7 z4 Nx _ I7 q4 back yx
        rw [← yA, ← yP, ← yw, ← ye] at r
        exact r
  exact start_at (d := 0) (gens := c.syn :: cs.map Cls.syn) rfl rfl lp (T.self X.A 0 _ _ _ st4 lp)
/-- as a value -/
theorem pe_lcN {elt : Expr} {c : Cls} {cs : List Cls} {scope : Scope} {own : List (Str × Nat)} {pos : Pos} {te : TE} (calm : X.calm = true) (nd : X.N.Nodup) (first : PI X c.tg c.iter c.wi) (blk : BlkOk X.N X.env.scope scope own) (hv : c.vs = own.map (·.2)) (nest : NestVs (c :: cs))
    (hg : ∀ s H C cl fp, PG (inBlk X scope s H C cl fp) c.tg c.g) (ht : ∀ s H C cl fp, PTs (inBlk X scope s H C cl fp) c.ifs c.tt) (rest : ∀ s H C cl fp, ∀ k ∈ cs, k.Ok (inBlk X scope s H C cl fp))
    (he : ∀ s H C cl fp, PE (inBlk X scope s H C cl fp) elt te) (fold : ∀ x, foldedSetIterable c.iter X.env x = pure x := by intro _; rfl) : PE X (.ListComp elt (c.syn :: cs.map Cls.syn) scope pos) (tLcN c cs te) := by
  refine ⟨fun pins s σ H Q I h => ?_⟩
  rw [eval_ListComp]
  refine core_n calm nd I first blk hv nest hg ht rest he fold h fun D C z m H' I' q hn f => ⟨m, hn, fun h2 sb => ?_⟩
  obtain ⟨f0, f1, f2, f3, f4, f5⟩ := f
  exact ⟨.ref D, H', I'.turned (t' := z.toks) (fun b o hb e => (sb.2 b hb).trans e) f0 f1 f3 f4 f5, rfl, q⟩
/-- x = [..] on one line, x a local name -/
theorem ps_setLcN {i : Nat} {y : Str} {py : Pos} {elt : Expr} {c : Cls} {cs : List Cls} {scope : Scope} {own : List (Str × Nat)} {pos spos : Pos} {te : TE} (calm : X.calm = true) (nd : X.N.Nodup) (hy : X.N[i]? = some y) (loc : X.env.scope.names.lookup y = some .local)
    (sw : swapsWith (.ListComp elt (c.syn :: cs.map Cls.syn) scope pos) (some (.Name y py)) spos.line X.env = pure true) (first : PI X c.tg c.iter c.wi) (blk : BlkOk X.N X.env.scope scope own) (hv : c.vs = own.map (·.2)) (nest : NestVs (c :: cs))
    (hg : ∀ s H C cl fp, PG (inBlk X scope s H C cl fp) c.tg c.g) (ht : ∀ s H C cl fp, PTs (inBlk X scope s H C cl fp) c.ifs c.tt) (rest : ∀ s H C cl fp, ∀ k ∈ cs, k.Ok (inBlk X scope s H C cl fp))
    (he : ∀ s H C cl fp, PE (inBlk X scope s H C cl fp) elt te) (fold : ∀ x, foldedSetIterable c.iter X.env x = pure x := by intro _; rfl) : PS X (.Assign [.Name y py] (.ListComp elt (c.syn :: cs.map Cls.syn) scope pos) spos) (tAsg (tLcN c cs te) (gName i)) := by
  refine ⟨fun pins s σ H D I h => ?_⟩
  rw [exec_Assign_Name_used _ _ _ _ sw]
  refine wpAny_bind (wpAny_standAt (wpAny_bind ?_))
  show wpAny _ X.A (do let _ ← comprehension (.ListComp elt (c.syn :: cs.map Cls.syn) scope pos) scope X.env _ (newList []) false (eval c.iter X.env) (some (assign (.Name y py) X.env))) _ _ s
  have h : tLcN c cs te σ H (fun x H1 => gName i x σ H1 D.nx) := h
  refine wpAny_bind (thn (core_n (Qf := fun _ z => SP X pins D .next z) calm nd I first blk hv nest hg ht rest he fold h fun L C z m H' I' q hn f => ?_) fun _ z hq => wpAny_pure (wpAny_pure hq))
  show wpAny _ _ (assign (.Name y py) X.env (.ref L)) _ _ _
  refine wpAny_assign_Name (store_ok2 (v := V.ref L) I' nd hy (.inl loc) rfl (fun z2 I2 q2 => ?_) (.inr loc))
  obtain ⟨a, sb, ha⟩ := q2
  obtain ⟨f0, f1, f2, f3, f4, f5⟩ := f
  have ne : C ≠ a := ha.elim (fun e => by rw [e]; exact f1) fun e => fun e' => f4 y a e e'.symm
  refine ⟨m, hn.sameBut sb ne, fun h3 sb3 => ?_⟩
  exact ⟨_, H', I2.turned (t' := z2.toks) (fun b o hb e => (sb3.2 b hb).trans e) f0 f1 f3 f4 f5, q⟩
end
end Ow

/-! sum(rows, []) of a list of lists; no tuple times a number. -/
namespace Ow
open PySem PySem.Spec PyProof.Rows L2
/-- the rows from i on, one behind the other -/
def onward (rows : Nat → List Value) (i k : Nat) : List Value := (List.range' i k).flatMap rows
theorem onward_succ (rows : Nat → List Value) (i k : Nat) : onward rows i (k + 1) = rows i ++ onward rows (i + 1) k := by
  unfold onward
  rw [List.range'_succ, List.flatMap_cons]
abbrev LstAt (h : Heap) (a : Addr) (vs : List Value) : Prop := ∃ c, h.get? a = some ({ cls := .type "list", dict := none, data := .seq vs.toArray c, slots := #[] } : Obj)
section
variable {prog : Program} {w : World} {A : Around} {R : Result → Shared → Prop}
theorem lists_loop (hh : A.handled = none) {I S l z : Addr} {items : Array Value} {base : Heap} (hlI : l ≠ I) (hSI : S ≠ I) (hSl : S ≠ l) (hIb : base.objs.size ≤ I) (hSb : base.objs.size ≤ S) (rows : Nat → List Value) (adr : Nat → Addr)
    (hit : ∀ (i : Nat) (v : Value), items[i]? = some v → v = .ref (adr i)) (hb : ∀ i, i < items.size → LstAt base (adr i) (rows i)) :
    ∀ (k i : Nat) (s : Shared) (T : Addr) (tot : List Value) (c : Nat), items.size - i = k → i ≤ items.size → s.heap.IsListIter I l i → s.heap.IsList l items →
      s.heap.get? S = some { cls := .type "list", dict := none, data := .seq #[.ref T] c, slots := #[] } → LstAt s.heap T tot → ((T = z ∧ i = 0 ∧ z < base.objs.size) ∨ base.objs.size ≤ T) → T ≠ I → T ≠ S →
      (∀ b o, base.get? b = some o → s.heap.get? b = some o) → tot.length + (onward rows i k).length ≤ sizeLine →
      (∀ (h' : Heap) (tk : Nat) (T' : Addr), (∀ b o, base.get? b = some o → h'.get? b = some o) → LstAt h' T' (tot ++ onward rows i k) → ((T' = z ∧ items.size = 0) ∨ base.objs.size ≤ T') → R (.ok (.ret (.ref T'))) { s with heap := h', toks := tk }) →
      codeAny (model prog w) A (.builtin "sum.loop" ⟨[.ref I, .ref S, rawInt 2, rawInt 0], []⟩) R s := by
  have ltI : ∀ {b : Addr} {o : Obj}, base.get? b = some o → b ≠ I ∧ b ≠ S := fun e => ⟨fun q => Nat.lt_irrefl _ (Nat.lt_of_lt_of_le (Heap.lt_size e) (q ▸ hIb)), fun q => Nat.lt_irrefl _ (Nat.lt_of_lt_of_le (Heap.lt_size e) (q ▸ hSb))⟩
  intro k
  induction k with
  | zero =>
    intro i s T tot c hk hi hI hl hS hT hw nI nS hbase hsz fin
    obtain rfl : i = items.size := by omega
    refine codeAny_builtin F.entry_sum_loop ?_
    rw [Around.under_plainId F.plain_sum_loop _]
    refine wpAny_bind (wpAny_seqItems hS rfl ?_)
    refine wpAny_bind (wpAny_tryCatch ((Walks.list (A := A.in1) hh I l hlI items).done s _ _ ⟨hI, hl⟩ fun h' tk keep => ?_))
    obtain ⟨cT, eT⟩ := hT
    refine wpAny_pure (fin h' tk T (fun b o e => keep b o (by simp only [List.mem_cons, List.not_mem_nil, or_false]; exact (ltI e).1) (hbase b o e)) ⟨cT, ?_⟩ ?_)
    · have e : onward rows items.size 0 = [] := rfl
      rw [e, List.append_nil]
      exact keep _ _ (by simpa using nI) eT
    · rcases hw with ⟨a, b, _⟩ | a
      · exact .inl ⟨a, b⟩
      · exact .inr a
  | succ k ih =>
    intro i s T tot c hk hi hI hl hS hT hw nI nS hbase hsz fin
    have lt : i < items.size := by omega
    refine codeAny_builtin F.entry_sum_loop ?_
    rw [Around.under_plainId F.plain_sum_loop _]
    refine wpAny_bind (wpAny_seqItems hS rfl ?_)
    refine wpAny_bind (wpAny_tryCatch ((Walks.list (A := A.in1) hh I l hlI items).item i s _ _ lt ⟨hI, hl⟩ fun v h' tk hv st keep => ?_))
    obtain rfl := hit i v hv
    have kp : ∀ {b : Addr} {o : Obj}, b ≠ I → s.heap.get? b = some o → h'.get? b = some o := fun n e => keep _ _ (by simpa using n) e
    obtain ⟨cT, eT⟩ := hT
    obtain ⟨cR, eR⟩ := hb i lt
    have eR' := kp (ltI eR).1 (hbase _ _ eR)
    have eT' := kp nI eT
    have hS' := kp hSI hS
    show wpAny _ A.in1 ((holding [Value.ref (adr i)] (binaryOp .Add (.ref T) (.ref (adr i)))).attempt >>= _) _ _ _
    rw [onward_succ, List.length_append] at hsz
    refine wpAny_bind (wpAny_attempt (wpAny_holding (PySem.P.add_list eT' eR' ?_ (by rw [List.size_toArray, List.size_toArray]; omega))))
    generalize en : h'.objs.size = n
    have atN : (h'.push { cls := .type "list", data := .seq (tot.toArray ++ (rows i).toArray) }).get? n = some { cls := .type "list", data := .seq (tot ++ rows i).toArray } := by
      rw [← en]
      have e := Heap.get?_push_size h' (o := ({ cls := .type "list", data := .seq (tot.toArray ++ (rows i).toArray) } : Obj)) rfl
      rw [e, List.append_toArray]
    have nS' : n ≠ S := Nat.ne_of_gt (en ▸ Heap.lt_size hS')
    obtain ⟨oI, eI, _⟩ := st.1
    have nI' : n ≠ I := Nat.ne_of_gt (en ▸ Heap.lt_size eI)
    have push : ∀ {b : Addr} {o : Obj}, h'.get? b = some o → (h'.push { cls := .type "list", data := .seq (tot.toArray ++ (rows i).toArray) }).get? b = some o := fun e => Heap.get?_push_of_some _ e
    have hS2 := push hS'
    refine wpAny_bind (wpAny_updateSeq hS2 rfl ?_)
    have hS3 := Heap.get?_update_self (Obj.mapSeq fun _ => #[Value.ref n]) hS2 rfl
    refine wpAny_bind (wpAny_letGo ?_)
    refine wpAny_bind (wpAny_updateSeq hS3 rfl (wpAny_pure ⟨plainId_quiet F.plain_sum_loop _, ?_⟩))
    have up : ∀ {b : Addr} {o : Obj}, b ≠ S → h'.get? b = some o → (((h'.push { cls := .type "list", data := .seq (tot.toArray ++ (rows i).toArray) }).update S (Obj.mapSeq fun _ => #[Value.ref n])).update S (Obj.mapSeq fun _ => #[Value.ref n])).get? b = some o := fun {b o} nb e =>
      (Heap.get?_update_other _ _ (Ne.symm nb)).trans ((Heap.get?_update_other _ _ (Ne.symm nb)).trans (push e))
    obtain ⟨ol, el, rl⟩ := st.2
    refine ih (i + 1) _ n (tot ++ rows i) _ (by omega) lt ?_ ?_ (Heap.get?_update_self _ hS3 rfl) ⟨0, ?_⟩ (.inr ?_) nI' nS' ?_ ?_ fun h2 tk2 T2 k2 e2 w2 => ?_
    · obtain ⟨o, e, r⟩ := st.1
      exact ⟨o, up (Ne.symm hSI) e, r⟩
    · exact ⟨ol, up (Ne.symm hSl) el, rl⟩
    · exact (Heap.get?_update_other _ _ (Ne.symm nS')).trans ((Heap.get?_update_other _ _ (Ne.symm nS')).trans atN)
    · exact Nat.le_of_lt (Nat.lt_of_le_of_lt hIb (en ▸ Heap.lt_size eI))
    · intro b o e
      exact up (ltI e).2 (kp (ltI e).1 (hbase b o e))
    · rw [List.length_append]
      omega
    · refine fin h2 tk2 T2 k2 ?_ w2
      rw [onward_succ, ← List.append_assoc]
      exact e2
theorem args_sum2 (a b : Value) : argsOk "sum" ⟨[a, b], []⟩ := by unfold argsOk; kernel_rfl
theorem list_no_bytearray : isSubtype (.type "list") (.type "bytearray") = pure false := by rw [isSubtype_type]; kernel_rfl
theorem sum_lists {s : Shared} {E : Value → Shared → Prop} {l z : Addr} {items : Array Value} {Q : Value → Shared → Prop} (hh : A.handled = none) (hl : s.heap.IsList l items) (hz : LstAt s.heap z []) (rows : Nat → List Value) (adr : Nat → Addr)
    (hit : ∀ (i : Nat) (v : Value), items[i]? = some v → v = .ref (adr i)) (hb : ∀ i, i < items.size → LstAt s.heap (adr i) (rows i)) (hsz : (onward rows 0 items.size).length ≤ sizeLine)
    (fin : ∀ (h' : Heap) (tk : Nat) (T' : Addr), (∀ b o, s.heap.get? b = some o → h'.get? b = some o) → LstAt h' T' (onward rows 0 items.size) → ((T' = z ∧ items.size = 0) ∨ s.heap.objs.size ≤ T') → Q (.ref T') { s with heap := h', toks := tk }) :
    wpAny (model prog w) A (call (.builtin "sum") [.ref l, .ref z]) Q E s := by
  refine call_function_tree F.kind_sum F.plain_sum F.entry_sum (args_sum2 _ _) ?_
  unfold Builtin.«sum»
  simp only [List.length_cons, List.length_nil]
  rw [if_neg (by decide)]
  refine wpAny_bind (wpAny_of_eq (show Builtin.Builtins.bindParams "sum" ["start"] 0 ⟨[.ref z], []⟩ = pure [some (.ref z)] from rfl) ?_)
  obtain ⟨ol, el, rl⟩ := hl
  refine wpAny_bind (wpAny_pyIter_list ⟨ol, el, rl⟩ ?_)
  generalize eI : s.heap.objs.size = I
  refine wpAny_bind (wpAny_pure ?_)
  simp only [List.forIn_cons, List.forIn_nil]
  have lI : l < I := eI ▸ Heap.lt_size el
  obtain ⟨cz, ez⟩ := hz
  have zI : z < I := eI ▸ Heap.lt_size ez
  generalize eh : s.heap.push { cls := .type "list_iterator", data := .fields #[.ref l, .int 0 0] } = h1
  have atI : h1.get? I = some { cls := .type "list_iterator", data := .fields #[.ref l, .int 0 0] } := by
    rw [← eh, ← eI]
    exact Heap.get?_push_size _ rfl
  have k1 : ∀ b o, s.heap.get? b = some o → h1.get? b = some o := fun b o e => by
    rw [← eh]
    exact Heap.get?_push_of_some _ e
  have tz : ∀ (g : Array GenState) (d : Drawn) (tk : Nat) (os : OsState), Shared.TypeIs ⟨h1, g, d, tk, os⟩ (.ref z) "list" := fun _ _ _ _ => ⟨_, k1 _ _ ez, rfl⟩
  refine wpAny_bind (wpAny_bind (wpAny_bind (wpAny_isInstance (T := "list") (b := false) (tz _ _ _ _) PySem.F.sub_list_str ?_)))
  simp only [Bool.false_eq_true, if_false]
  refine wpAny_pure (wpAny_bind (wpAny_bind (wpAny_isInstance (T := "list") (b := false) (tz _ _ _ _) PySem.F.sub_list_bytes ?_)))
  simp only [Bool.false_eq_true, if_false]
  refine wpAny_pure (wpAny_bind (wpAny_bind (wpAny_isInstance (T := "list") (b := false) (tz _ _ _ _) list_no_bytearray ?_)))
  simp only [Bool.false_eq_true, if_false]
  refine wpAny_pure (wpAny_pure ?_)
  refine wpAny_bind (wpAny_newObj_type ?_)
  generalize eS : h1.objs.size = S
  have sI : S = I + 1 := by rw [← eS, ← eh, Heap.size_push, eI]
  refine wpAny_pure ⟨plainId_quiet F.plain_sum_loop _, ?_⟩
  have k2 : ∀ b o, h1.get? b = some o → (h1.push { cls := .type "list", data := .seq [Value.ref z].toArray }).get? b = some o := fun b o e => Heap.get?_push_of_some _ e
  refine lists_loop (base := s.heap) (z := z) hh (l := l) (I := I) (S := S) (Nat.ne_of_lt lI) (by rw [sI]; exact Nat.succ_ne_self I) (Nat.ne_of_gt (sI ▸ Nat.lt_succ_of_lt lI)) (Nat.le_of_eq eI) (by rw [sI, eI]; exact Nat.le_succ I) rows adr hit hb items.size 0 _ z [] 0 rfl (Nat.zero_le _) ⟨_, k2 _ _ atI, rfl, rfl⟩ ⟨ol, k2 _ _ (k1 _ _ el), rl⟩ ?_ ⟨cz, k2 _ _ (k1 _ _ ez)⟩
    (.inl ⟨rfl, rfl, Heap.lt_size ez⟩) (Nat.ne_of_lt zI) (Nat.ne_of_lt (sI ▸ Nat.lt_succ_of_lt zI)) (fun b o e => k2 _ _ (k1 _ _ e)) (by simpa using hsz) fun h2 tk2 T2 k2 e2 w2 => fin h2 tk2 T2 k2 (by simpa using e2) w2
  rw [← eS]
  exact Heap.get?_push_size _ rfl
end
section
variable {X : Cx}
def rSumL (K : PySem.W.Frag) : List V → Hp → VK → Prop := fun vs H Q => ∃ (l z : Addr) (as : List Addr) (rws : List (List V)), vs = [.ref l, .ref z] ∧ SqL K H l (as.map V.ref) ∧ H z = some (.lst []) ∧ as.length = rws.length ∧
  (∀ (i : Nat) a r, as[i]? = some a → rws[i]? = some r → H a = some (.lst r)) ∧ rws.flatten.length ≤ sizeLine ∧ ∀ (T : Addr) (H' : Hp), Same H H' → H' T = some (.lst rws.flatten) → Q (.ref T) H'
theorem flat_getD {α : Type} (rws : List (List α)) : (List.range' 0 rws.length).flatMap (fun i => rws.getD i []) = rws.flatten := by
  rw [List.flatMap_def]
  congr 1
  refine List.ext_getElem (by simp) fun i h1 h2 => ?_
  simp [List.getElem?_eq_getElem h2]
theorem vals_flat {f : Nat → List V} {g : Nat → List Value} : ∀ (k i : Nat), (∀ j, i ≤ j → j < i + k → Vals (f j) (g j)) → Vals ((List.range' i k).flatMap f) ((List.range' i k).flatMap g)
  | 0, i, _ => .nil
  | k + 1, i, h => by
    rw [List.range'_succ, List.flatMap_cons, List.flatMap_cons]
    exact (h i (Nat.le_refl _) (by omega)).append (vals_flat k (i + 1) fun j h1 h2 => h j (by omega) (by omega))
theorem refs_of : ∀ {as : List Addr} {us : List Value}, Vals (as.map V.ref) us → us = as.map Value.ref
  | [], _, r => by
    cases r
    rfl
  | a :: as, _, r => by
    cases r with
    | cons r1 r2 =>
      cases r1
      rw [refs_of r2, List.map_cons]
theorem cr_sumL (hc : X.calm = true) : CallR X (.builtin "sum") (rSumL X.K) := by
  intro pins s σ H vs us Q I r h
  obtain ⟨l, z, as, rws, rfl, hs, hz, hl, hr, hn, q⟩ := h
  cases r with
  | cons r1 r =>
    cases r with
    | cons r2 r =>
      cases r
      cases r1
      cases r2
      obtain ⟨its, rv, hil, _⟩ := I.list hs
      obtain rfl := refs_of rv
      obtain ⟨_, iz, nz, rz, lz, ez⟩ := I.lstM hz
      cases rz
      have each : ∀ i, ∃ us, i < as.length → Vals (rws.getD i []) us ∧ LstAt s.heap (as.getD i 0) us := fun i => by
        by_cases hi : i < as.length
        · have e1 := List.getElem?_eq_getElem hi
          have e2 := List.getElem?_eq_getElem (l := rws) (i := i) (by omega)
          obtain ⟨_, ir, nr, rr, lr, er⟩ := I.lstM (hr i _ _ e1 e2)
          refine ⟨ir, fun _ => ⟨?_, nr, ?_⟩⟩
          · rw [List.getD_eq_getElem?_getD, e2]
            exact rr
          · rw [List.getD_eq_getElem?_getD, e1]
            exact er
        · exact ⟨[], fun h => absurd h hi⟩
      obtain ⟨rows, hrows⟩ := Classical.axiomOfChoice each
      have sz : (as.map Value.ref).toArray.size = as.length := by simp
      have vf : Vals rws.flatten (onward rows 0 as.length) := by
        have v := vals_flat (f := fun i => rws.getD i []) (g := rows) as.length 0 fun j _ h2 => (hrows j (by omega)).1
        rw [hl, flat_getD] at v
        rw [hl]
        exact v
      refine sum_lists (I.ok.hd hc) hil.isList ⟨nz, ez⟩ rows (fun i => as.getD i 0) (fun i v e => ?_) (fun i hi => (hrows i (sz ▸ hi)).2) ?_ fun h' tk T keep e w => ?_
      · rw [List.getElem?_toArray, List.getElem?_map] at e
        obtain ⟨a, ea, rfl⟩ := Option.map_eq_some_iff.mp e
        rw [List.getD_eq_getElem?_getD, ea]
        rfl
      · rw [sz, ← vf.length]
        exact hn
      · rw [sz] at e w
        obtain ⟨c, e⟩ := e
        rcases w with ⟨rfl, w⟩ | w
        · refine ⟨.ref T, H, I.kept keep, rfl, q T H (Same.refl H) ?_⟩
          have : rws = [] := List.length_eq_zero_iff.mp (by omega)
          rw [this]
          exact hz
        · refine ⟨.ref T, _, I.laid (t' := tk) (o := .lst rws.flatten) keep w ⟨hn, _, c, vf, e⟩, rfl, q T _ (same_new (I.hok.fresh w)) upd_same⟩
/-- a tuple of nothing, some times, is itself -/
theorem tuple_mul0 (l : Addr) (n : Nat) (dd : Option Addr) (sl : Array (Option Value)) (x : Int) (u : Tok) (c0 : (decide (x < -(2 ^ 63)) || decide (x ≥ 2 ^ 63)) = false) :
    Meets (Builtin.«tuple.__mul__» ⟨[.ref l, .int x u], []⟩) (fun _ R s => s.heap.get? l = some { cls := .type "tuple", dict := dd, data := .seq #[] n, slots := sl } ∧ R (.ok (.ret (Value.ref l))) s) :=
  .of_wp fun prog w A R s h => by
    obtain ⟨hp, g, d, tk, os⟩ := s
    obtain ⟨hl, h⟩ := h
    have f1 := AutoSeq1.idx_int
    wp_walk using wpAny_loadPart' hl
    refine wpAny_ite_false (decide_eq_false (by rw [c0]; exact Bool.false_ne_true)) ?_
    wp_walk using wpAny_loadPart' hl
    exact ⟨_, rfl, h⟩
def rRepU (K : PySem.W.Frag) : R2 := fun x y H Q => ∃ l k, x = .ref l ∧ y = .int k ∧ SqT K H l [] ∧ 0 ≤ k ∧ k ≤ 1000 ∧ Q (.ref l) H
theorem op_repU {X : Cx} : OpR X (binaryOp .Mult) (rRepU X.K) := by
  intro pins s σ H x y v u Q I rx ry h
  obtain ⟨l, k, rfl, rfl, hT, h1, h2, q⟩ := h
  cases rx
  obtain ⟨t, rfl⟩ := ry
  obtain ⟨its, r, ⟨⟨cls, dd, data, sl⟩, ho, hc, n, hd⟩, hs⟩ := I.tuple hT
  cases r
  simp only at hc hd
  subst hc hd
  have c0 : (decide (k < -(2 ^ 63)) || decide (k ≥ 2 ^ 63)) = false := by
    rw [decide_eq_false (by omega), decide_eq_false (by omega)]
    rfl
  refine wpAny_binaryOp_repeat_ref (T := "tuple") (U := "int") (by decide) ⟨_, ho, rfl⟩ (fun s' => typeIs_int s' k t) noFill_tuple_mul F.fills_int_mul F.slot_int_rmul repeat_tuple F.slot_int_index.lookup
    (call_meets F.slot_int_rmul (typeIs_int s k t) F.entry_int_rmul (F.args_int_rmul_2 _ _) (int_rmul_tuple k t l _ n dd sl)
      ⟨ho, rfl, ⟨_, ho, rfl⟩, call_meets F.slot_tuple_mul ⟨_, ho, rfl⟩ F.entry_tuple_mul (F.args_tuple_mul_2 _ _) (tuple_mul0 l n dd sl k t c0) ⟨ho, ?_⟩⟩)
  exact ⟨.ref l, H, I, rfl, q⟩
end
end Ow

/-! A program's data kinds, over any data. -/
namespace Ow
open PySem PySem.Spec PyProof.Rows L2
/-! ### what goes over a tuple, whatever is done in it -/
theorem over_tup {K : PySem.W.Frag} {a : Addr} {xs : List V} {B : V → Hp → (Hp → Prop) → Prop} {Z : Hp → Prop} {H1 : Hp} (Pv : Nat → Hp → Prop) (h0 : Pv 0 H1) (hl : ∀ i H, i ≤ xs.length → Pv i H → SqT K H a xs)
    (hs : ∀ i x H, xs[i]? = some x → Pv i H → B x H (Pv (i + 1))) (hd : ∀ H, Pv xs.length H → Z H) :
    ∃ W : Nat → Nat → Hp → Prop, (∃ m, W 0 m H1) ∧ ∀ j m H, W j m H → ((Itt K a).stop j H ∧ Z H) ∨ ((Itt K a).go j H ∧ ∃ Y : Hp → Prop, (∀ H', Y H' → ∃ m', m' < m ∧ W (j + 1) m' H') ∧ ∀ x H', (Itt K a).yld j H x H' → B x H' Y) := by
  refine ⟨fun i m H => m = xs.length - i ∧ i ≤ xs.length ∧ Pv i H, ⟨_, rfl, Nat.zero_le _, h0⟩, ?_⟩
  rintro i m H ⟨rfl, hi, p⟩
  have q := hl i H hi p
  by_cases lt : i < xs.length
  · refine .inr ⟨⟨xs, xs[i], q, by simp [lt]⟩, Pv (i + 1), fun H' p' => ⟨xs.length - (i + 1), by omega, rfl, lt, p'⟩, fun x H' y => ?_⟩
    obtain ⟨rfl, y⟩ := y
    exact hs i x _ (y xs q) p
  · obtain rfl : i = xs.length := by omega
    exact .inl ⟨⟨xs, q, Nat.le_refl _⟩, hd H p⟩
theorem pi_tupK {X : Cx} {K : PySem.W.Frag} (h : X.K = K) {tg l : Expr} {tl : TE} (hl : PE X l tl) : PI X tg l (iTup K tl) := h ▸ pi_tup hl
theorem in_seqK {X : Cx} {K : PySem.W.Frag} (h : X.K = K) : OpR X (compareOp .In) (rIn K false) := h ▸ op_in_seq
theorem ok_nil {Y : Cx} : ∀ k ∈ ([] : List Cls), k.Ok Y := fun _ h => nomatch h
theorem ok_cons {Y : Cx} {c : Cls} {cs : List Cls} (pi : PI Y c.tg c.iter c.wi) (pg : PG Y c.tg c.g) (pt : PTs Y c.ifs c.tt) (fold : ∀ env x, foldedSetIterable c.iter env x = pure x) (h : ∀ k ∈ cs, k.Ok Y) : ∀ k ∈ c :: cs, k.Ok Y := fun k hk => by
  rcases List.mem_cons.mp hk with rfl | hk
  · exact ⟨pi, pg, pt, fold⟩
  · exact h k hk
/-! ### data kinds -/
def fstN : PyData → Str
  | .tuple [s, _] => nmD s
  | _ => sg ""
def sndL : PyData → List PyData
  | .tuple [_, b] => itD b
  | _ => []
def datasOk (d : PyData) : Bool := isRowD d 1 6 && ((itD d).all dataOk && (unlikeN ((itD d).map fstN) && (unlikeN (((itD d).flatMap sndL).map fstN) && (((itD d).flatMap sndL).flatMap sndL).all fun f => memD f ((itD d).map fstN))))
def progOk : PyData → Bool
  | .tuple [a, b] => datasOk a && defsOk b
  | _ => false
abbrev MkT := Str × List Str
abbrev DtT := Str × List MkT
def mkD (m : MkT) : PyData := .tuple [.str m.1, .tuple (m.2.map strD)]
def dtD (p : DtT) : PyData := .tuple [.str p.1, .tuple (p.2.map mkD)]
structure MkOk (m : MkT) : Prop where
  nm : isNameD (.str m.1) = true
  len : m.2.length ≤ 4
  all : ∀ f ∈ m.2, isNameD (.str f) = true
structure DtOk (p : DtT) : Prop where
  nm : isNameD (.str p.1) = true
  one : 1 ≤ p.2.length
  len : p.2.length ≤ 6
  all : ∀ m ∈ p.2, MkOk m
theorem maker_of {d : PyData} (h : makerOk d = true) : ∃ m : MkT, d = mkD m ∧ MkOk m := by
  unfold makerOk at h
  split at h
  · rename_i a b
    simp only [Bool.and_eq_true] at h
    obtain ⟨h1, h2, h3⟩ := h
    obtain ⟨x, rfl⟩ := name_str h1
    obtain ⟨ns, rfl, _, h4⟩ := row_tup h2
    obtain ⟨xs, rfl, hx⟩ := names_of (ns := ns) h3
    rw [List.length_map] at h4
    exact ⟨(x, xs), rfl, h1, (by omega : xs.length ≤ 4), hx⟩
  · cases h
theorem makers_of : ∀ {ds : List PyData}, ds.all makerOk = true → ∃ ms : List MkT, ds = ms.map mkD ∧ ∀ m ∈ ms, MkOk m
  | [], _ => ⟨[], rfl, fun _ z => nomatch z⟩
  | d :: ds, h => by
    rw [List.all_cons, Bool.and_eq_true] at h
    obtain ⟨m, rfl, hm⟩ := maker_of h.1
    obtain ⟨ms, rfl, hms⟩ := makers_of h.2
    refine ⟨m :: ms, rfl, fun y hy => ?_⟩
    rcases List.mem_cons.mp hy with rfl | hy
    · exact hm
    · exact hms y hy
theorem data_of {d : PyData} (h : dataOk d = true) : ∃ p : DtT, d = dtD p ∧ DtOk p := by
  unfold dataOk at h
  split at h
  · rename_i a b
    simp only [Bool.and_eq_true] at h
    obtain ⟨h1, h2, h3⟩ := h
    obtain ⟨x, rfl⟩ := name_str h1
    obtain ⟨ns, rfl, h5, h6⟩ := row_tup h2
    obtain ⟨ms, rfl, hm⟩ := makers_of (ds := ns) h3
    rw [List.length_map] at h5 h6
    exact ⟨(x, ms), rfl, h1, (by omega : 1 ≤ ms.length), (by omega : ms.length ≤ 6), hm⟩
  · cases h
theorem datas_of : ∀ {ds : List PyData}, ds.all dataOk = true → ∃ ps : List DtT, ds = ps.map dtD ∧ ∀ p ∈ ps, DtOk p
  | [], _ => ⟨[], rfl, fun _ z => nomatch z⟩
  | d :: ds, h => by
    rw [List.all_cons, Bool.and_eq_true] at h
    obtain ⟨p, rfl, hp⟩ := data_of h.1
    obtain ⟨ps, rfl, hps⟩ := datas_of h.2
    refine ⟨p :: ps, rfl, fun y hy => ?_⟩
    rcases List.mem_cons.mp hy with rfl | hy
    · exact hp
    · exact hps y hy
def mksOf (ps : List DtT) : List MkT := ps.flatMap (·.2)
def fldsOf (ps : List DtT) : List Str := (mksOf ps).flatMap (·.2)
theorem fst_dt (ps : List DtT) : (ps.map dtD).map fstN = ps.map (·.1) := by
  rw [List.map_map]
  rfl
theorem snd_dt (ps : List DtT) : (ps.map dtD).flatMap sndL = (mksOf ps).map mkD := by
  unfold mksOf
  rw [List.flatMap_map, List.map_flatMap]
  rfl
theorem snd_mk (ms : List MkT) : (ms.map mkD).flatMap sndL = (ms.flatMap (·.2)).map strD := by
  rw [List.flatMap_map, List.map_flatMap]
  rfl
theorem fst_mk (ms : List MkT) : (ms.map mkD).map fstN = ms.map (·.1) := by
  rw [List.map_map]
  rfl
theorem datas_eq (ps : List DtT) : datasOk (.tuple (ps.map dtD)) = (isRowD (.tuple (ps.map dtD)) 1 6 && ((ps.map dtD).all dataOk && (unlikeN (ps.map (·.1)) && (unlikeN ((mksOf ps).map (·.1)) && (fldsOf ps).all fun f => decide (f ∈ ps.map (·.1)))))) := by
  show (isRowD (.tuple (ps.map dtD)) 1 6 && ((ps.map dtD).all dataOk && (unlikeN ((ps.map dtD).map fstN) && (unlikeN (((ps.map dtD).flatMap sndL).map fstN) && (((ps.map dtD).flatMap sndL).flatMap sndL).all fun f => memD f ((ps.map dtD).map fstN))))) = _
  rw [fst_dt, snd_dt, fst_mk, snd_mk]
  have e : ∀ (xs zs : List Str), ((xs.map strD).all fun f => memD f zs) = xs.all fun f => decide (f ∈ zs) := fun xs zs => by
    rw [List.all_map]
    rfl
  rw [e]
  rfl
theorem flat_len {α β : Type} {f : α → List β} {k : Nat} : ∀ {xs : List α}, (∀ x ∈ xs, (f x).length ≤ k) → (xs.flatMap f).length ≤ xs.length * k
  | [], _ => Nat.zero_le _
  | x :: xs, h => by
    have h1 := h x (List.mem_cons_self ..)
    have h2 := flat_len (xs := xs) fun y hy => h y (List.mem_cons_of_mem _ hy)
    rw [List.flatMap_cons, List.length_append, List.length_cons, Nat.succ_mul]
    omega
theorem mks_len {ps : List DtT} (h : ∀ p ∈ ps, DtOk p) : (mksOf ps).length ≤ ps.length * 6 := flat_len fun p hp => (h p hp).len
theorem mks_ok {ps : List DtT} (h : ∀ p ∈ ps, DtOk p) : ∀ m ∈ mksOf ps, MkOk m := fun m hm => by
  obtain ⟨p, hp, hm⟩ := List.mem_flatMap.mp hm
  exact (h p hp).all m hm
theorem flds_len {ps : List DtT} (h : ∀ p ∈ ps, DtOk p) : (fldsOf ps).length ≤ ps.length * 6 * 4 :=
  Nat.le_trans (flat_len fun m hm => (mks_ok h m hm).len) (Nat.mul_le_mul_right _ (mks_len h))
theorem mks_take {ps : List DtT} {i : Nat} {p : DtT} (h : ps[i]? = some p) : mksOf (ps.take (i + 1)) = mksOf (ps.take i) ++ p.2 := by
  unfold mksOf
  rw [List.take_add_one, h, List.flatMap_append]
  simp
theorem flds_take {ps : List DtT} {i : Nat} {p : DtT} (h : ps[i]? = some p) : fldsOf (ps.take (i + 1)) = fldsOf (ps.take i) ++ p.2.flatMap (·.2) := by
  unfold fldsOf
  rw [mks_take h, List.flatMap_append]
theorem flat_take {α β : Type} {f : α → List β} {ms : List α} {i : Nat} {m : α} (h : ms[i]? = some m) : (ms.take (i + 1)).flatMap f = (ms.take i).flatMap f ++ f m := by
  rw [List.take_add_one, h, List.flatMap_append]
  simp
section
variable {K : PySem.W.Frag} {N : Addr → Prop} {H : Hp}
theorem Da.dt {v : V} {p : DtT} (h : Da K N H v (dtD p)) : ∃ t t2 us, v = .ref t ∧ SqT K H t [.str p.1, .ref t2] ∧ SqT K H t2 us ∧ DaAll K N H us (p.2.map mkD) := by
  obtain ⟨t, x, y, rfl, hT, ha, hb⟩ := Da.tup2 h
  obtain rfl := ha.strInv
  obtain ⟨t2, us, rfl, hT2, hA⟩ := hb.tupInv
  exact ⟨t, t2, us, rfl, hT, hT2, hA⟩
theorem Da.mk {v : V} {m : MkT} (h : Da K N H v (mkD m)) : ∃ t t2, v = .ref t ∧ SqT K H t [.str m.1, .ref t2] ∧ SqT K H t2 (m.2.map V.str) := by
  obtain ⟨t, x, y, rfl, hT, ha, hb⟩ := Da.tup2 h
  obtain rfl := ha.strInv
  obtain ⟨t2, rfl, hT2⟩ := hb.names
  exact ⟨t, t2, rfl, hT, hT2⟩
theorem map_get {α β : Type} {f : α → β} {xs : List α} {i : Nat} {y : β} (h : (xs.map f)[i]? = some y) : ∃ x, xs[i]? = some x ∧ y = f x := by
  rw [List.getElem?_map] at h
  obtain ⟨x, hx, rfl⟩ := Option.map_eq_some_iff.mp h
  exact ⟨x, hx, rfl⟩
end
end Ow

/-! Drawn programs; slices of any bounds; the law's own look at a program. -/
namespace Ow
open PySem PySem.Spec PyProof.Rows L2
/-- a tuple beside the empty one -/
def rNeU (K : PySem.W.Frag) : R2 := fun x y H Q => ∃ (a b : Addr) (xs : List V), x = .ref a ∧ y = .ref b ∧ SqT K H a xs ∧ SqT K H b [] ∧ Q (.bl (!xs.isEmpty)) H
theorem op_neU {X : Cx} (hu : X.A.units + 64 < cLine) : OpR X (compareOp .NotEq) (rNeU X.K) := by
  intro pins s σ H x y v u Q I rx ry h
  obtain ⟨a, b, xs, rfl, rfl, ha, hb, q⟩ := h
  cases rx
  cases ry
  obtain ⟨its, rv, hit, _⟩ := I.tuple ha
  obtain ⟨its2, rv2, hit2, _⟩ := I.tuple hb
  cases rv2
  refine SeqAt.RcNeAt.tuples (e := fun _ => true) hit hit2 (by omega) (fun j h1 h2 => absurd h2 (Nat.not_lt_zero _)) _ _ _ _ ?_
  refine ⟨.bl _, H, I, ?_, q⟩
  show Value.bool _ = Value.bool _
  cases rv with
  | nil => rfl
  | cons _ _ => simp
theorem listOfK {X : Cx} {K : PySem.W.Frag} (h : X.K = K) : CallR X (.type "list") (fun xs H Q => ∃ p ys, xs = [.ref p] ∧ (SqL K H p ys ∨ SqT K H p ys) ∧ ∀ l, H l = none → Q (.ref l) (upd H l (.lst ys))) := h ▸ call_list_of
/-! ### slices -/
theorem cut_some (n : Nat) (lo hi : Option Int) : ∃ a b, ∀ xs : List V, xs.length = n → cutV xs lo hi = (xs.drop a).take b := ⟨HT.sIx n 0 lo, HT.sIx n n hi - HT.sIx n 0 lo, fun xs h => by
  unfold cutV
  rw [h]⟩
theorem da_cut {K : PySem.W.Frag} {N : Addr → Prop} {H : Hp} {xs : List V} {ds : List PyData} (h : DaAll K N H xs ds) (lo hi : Option Int) : ∃ es, DaAll K N H (cutV xs lo hi) es ∧ es.Sublist ds ∧ (cutV xs lo hi).length = es.length := by
  obtain ⟨a, b, e⟩ := cut_some xs.length lo hi
  rw [e xs rfl]
  refine ⟨(ds.drop a).take b, (h.drop a).take b, (List.take_sublist _ _).trans (List.drop_sublist _ _), ((h.drop a).take b).length⟩
theorem at_last {α : Type} {xs : List α} (h : xs ≠ []) : ∃ x, atI xs (-1) = some x ∧ xs[xs.length - 1]? = some x := by
  have l : 0 < xs.length := List.length_pos_iff.mpr h
  refine ⟨xs[xs.length - 1], ?_, List.getElem?_eq_getElem _⟩
  have e : ixN xs.length (-1) = some (xs.length - 1) := by
    unfold ixN
    rw [if_neg (by omega), if_pos (by omega)]
    congr 1
    omega
  show (ixN xs.length (-1)).bind _ = _
  rw [e]
  exact List.getElem?_eq_getElem _
/-! ### programs as they are drawn -/
structure MkS (m : MkT) : Prop where
  nm : Nm m.1
  len : m.2.length ≤ 5
  all : ∀ f ∈ m.2, Nm f
structure DtS (p : DtT) : Prop where
  nm : Nm p.1
  one : 1 ≤ p.2.length
  len : p.2.length ≤ 7
  all : ∀ m ∈ p.2, MkS m
structure PsS (ps : List DtT) : Prop where
  one : 1 ≤ ps.length
  len : ps.length ≤ 7
  all : ∀ p ∈ ps, DtS p
/-- a def's row -/
abbrev DfT := Str × PyData × PyData
def dfD (f : DfT) : PyData := .tuple [.str f.1, f.2.1, f.2.2]
structure FsS (b : Nat) (fs : List DfT) : Prop where
  len : fs.length ≤ b
  all : ∀ f ∈ fs, Nm f.1 ∧ Fit 2000 60 f.2.1 ∧ Fit 42740 60 f.2.2
theorem fit_all {n m : Nat} : ∀ {ds : List PyData}, (∀ d ∈ ds, Fit n m d) → FitAll (ds.length * (n + 2)) m ds
  | [], _ => FitAll.nil.le (Nat.zero_le _) (Nat.le_refl _)
  | d :: ds, h => by
    refine (FitAll.cons (h d (List.mem_cons_self ..)) (fit_all fun e he => h e (List.mem_cons_of_mem _ he))).le ?_ (Nat.le_refl _)
    rw [List.length_cons, Nat.succ_mul]
    omega
theorem fit_map {α : Type} {f : α → PyData} {n m k : Nat} {xs : List α} (h : ∀ x ∈ xs, Fit n m (f x)) (hl : xs.length ≤ k) : FitAll (k * (n + 2)) m (xs.map f) := by
  have q : ∀ d ∈ xs.map f, Fit n m d := fun d hd => by
    obtain ⟨x, hx, rfl⟩ := List.mem_map.mp hd
    exact h x hx
  refine (fit_all q).le ?_ (Nat.le_refl _)
  rw [List.length_map]
  exact Nat.mul_le_mul_right _ hl
theorem MkS.fit {m : MkT} (h : MkS m) : Fit 562 2 (mkD m) := by
  have f := fit_map (f := strD) (k := 5) (fun x hx => fit_nm (h.all x hx)) h.len
  exact (Fit.tup (.cons ((fit_nm h.nm).le (Nat.le_refl _) (Nat.zero_le _)) (.cons (Fit.tup f) (FitAll.nil (n := 0))))).le (by omega) (by omega)
theorem DtS.fit {p : DtT} (h : DtS p) : Fit 4100 4 (dtD p) := by
  have f := fit_map (f := mkD) (k := 7) (fun x hx => (h.all x hx).fit) h.len
  exact (Fit.tup (.cons ((fit_nm h.nm).le (Nat.le_refl _) (Nat.zero_le _)) (.cons (Fit.tup f) (FitAll.nil (n := 0))))).le (by omega) (by omega)
theorem PsS.fit {ps : List DtT} (h : PsS ps) : Fit 28800 5 (.tuple (ps.map dtD)) :=
  (Fit.tup (fit_map (f := dtD) (k := 7) (fun x hx => (h.all x hx).fit) h.len)).le (by omega) (by omega)
theorem df_fit {f : DfT} (h1 : Nm f.1) (h2 : Fit 2000 60 f.2.1) (h3 : Fit 42740 60 f.2.2) : Fit 44840 61 (dfD f) :=
  (Fit.tup (.cons ((fit_nm h1).le (Nat.le_refl _) (Nat.zero_le _)) (.cons h2 (.cons h3 (FitAll.nil (n := 0)))))).le (by omega) (by omega)
theorem FsS.fit {b : Nat} {fs : List DfT} (h : FsS b fs) (hb : b ≤ 40) : Fit 1800000 62 (.tuple (fs.map dfD)) :=
  (Fit.tup (fit_map (f := dfD) (k := 40) (fun x hx => df_fit (h.all x hx).1 (h.all x hx).2.1 (h.all x hx).2.2) (Nat.le_trans h.len hb))).le (by omega) (by omega)
theorem FsS.le {b c : Nat} {fs : List DfT} (h : FsS b fs) (hb : b ≤ c) : FsS c fs := ⟨Nat.le_trans h.len hb, h.all⟩
/-- a drawn program: its data kinds and its defs, as tuples -/
structure Prg (K : PySem.W.Frag) (H : Hp) (v : V) (ps : List DtT) (fs : List DfT) : Prop where
  ex : ∃ t a b xs ys, v = .ref t ∧ SqT K H t [.ref a, .ref b] ∧ SqT K H a xs ∧ DaAll K All H xs (ps.map dtD) ∧ SqT K H b ys ∧ DaAll K All H ys (fs.map dfD)
theorem Prg.da {K : PySem.W.Frag} {H : Hp} {v : V} {ps : List DtT} {fs : List DfT} (h : Prg K H v ps fs) : Da K All H v (.tuple [.tuple (ps.map dtD), .tuple (fs.map dfD)]) := by
  obtain ⟨t, a, b, xs, ys, rfl, h1, h2, h3, h4, h5⟩ := h.ex
  exact .tup h1 (.cons (.tup h2 h3) (.cons (.tup h4 h5) .nil))
theorem Prg.of {K : PySem.W.Frag} {H : Hp} {v : V} {ps : List DtT} {fs : List DfT} (h : Da K All H v (.tuple [.tuple (ps.map dtD), .tuple (fs.map dfD)])) : Prg K H v ps fs := by
  obtain ⟨t, x, y, rfl, h1, h2, h3⟩ := Da.tup2 h
  obtain ⟨a, xs, rfl, h4, h5⟩ := h2.tupInv
  obtain ⟨b, ys, rfl, h6, h7⟩ := h3.tupInv
  exact ⟨t, a, b, xs, ys, rfl, h1, h4, h5, h6, h7⟩
theorem Prg.same {K : PySem.W.Frag} {H H' : Hp} {v : V} {ps : List DtT} {fs : List DfT} (h : Prg K H v ps fs) (s : Same H H') : Prg K H' v ps fs := .of (h.da.same s)
theorem Prg.kp {K : PySem.W.Frag} {H H' : Hp} {v : V} {ps : List DtT} {fs : List DfT} {p : Addr} (h : Prg K H v ps fs) (k : Kp p H H') (n : NoTup H p) : Prg K H' v ps fs := .of (h.da.kp k n trivial)
theorem prg_fit {ps : List DtT} {fs : List DfT} {b : Nat} (h : PsS ps) (g : FsS b fs) (hb : b ≤ 40) : Fit 1840000 63 (.tuple [.tuple (ps.map dtD), .tuple (fs.map dfD)]) :=
  (Fit.tup (.cons (h.fit.le (Nat.le_refl _) (by omega)) (.cons (g.fit hb) (FitAll.nil (n := 0))))).le (by omega) (by omega)
/-! ### what the law's drawing promises -/
def spProg (K : PySem.W.Frag) : Sp := fun vs H Q _ => ∃ (p c : Addr) (a b f n : Int), vs = [.ref p, .int a, .int b, .int f, .int n] ∧ 1 ≤ a ∧ a ≤ 7 ∧ 1 ≤ b ∧ b ≤ 7 ∧ 0 ≤ f ∧ f ≤ 5 ∧ 0 ≤ n ∧ n ≤ 17 ∧ Pen H p c ∧
  ∀ (v : V) (ps : List DtT) (fs : List DfT) (H' : Hp), Prg K H' v ps fs → PsS ps → FsS n.toNat fs → fs.length = n.toNat → Pen H' p c → Kp p H H' → Q v H'
def spBeyond (K : PySem.W.Frag) : Sp := fun vs H Q _ => ∃ (p c : Addr), vs = [.ref p] ∧ Pen H p c ∧ ∀ (v : V) (d : PyData) (H' : Hp), Da K All H' v d → Fit 42740 60 d → Pen H' p c → Kp p H H' → Q v H'
def spChanged (K : PySem.W.Frag) : Sp := fun vs H Q _ => ∃ (p c : Addr) (v : V) (ps : List DtT) (fs : List DfT) (b : Nat), vs = [.ref p, v] ∧ Pen H p c ∧ Prg K H v ps fs ∧ PsS ps ∧ FsS b fs ∧ b ≤ 40 ∧
  ∀ (v' : V) (ps' : List DtT) (fs' : List DfT) (H' : Hp), Prg K H' v' ps' fs' → PsS ps' → FsS b fs' → Pen H' p c → Kp p H H' → Q v' H'
end Ow
namespace Ow
open PySem PySem.Spec PyProof.Rows L2
/-! ### the law's own look at a program -/
def lMk : PyData → Bool
  | .tuple [c, f] => isNameD c && isRowD f 0 4
  | _ => false
def lDt : PyData → Bool
  | .tuple [s, ms] => isNameD s && (isRowD ms 1 6 && (itD ms).all lMk)
  | _ => false
theorem lMk_no {d : PyData} (h : isRowD d 2 2 = false) : lMk d = false := by
  unfold lMk
  split
  · simp [isRowD] at h
  · rfl
theorem lDt_no {d : PyData} (h : isRowD d 2 2 = false) : lDt d = false := by
  unfold lDt
  split
  · simp [isRowD] at h
  · rfl
theorem iteND {c A B : Prop} [Decidable c] (hc : c) (h : B) : if (!decide c) = true then A else B := by
  rw [decide_eq_true hc]
  exact h
theorem row_two {ds : List PyData} (h : ¬ ds.length = 2) : isRowD (.tuple ds) 2 2 = false := by
  rw [row_is]
  exact decide_eq_false fun z => h (by omega)
theorem row_three {ds : List PyData} (h : ¬ ds.length = 3) : isRowD (.tuple ds) 3 3 = false := by
  rw [row_is]
  exact decide_eq_false fun z => h (by omega)
theorem int_ne {a b : Nat} (h : ¬ a = b) : ¬ V.int (a : Int) = V.int (b : Int) := fun z => by
  injection z with z
  exact h (Int.ofNat.inj z)
/-- what the law's look lets by: names, makers with fields of any kind -/
abbrev LmT := Str × List PyData
abbrev LdT := Str × List LmT
def lmD (m : LmT) : PyData := .tuple [.str m.1, .tuple m.2]
def ldD (p : LdT) : PyData := .tuple [.str p.1, .tuple (p.2.map lmD)]
structure LmOk (m : LmT) : Prop where
  nm : isNameD (.str m.1) = true
  len : m.2.length ≤ 4
structure LdOk (p : LdT) : Prop where
  nm : isNameD (.str p.1) = true
  one : 1 ≤ p.2.length
  len : p.2.length ≤ 6
  all : ∀ m ∈ p.2, LmOk m
theorem all_of {α : Type} {f : α → PyData} {P : PyData → Bool} {R : α → Prop} (h : ∀ d, P d = true → ∃ x, d = f x ∧ R x) : ∀ {ds : List PyData}, ds.all P = true → ∃ xs : List α, ds = xs.map f ∧ ∀ x ∈ xs, R x
  | [], _ => ⟨[], rfl, fun _ z => nomatch z⟩
  | d :: ds, g => by
    rw [List.all_cons, Bool.and_eq_true] at g
    obtain ⟨x, rfl, hx⟩ := h d g.1
    obtain ⟨xs, rfl, hxs⟩ := all_of h g.2
    refine ⟨x :: xs, rfl, fun y hy => ?_⟩
    rcases List.mem_cons.mp hy with rfl | hy
    · exact hx
    · exact hxs y hy
theorem lm_of (d : PyData) (h : lMk d = true) : ∃ m : LmT, d = lmD m ∧ LmOk m := by
  unfold lMk at h
  split at h
  · rename_i a b
    simp only [Bool.and_eq_true] at h
    obtain ⟨x, rfl⟩ := name_str h.1
    obtain ⟨ns, rfl, _, h4⟩ := row_tup h.2
    exact ⟨(x, ns), rfl, h.1, (by omega : ns.length ≤ 4)⟩
  · cases h
theorem ld_of (d : PyData) (h : lDt d = true) : ∃ p : LdT, d = ldD p ∧ LdOk p := by
  unfold lDt at h
  split at h
  · rename_i a b
    simp only [Bool.and_eq_true] at h
    obtain ⟨h1, h2, h3⟩ := h
    obtain ⟨x, rfl⟩ := name_str h1
    obtain ⟨ns, rfl, h5, h6⟩ := row_tup h2
    obtain ⟨ms, rfl, hm⟩ := all_of lm_of (ds := ns) h3
    rw [List.length_map] at h5 h6
    exact ⟨(x, ms), rfl, h1, (by omega : 1 ≤ ms.length), (by omega : ms.length ≤ 6), hm⟩
  · cases h
def lmsOf (ps : List LdT) : List LmT := ps.flatMap (·.2)
def lfsOf (ps : List LdT) : List PyData := (lmsOf ps).flatMap (·.2)
theorem lms_len {ps : List LdT} (h : ∀ p ∈ ps, LdOk p) : (lmsOf ps).length ≤ ps.length * 6 := flat_len fun p hp => (h p hp).len
theorem lms_ok {ps : List LdT} (h : ∀ p ∈ ps, LdOk p) : ∀ m ∈ lmsOf ps, LmOk m := fun m hm => by
  obtain ⟨p, hp, hm⟩ := List.mem_flatMap.mp hm
  exact (h p hp).all m hm
theorem lfs_len {ps : List LdT} (h : ∀ p ∈ ps, LdOk p) : (lfsOf ps).length ≤ ps.length * 6 * 4 :=
  Nat.le_trans (flat_len fun m hm => (lms_ok h m hm).len) (Nat.mul_le_mul_right _ (lms_len h))
theorem fst_ld (ps : List LdT) : (ps.map ldD).map fstN = ps.map (·.1) := by
  rw [List.map_map]
  rfl
theorem snd_ld (ps : List LdT) : (ps.map ldD).flatMap sndL = (lmsOf ps).map lmD := by
  unfold lmsOf
  rw [List.flatMap_map, List.map_flatMap]
  rfl
theorem snd_lm (ms : List LmT) : (ms.map lmD).flatMap sndL = ms.flatMap (·.2) := by
  rw [List.flatMap_map]
  rfl
theorem fst_lm (ms : List LmT) : (ms.map lmD).map fstN = ms.map (·.1) := by
  rw [List.map_map]
  rfl
theorem memD_name {f : PyData} {zs : List Str} (hz : ∀ z ∈ zs, isNameD (.str z) = true) (h : memD f zs = true) : isNameD f = true := by
  cases f with
  | str x => exact hz x (of_decide_eq_true h)
  | _ => cases h
/-- of such data kinds the program's look asks no more than names that are unlike and fields of them -/
theorem datas_ld {ps : List LdT} (h : ∀ p ∈ ps, LdOk p) (h1 : 1 ≤ ps.length) (h6 : ps.length ≤ 6) :
    datasOk (.tuple (ps.map ldD)) = (unlikeN (ps.map (·.1)) && (unlikeN ((lmsOf ps).map (·.1)) && (lfsOf ps).all fun f => memD f (ps.map (·.1)))) := by
  have e : datasOk (.tuple (ps.map ldD)) = (isRowD (.tuple (ps.map ldD)) 1 6 && ((ps.map ldD).all dataOk && (unlikeN (ps.map (·.1)) && (unlikeN ((lmsOf ps).map (·.1)) && (lfsOf ps).all fun f => memD f (ps.map (·.1)))))) := by
    show (isRowD (.tuple (ps.map ldD)) 1 6 && ((ps.map ldD).all dataOk && (unlikeN ((ps.map ldD).map fstN) && (unlikeN (((ps.map ldD).flatMap sndL).map fstN) && (((ps.map ldD).flatMap sndL).flatMap sndL).all fun f => memD f ((ps.map ldD).map fstN))))) = _
    rw [fst_ld, snd_ld, fst_lm, snd_lm]
    rfl
  rw [e, row_ok (by rw [List.length_map]; omega) (by rw [List.length_map]; omega), Bool.true_and]
  cases hf : (lfsOf ps).all fun f => memD f (ps.map (·.1)) with
  | false => simp
  | true =>
    have : (ps.map ldD).all dataOk = true := by
      rw [List.all_eq_true]
      intro d hd
      obtain ⟨p, hp, rfl⟩ := List.mem_map.mp hd
      have hpo := h p hp
      show (isNameD (.str p.1) && (isRowD (.tuple (p.2.map lmD)) 1 6 && (p.2.map lmD).all makerOk)) = true
      have o1 := hpo.one
      have o2 := hpo.len
      rw [hpo.nm, row_ok (by rw [List.length_map]; omega) (by rw [List.length_map]; omega), Bool.true_and, Bool.true_and, List.all_eq_true]
      intro e he
      obtain ⟨m, hm, rfl⟩ := List.mem_map.mp he
      have hmo := hpo.all m hm
      have o3 := hmo.len
      show (isNameD (.str m.1) && (isRowD (.tuple m.2) 0 4 && m.2.all isNameD)) = true
      rw [hmo.nm, row_ok (by omega) (by omega), Bool.true_and, Bool.true_and, List.all_eq_true]
      intro f hf2
      rw [List.all_eq_true] at hf
      refine memD_name (zs := ps.map (·.1)) (fun z hz => ?_) (hf f (List.mem_flatMap.mpr ⟨m, List.mem_flatMap.mpr ⟨p, hp, hm⟩, hf2⟩))
      obtain ⟨q, hq, rfl⟩ := List.mem_map.mp hz
      exact (h q hq).nm
    rw [this, Bool.true_and]
/-- data kinds that the law's look doesn't let by aren't the program's -/
theorem dt_ld {d : PyData} (h : dataOk d = true) : lDt d = true := by
  obtain ⟨p, rfl, hp⟩ := data_of h
  have o1 := hp.one
  have o2 := hp.len
  show (isNameD (.str p.1) && (isRowD (.tuple (p.2.map mkD)) 1 6 && (p.2.map mkD).all lMk)) = true
  rw [hp.nm, row_ok (by rw [List.length_map]; omega) (by rw [List.length_map]; omega), Bool.true_and, Bool.true_and, List.all_eq_true]
  intro e he
  obtain ⟨m, hm, rfl⟩ := List.mem_map.mp he
  have hmo := hp.all m hm
  have o3 := hmo.len
  show (isNameD (.str m.1) && isRowD (.tuple (m.2.map strD)) 0 4) = true
  rw [hmo.nm, row_ok (by omega) (by rw [List.length_map]; omega)]
  rfl
theorem datas_no {ds : List PyData} (h : ds.all lDt = false) : datasOk (.tuple ds) = false := by
  cases e : ds.all dataOk with
  | false =>
    show (isRowD (.tuple ds) 1 6 && (ds.all dataOk && _)) = false
    rw [e, Bool.false_and, Bool.and_false]
  | true =>
    rw [List.all_eq_true] at e
    have : ds.all lDt = true := List.all_eq_true.mpr fun d hd => dt_ld (e d hd)
    rw [this] at h
    cases h
theorem datas_row {d : PyData} (h : isRowD d 1 6 = false) : datasOk d = false := by
  unfold datasOk
  rw [h]
  rfl
theorem unl_lt (xs : List Str) : decide (((dd [] xs).length : Int) < (xs.length : Int)) = !unlikeN xs := by
  have h := dd_len xs []
  have e : ([] : List Str).length = 0 := rfl
  unfold unlikeN
  by_cases c : (dd [] xs).length = xs.length
  · rw [decide_eq_true c, decide_eq_false (by omega)]
    rfl
  · rw [decide_eq_false c, decide_eq_true (by omega)]
    rfl
end Ow
namespace Ow
open PySem PySem.Spec PyProof.Rows L2
/-! ### one of a row is exchanged -/
def setAt {α : Type} (l : List α) (j : Nat) (x : α) : List α := (l.take j ++ [x]) ++ l.drop (j + 1)
theorem setAt_len {α : Type} {l : List α} {j : Nat} {x : α} (h : j < l.length) : (setAt l j x).length = l.length := by
  unfold setAt
  rw [List.length_append, List.length_append, List.length_take, List.length_drop]
  have : [x].length = 1 := rfl
  omega
theorem setAt_mem {α : Type} {l : List α} {j : Nat} {x y : α} (h : y ∈ setAt l j x) : y = x ∨ y ∈ l := by
  unfold setAt at h
  rcases List.mem_append.mp h with h | h
  · rcases List.mem_append.mp h with h | h
    · exact .inr (List.mem_of_mem_take h)
    · exact .inl (List.mem_singleton.mp h)
  · exact .inr (List.mem_of_mem_drop h)
theorem setAt_map {α β : Type} {f : α → β} {l : List α} {j : Nat} {x : α} : (setAt l j x).map f = setAt (l.map f) j (f x) := by
  unfold setAt
  rw [List.map_append, List.map_append, List.map_take, List.map_drop]
  rfl
theorem da_setAt {K : PySem.W.Frag} {N : Addr → Prop} {H : Hp} {xs : List V} {ds : List PyData} {v : V} {d : PyData} (h : DaAll K N H xs ds) (g : Da K N H v d) (j : Nat) : DaAll K N H ((xs.take j ++ [v]) ++ xs.drop (j + 1)) (setAt ds j d) :=
  ((h.take j).append (.cons g .nil)).append (h.drop (j + 1))
theorem da_all_at {α : Type} {K : PySem.W.Frag} {N : Addr → Prop} {H : Hp} {f : α → PyData} {xs : List V} {ps : List α} (h : DaAll K N H xs (ps.map f)) {i : Nat} (hi : i < ps.length) : ∃ v, xs[i]? = some v ∧ Da K N H v (f ps[i]) := by
  have hl := h.length
  rw [List.length_map] at hl
  have hx : i < xs.length := by omega
  obtain ⟨d, e1, e2⟩ := h.get (List.getElem?_eq_getElem hx)
  rw [List.getElem?_map, List.getElem?_eq_getElem hi] at e1
  cases e1
  exact ⟨_, List.getElem?_eq_getElem hx, e2⟩
end Ow
namespace Ow
open PySem PySem.Spec PyProof.Rows L2
/-- a tuple, some times -/
def rRepA (K : PySem.W.Frag) : R2 := fun x y H Q => ∃ l k xs, x = .ref l ∧ y = .int k ∧ SqT K H l xs ∧ 2 ≤ k ∧ k ≤ 1000 ∧ xs.length ≤ 1000 ∧ ∀ t H', Same H H' → SqT K H' t (List.replicate k.toNat xs).flatten → Q (.ref t) H'
theorem op_repA {X : Cx} : OpR X (binaryOp .Mult) (rRepA X.K) := by
  intro pins s σ H x y v u Q I rx ry h
  obtain ⟨l, k, xs, rfl, rfl, hT, h2, h3, hl, q⟩ := h
  by_cases e : xs = []
  · subst e
    refine op_repU pins s σ H _ _ v u Q I rx ry ⟨l, k, rfl, rfl, hT, by omega, h3, q l H (Same.refl H) ?_⟩
    rw [show (List.replicate k.toNat ([] : List V)).flatten = [] by simp]
    exact hT
  · exact op_repT pins s σ H _ _ v u Q I rx ry ⟨l, k, xs, rfl, rfl, hT, e, h2, h3, hl, fun p hp => q p _ (same_new hp) (SqT.of upd_same)⟩
theorem prog_none : progOk (.tuple [.tuple [], .tuple []]) = false := by
  show (datasOk (.tuple []) && defsOk (.tuple [])) = false
  rw [datas_row (by decide)]
  rfl
end Ow

namespace Ow
open PySem PySem.Spec PyProof.Rows L2
/-! ### methods of own instances, called by name; a raise that no road comes to -/
structure MethOk (P : Program) (w : World) (K : PySem.W.Frag) (mg : Str → Option Value) (base : Heap) (k : Nat) (C : Addr) (m : Str) (ps : List Str) (sp : Sp) : Prop where
  ex : ∃ (f : Addr) (fd : FuncData), L2.Meth K C m f ∧ FnOk P w K mg base CX0 k f fd ps sp ∧ L2.Binds K fd ps []
structure MethAt (K : PySem.W.Frag) (C : Addr) (m qual : Str) (st : Stmt) (ps : List Str) : Prop where
  ex : ∃ (f : Addr) (fd : FuncData), L2.Meth K C m f ∧ Fun K m qual st f fd ∧ L2.Binds K fd ps []
section
variable {X : Cx} {k j : Nat} {m : Str} {C : Addr} {ps : List Str} {sp : Sp} {pos apos : Pos} {e o : Expr} {es : List Expr} {t : TA} {to : TE} {pl : Sem Bool}
theorem pe_methOk (M : MethOk X.prog X.w X.K X.mg X.base k C m ps sp) (c : L2.Cls X.K C) (hr : Room j X.A) (hj : k ≤ j) (ho : PE X o to) (ha : PA X (e :: es) t)
    (he : starEach (e :: es) X.env = (false, eval e X.env) :: starEach es X.env := by rfl) (hpl : (backTo pos (starEach es X.env)).any (·.1) = false := by rfl)
    (ht : eval (.Call (.Attribute o m apos) (e :: es) [] pos) X.env = (do
      let ov ← eval o X.env
      standAt apos.atName
      let (f, first) ← holding [ov] (getMethod ov m pl)
      callWith pos f first (backTo pos (starEach (e :: es) X.env)) (backToKw pos (keywordEach [] X.env))) := by rfl) :
    PE X (.Call (.Attribute o m apos) (e :: es) [] pos) (tMeth C m sp [] E0 to t) := by
  obtain ⟨f, fd, hm, F, hb⟩ := M.ex
  exact pe_meth (pl := pl) ho c hm F (hr.mono hj) hb .nil pass0 ha he hpl ht
theorem pe_methOk0 (M : MethOk X.prog X.w X.K X.mg X.base k C m ps sp) (c : L2.Cls X.K C) (hr : Room j X.A) (hj : k ≤ j) (ho : PE X o to)
    (ht : eval (.Call (.Attribute o m apos) [] [] pos) X.env = (do
      let ov ← eval o X.env
      standAt apos.atName
      let (f, first) ← holding [ov] (getMethod ov m pl)
      callWith pos f first (backTo pos (starEach [] X.env)) (backToKw pos (keywordEach [] X.env))) := by rfl) :
    PE X (.Call (.Attribute o m apos) [] [] pos) (tMeth C m sp [] E0 to tNil) := by
  obtain ⟨f, fd, hm, F, hb⟩ := M.ex
  exact pe_meth0 (pl := pl) ho c hm F (hr.mono hj) hb .nil pass0 ht
theorem ps_never {st : Stmt} : PS X st (fun _ _ _ => False) := ⟨fun _ _ _ _ _ _ h => h.elim⟩
end
section
variable {P : Program} {w : World} {K : PySem.W.Frag} {mg : Str → Option Value} {base : Heap} {m qual : Str} {C : Addr} {st : Stmt} {N ps : List Str} {k j : Nat} {sp : Sp}
theorem MethAt.ok (D : MethAt K C m qual st ps) (S : FnScope N ps (defScope st)) (len : ∀ vs H Q E, sp vs H Q E → vs.length = ps.length)
    (hbody : ∀ (f : Addr) (cdv : Value) (A : Around) (outer : List Env) (s : Shared) (H : Hp) (vs : List V) (Q : VK) (E : XK), Room k (A.deeper (envOfC qual (defScope st) s.heap.objs.size f cdv)) → sp vs H Q E →
      ∃ t, PSs (cxOf CX0 P w K mg base N qual (defScope st) f cdv A outer s H E).nox (defBody st) t ∧ t { nx := fun _ H' => Q .non H', rt := Q } (start N vs) H) : MethOk P w K mg base (k + 1) C m ps sp := by
  obtain ⟨f, fd, hm, F, hb⟩ := D.ex
  exact ⟨f, fd, hm, F.ok S len fun cdv A outer s H vs Q E hr h => hbody f cdv A outer s H vs Q E hr h, hb⟩
end
theorem at_natI {α : Type} {l : List α} {i : Nat} {x : α} (h : l[i]? = some x) : atI l (i : Int) = some x := by
  have hi : i < l.length := (List.getElem?_eq_some_iff.mp h).1
  unfold atI ixN
  rw [if_pos (by omega), if_pos (by omega)]
  exact h
theorem iteFx {c : Bool} {A B : Prop} (hc : c = false) (h : B) : if c = true then A else B := by
  rw [hc, if_neg Bool.false_ne_true]
  exact h
theorem iteTx {c : Bool} {A B : Prop} (hc : c = true) (h : A) : if c = true then A else B := by
  rw [if_pos hc]
  exact h
/-! ### a reader of a text: at its place -/
def rdF (x : Str) (n : Nat) : List (Str × V) := [("text", .str x), ("at", .int n)]
def RdAt (C : Addr) (H : Hp) (r : Addr) (x : Str) (n : Nat) : Prop := ∃ dx, H r = some (.ins C dx (rdF x n))
structure RdC (K : PySem.W.Frag) (C : Addr) : Prop where
  cl : L2.Cls K C
  nT : NoAttr K C "text"
  nA : NoAttr K C "at"
theorem lk_here {k : Str} {v : V} {r : List (Str × V)} : List.lookup k ((k, v) :: r) = some v := by
  have e : (k == k) = true := beq_self_eq_true k
  simp only [List.lookup, e]
theorem lk_past {k g : Str} {v : V} {r : List (Str × V)} (h : (k == g) = false) : List.lookup k ((g, v) :: r) = List.lookup k r := by
  simp only [List.lookup, h]
theorem rd_text (x : Str) (n : Nat) : (rdF x n).lookup ("text" : Str) = some (.str x) := lk_here
theorem rd_at (x : Str) (n : Nat) : (rdF x n).lookup ("at" : Str) = some (.int n) := (lk_past (by decide +kernel)).trans lk_here
theorem rd_no {m : Str} (h1 : (m == ("text" : Str)) = false) (h2 : (m == ("at" : Str)) = false) (x : Str) (n : Nat) : (rdF x n).lookup m = none := (lk_past h1).trans ((lk_past h2).trans rfl)
theorem rd_put (x : Str) (n m : Nat) : putF "at" (.int m) (rdF x n) = rdF x m := by
  show putF "at" (.int m) (("text", .str x) :: [("at", .int n)]) = _
  rw [putF, if_neg (by decide +kernel), putF, if_pos rfl]
  rfl
theorem RdAt.same {C : Addr} {H H' : Hp} (s : Same H H') {r : Addr} {x : Str} {n : Nat} (h : RdAt C H r x n) : RdAt C H' r x n := by
  obtain ⟨dx, h⟩ := h
  exact ⟨dx, s _ _ h⟩
abbrev blanks : Str := " \n"
def bl (c : Nat) : Bool := decide (c ∈ blanks.cps.toList)
def skipN (cs : List Nat) (n : Nat) : Nat := n + ((cs.drop n).takeWhile bl).length
theorem skip_le {cs : List Nat} {n : Nat} (h : n ≤ cs.length) : skipN cs n ≤ cs.length := by
  have e := (List.takeWhile_sublist (p := bl) (l := cs.drop n)).length_le
  rw [List.length_drop] at e
  unfold skipN
  omega
theorem skip_step {cs : List Nat} {n c : Nat} (h : cs[n]? = some c) (b : bl c = true) : skipN cs (n + 1) = skipN cs n := by
  obtain ⟨hl, rfl⟩ := List.getElem?_eq_some_iff.mp h
  unfold skipN
  rw [List.drop_eq_getElem_cons hl, List.takeWhile_cons_of_pos b, List.length_cons]
  omega
theorem skip_stop {cs : List Nat} {n c : Nat} (h : cs[n]? = some c) (b : bl c = false) : skipN cs n = n := by
  obtain ⟨hl, rfl⟩ := List.getElem?_eq_some_iff.mp h
  unfold skipN
  rw [List.drop_eq_getElem_cons hl, List.takeWhile_cons_of_neg (by simpa using b)]
  rfl
theorem skip_end {cs : List Nat} {n : Nat} (h : cs.length ≤ n) : skipN cs n = n := by
  unfold skipN
  rw [List.drop_eq_nil_of_le h]
  rfl
def spReaderInit (C : Addr) : Sp := fun vs H Q _ => ∃ (p dx : Addr) (x : Str), vs = [.ref p, .str x] ∧ H p = some (.ins C dx []) ∧ ∀ H' : Hp, RdAt C H' p x 0 → Kp p H H' → Q .non H'
def spPeek (C : Addr) : Sp := fun vs H Q _ => ∃ (r : Addr) (x : Str) (n : Nat), vs = [.ref r] ∧ RdAt C H r x n ∧ n ≤ x.length ∧ x.length ≤ 1000000 ∧
  ∀ H' : Hp, RdAt C H' r x (skipN x.cps.toList n) → Kp r H H' → Q (.str (cutS x (some (skipN x.cps.toList n)) (some (skipN x.cps.toList n + 1)))) H'
end Ow
namespace Ow
open PySem PySem.Spec PyProof.Rows L2
theorem cutS_nat (x : Str) (i j : Nat) (hi : i ≤ x.length) : cutS x (some (i : Int)) (some (j : Int)) = ⟨((x.cps.toList.drop i).take (min j x.length - i)).toArray⟩ := by
  unfold cutS
  rw [HT.sIx_nat, HT.sIx_nat, Nat.min_eq_left hi]
theorem cut_sign {x : Str} {i c : Nat} (h : x.cps.toList[i]? = some c) : cutS x (some (i : Int)) (some ((i : Int) + 1)) = ⟨#[c]⟩ := by
  have hl : i < x.length := (List.getElem?_eq_some_iff.mp h).1
  have e : cutS x (some (i : Int)) (some ((i : Int) + 1)) = cutS x (some (i : Int)) (some ((i + 1 : Nat) : Int)) := rfl
  rw [e, cutS_nat x i (i + 1) (by omega), Nat.min_eq_left (by omega), Nat.add_sub_cancel_left]
  obtain ⟨hl2, rfl⟩ := List.getElem?_eq_some_iff.mp h
  rw [List.drop_eq_getElem_cons hl2, List.take_succ_cons, List.take_zero]
theorem cut_over (x : Str) : cutS x (some (x.length : Int)) (some ((x.length : Int) + 1)) = "" := by
  have e : cutS x (some (x.length : Int)) (some ((x.length : Int) + 1)) = cutS x (some (x.length : Int)) (some ((x.length + 1 : Nat) : Int)) := rfl
  rw [e, cutS_nat x _ _ (Nat.le_refl _), List.drop_eq_nil_of_le (show x.cps.toList.length ≤ x.length from Nat.le_refl _), List.take_nil]
  rfl
def ltr (c : Nat) : Bool := decide (c ∈ abc.cps.toList)
/-- the name that begins here -/
def nameN (cs : List Nat) (m : Nat) : List Nat := (cs.drop m).takeWhile ltr
theorem name_step {cs : List Nat} {m j c : Nat} (h : cs[m + j]? = some c) (b : ltr c = true) (hj : j ≤ (nameN cs m).length) : j < (nameN cs m).length := by
  rcases Nat.lt_or_ge j (nameN cs m).length with l | l
  · exact l
  · exfalso
    have e : j = (nameN cs m).length := by omega
    subst e
    have hd : (cs.drop m)[(nameN cs m).length]? = some c := by rw [List.getElem?_drop]; exact h
    have split := List.takeWhile_append_dropWhile (p := ltr) (l := cs.drop m)
    have hq : ((cs.drop m).dropWhile ltr)[0]? = some c := by
      have z : ((cs.drop m).takeWhile ltr ++ (cs.drop m).dropWhile ltr)[(nameN cs m).length]? = some c := by rw [split]; exact hd
      rw [List.getElem?_append_right (by unfold nameN; omega)] at z
      simpa [nameN] using z
    cases hw : (cs.drop m).dropWhile ltr with
    | nil =>
      rw [hw] at hq
      cases hq
    | cons a t =>
      rw [hw] at hq
      cases hq
      have hne : (cs.drop m).dropWhile ltr ≠ [] := by rw [hw]; simp
      have z := List.head_dropWhile_not ltr hne
      have hh : ((cs.drop m).dropWhile ltr).head hne = c := by simp [hw]
      rw [hh] at z
      rw [b] at z
      cases z
theorem name_at {cs : List Nat} {m j : Nat} (hj : j < (nameN cs m).length) : ∃ c, cs[m + j]? = some c ∧ ltr c = true := by
  refine ⟨(nameN cs m)[j], ?_, ?_⟩
  · have pre := List.takeWhile_prefix (p := ltr) (l := cs.drop m)
    have z : (cs.drop m)[j]? = some (nameN cs m)[j] := by
      obtain ⟨t, ht⟩ := pre
      rw [← ht]
      show (nameN cs m ++ t)[j]? = _
      rw [List.getElem?_append_left hj]
      exact List.getElem?_eq_getElem _
    rw [List.getElem?_drop] at z
    exact z
  · exact List.all_eq_true.mp (List.all_takeWhile (p := ltr) (l := cs.drop m)) _ (List.getElem_mem hj)
theorem name_len {cs : List Nat} {m : Nat} (h : m ≤ cs.length) : m + (nameN cs m).length ≤ cs.length := by
  have e := (List.takeWhile_sublist (p := ltr) (l := cs.drop m)).length_le
  rw [List.length_drop] at e
  unfold nameN
  omega
theorem cut_name {x : Str} {m : Nat} (h : m ≤ x.length) : cutS x (some (m : Int)) (some ((m + (nameN x.cps.toList m).length : Nat) : Int)) = ⟨(nameN x.cps.toList m).toArray⟩ := by
  have hl : m + (nameN x.cps.toList m).length ≤ x.length := name_len h
  rw [cutS_nat x _ _ h, Nat.min_eq_left hl, Nat.add_sub_cancel_left]
  congr 1
  congr 1
  obtain ⟨t, ht⟩ := List.takeWhile_prefix (p := ltr) (l := x.cps.toList.drop m)
  show (x.cps.toList.drop m).take ((x.cps.toList.drop m).takeWhile ltr).length = (x.cps.toList.drop m).takeWhile ltr
  conv => lhs; arg 2; rw [← ht]
  rw [List.take_left']
  rfl
def spTake (C : Addr) : Sp := fun vs H Q _ => ∃ (r : Addr) (x z : Str) (n c : Nat), vs = [.ref r, .str z] ∧ RdAt C H r x n ∧ n ≤ x.length ∧ x.length ≤ 1000000 ∧ x.cps.toList[skipN x.cps.toList n]? = some c ∧ c ∈ z.cps.toList ∧
  ∀ H' : Hp, RdAt C H' r x (skipN x.cps.toList n + 1) → Kp r H H' → Q (.str ⟨#[c]⟩) H'
def spTakeName (C : Addr) : Sp := fun vs H Q _ => ∃ (r : Addr) (x : Str) (n : Nat), vs = [.ref r] ∧ RdAt C H r x n ∧ n ≤ x.length ∧ x.length ≤ 1000000 ∧ 1 ≤ (nameN x.cps.toList (skipN x.cps.toList n)).length ∧ (nameN x.cps.toList (skipN x.cps.toList n)).length ≤ 8 ∧
  ∀ H' : Hp, RdAt C H' r x (skipN x.cps.toList n + (nameN x.cps.toList (skipN x.cps.toList n)).length) → Kp r H H' → Q (.str ⟨(nameN x.cps.toList (skipN x.cps.toList n)).toArray⟩) H'
def spFinish (C : Addr) : Sp := fun vs H Q _ => ∃ (r : Addr) (x : Str) (n : Nat), vs = [.ref r] ∧ RdAt C H r x n ∧ n ≤ x.length ∧ x.length ≤ 1000000 ∧ skipN x.cps.toList n = x.length ∧
  ∀ H' : Hp, RdAt C H' r x x.length → Kp r H H' → Q .non H'
end Ow
namespace Ow
open PySem PySem.Spec PyProof.Rows L2
theorem sign_ne_empty (c : Nat) : decide (V.str ⟨#[c]⟩ = V.str "") = false := decide_eq_false fun e => by
  injection e with e
  have := congrArg (fun z : Str => z.cps.size) e
  exact absurd this (show ¬ (1 = 0) by decide)
end Ow

namespace Ow
open PySem PySem.Spec PyProof.Rows L2
/-! ### kinds as they are written -/
def headNo (t : List Nat) : Prop := ∀ c t', t = c :: t' → ltr c = false
inductive Wr : List Nat → PyData → List Nat → Prop where
  | name {b w t : List Nat} (hb : ∀ c ∈ b, bl c = true) (hw : ∀ c ∈ w, ltr c = true) (h1 : 1 ≤ w.length) (h8 : w.length ≤ 8) (ht : headNo t) : Wr (b ++ (w ++ t)) (.str ⟨w.toArray⟩) t
  | row {b1 b2 b3 ra rb t : List Nat} {s : Nat} {da db : PyData} (h1 : ∀ c ∈ b1, bl c = true) (h2 : ∀ c ∈ b2, bl c = true) (h3 : ∀ c ∈ b3, bl c = true) (hs : s = 62 ∨ s = 42)
    (ha : Wr ra da rb) (hb : Wr rb db (b3 ++ 41 :: t)) : Wr (b1 ++ 40 :: (b2 ++ s :: ra)) (.tuple [.str ⟨#[s]⟩, da, db]) t
theorem ltr_bl {c : Nat} (h : ltr c = true) : bl c = false := by
  have m := of_decide_eq_true h
  have e : ∀ c ∈ abc.cps.toList, bl c = false := by decide +kernel
  exact e c m
/-- blanks, then none -/
theorem skip_at {cs b r : List Nat} {n c : Nat} (e : cs.drop n = b ++ c :: r) (hb : ∀ c ∈ b, bl c = true) (hc : bl c = false) : skipN cs n = n + b.length ∧ cs[n + b.length]? = some c ∧ cs.drop (n + b.length + 1) = r := by
  refine ⟨?_, ?_, ?_⟩
  · unfold skipN
    rw [e, List.takeWhile_append_of_pos hb, List.takeWhile_cons_of_neg (by simp [hc]), List.append_nil]
  · rw [← List.getElem?_drop, e, List.getElem?_append_right (Nat.le_refl _), Nat.sub_self]
    rfl
  · rw [Nat.add_assoc, ← List.drop_drop, e, ← List.drop_drop, List.drop_left']
    · rfl
    · rfl
theorem skip_all {cs b : List Nat} {n : Nat} (e : cs.drop n = b) (hn : n ≤ cs.length) (hb : ∀ c ∈ b, bl c = true) : skipN cs n = cs.length := by
  have l := congrArg List.length e
  rw [List.length_drop] at l
  have t : b.takeWhile bl = b := by
    have z := List.takeWhile_append_of_pos (l₂ := []) hb
    simpa using z
  unfold skipN
  rw [e, t]
  omega
theorem name_is {cs w t : List Nat} {m : Nat} (e : cs.drop m = w ++ t) (hw : ∀ c ∈ w, ltr c = true) (ht : headNo t) : nameN cs m = w ∧ cs.drop (m + w.length) = t := by
  refine ⟨?_, ?_⟩
  · unfold nameN
    rw [e, List.takeWhile_append_of_pos hw]
    cases t with
    | nil => simp
    | cons c t => rw [List.takeWhile_cons_of_neg (by simp [ht c t rfl]), List.append_nil]
  · rw [← List.drop_drop, e, List.drop_left']
    rfl
theorem drop_lt {cs r : List Nat} {n c : Nat} (e : cs.drop n = c :: r) : n < cs.length := by
  rcases Nat.lt_or_ge n cs.length with h | h
  · exact h
  · rw [List.drop_eq_nil_of_le h] at e
    cases e
theorem RdAt.noTup {C : Addr} {H : Hp} {r : Addr} {x : Str} {n : Nat} (h : RdAt C H r x n) : NoTup H r := fun xs q => by
  obtain ⟨dx, h1⟩ := h
  rcases q with q | ⟨o, q⟩
  · rw [h1] at q
    cases q
  · rw [h1] at q
    cases q
def spSigns (K : PySem.W.Frag) (C : Addr) (j : Nat) : Sp := fun vs H Q _ => ∃ (r : Addr) (x : Str) (n : Nat) (d : PyData) (t : List Nat), vs = [.ref r] ∧ RdAt C H r x n ∧ n ≤ x.length ∧ x.length ≤ 1000000 ∧ Wr (x.cps.toList.drop n) d t ∧ kindW j d = true ∧
  ∀ (v : V) (e : Nat) (H' : Hp), Da K All H' v d → RdAt C H' r x e → e ≤ x.length → x.cps.toList.drop e = t → Kp r H H' → Q v H'
theorem wr_tup {r t : List Nat} {d : PyData} (h : Wr r d t) {ds : List PyData} (e : d = .tuple ds) : ∃ (b1 b2 b3 ra rb : List Nat) (s : Nat) (da db : PyData), r = b1 ++ 40 :: (b2 ++ s :: ra) ∧ ds = [.str ⟨#[s]⟩, da, db] ∧ (∀ c ∈ b1, bl c = true) ∧ (∀ c ∈ b2, bl c = true) ∧ (∀ c ∈ b3, bl c = true) ∧ (s = 62 ∨ s = 42) ∧ Wr ra da rb ∧ Wr rb db (b3 ++ 41 :: t) := by
  cases h with
  | name => cases e
  | row h1 h2 h3 hs ha hb =>
    cases e
    exact ⟨_, _, _, _, _, _, _, _, rfl, rfl, h1, h2, h3, hs, ha, hb⟩
end Ow

namespace Ow
open PySem PySem.Spec PyProof.Rows L2
/-- the text of a kind -/
def ktL : Nat → PyData → List Nat
  | 0, _ => []
  | n + 1, d => match d with
    | .str z => z.cps.toList
    | .tuple [.str s, a, b] => 40 :: (s.cps.toList ++ 32 :: (ktL n a ++ 32 :: (ktL n b ++ [41])))
    | _ => []
theorem kt_str (n : Nat) (z : Str) : ktL (n + 1) (.str z) = z.cps.toList := rfl
theorem kt_tup (n : Nat) (s : Str) (a b : PyData) : ktL (n + 1) (.tuple [.str s, a, b]) = 40 :: (s.cps.toList ++ 32 :: (ktL n a ++ 32 :: (ktL n b ++ [41]))) := rfl
theorem str_of (x : Str) : x = ⟨x.cps.toList.toArray⟩ := by
  cases x
  simp
theorem str_ext {x y : Str} (h : x.cps.toList = y.cps.toList) : x = y := by
  rw [str_of x, str_of y, h]
theorem app_list (x y : Str) : (x ++ y).cps.toList = x.cps.toList ++ y.cps.toList := by
  show (x.cps ++ y.cps).toList = _
  simp
theorem glued3 (a b c d : Str) : (Txt.join a [b, c, d]).cps.toList = b.cps.toList ++ (a.cps.toList ++ (c.cps.toList ++ (a.cps.toList ++ d.cps.toList))) := by
  simp [Txt.join, Builtin.Str.glued]
/-- what a kind is made of -/
theorem kd_cases {j : Nat} {d : PyData} (h : kindW (j + 1) d = true) : (∃ z : Str, d = .str z ∧ 1 ≤ z.length ∧ z.length ≤ 8 ∧ ∀ c ∈ z.cps.toList, ltr c = true) ∨
    ∃ (s : Nat) (a b : PyData), d = .tuple [.str ⟨#[s]⟩, a, b] ∧ (s = 62 ∨ s = 42) ∧ 1 ≤ j ∧ kindW j a = true ∧ kindW j b = true := by
  cases hd : tyD d == "str" with
  | true =>
    obtain ⟨z, rfl⟩ := ty_str (by simpa using hd)
    refine .inl ⟨z, rfl, ?_⟩
    have q : isNameD (.str z) = true := h
    simp only [isNameD, Bool.and_eq_true, decide_eq_true_eq, List.all_eq_true] at q
    exact ⟨q.1.1, q.1.2, fun c hc => decide_eq_true (q.2 c hc)⟩
  | false =>
    have hn : tyD d ≠ "str" := by simpa using hd
    cases hr : isRowD d 3 3 with
    | false =>
      rw [kind_no hn (.inr hr)] at h
      cases h
    | true =>
      obtain ⟨sg, a, b, rfl⟩ := row3 hr
      rw [kind_tup, Bool.and_eq_true, Bool.and_eq_true, Bool.and_eq_true, decide_eq_true_eq] at h
      obtain ⟨⟨⟨h1, h2⟩, h3⟩, h4⟩ := h
      refine .inr ?_
      have hs : ∃ s : Nat, sg = .str ⟨#[s]⟩ ∧ (s = 62 ∨ s = 42) := by
        cases sg with
        | str z =>
          have m : z ∈ signs2 := of_decide_eq_true h2
          rcases List.mem_cons.mp m with rfl | m
          · exact ⟨62, rfl, .inl rfl⟩
          · rcases List.mem_cons.mp m with rfl | m
            · exact ⟨42, rfl, .inr rfl⟩
            · cases m
        | _ => cases h2
      obtain ⟨s, rfl, hs⟩ := hs
      exact ⟨s, a, b, rfl, hs, by omega, h3, h4⟩
theorem kt_len : ∀ {j : Nat} {d : PyData}, kindW j d = true → (ktL j d).length + 5 ≤ 13 * 2 ^ j
  | 0, _, h => by cases h
  | j + 1, d, h => by
    have p : 1 ≤ 2 ^ j := Nat.one_le_two_pow
    rcases kd_cases h with ⟨z, rfl, _, h8, _⟩ | ⟨s, a, b, rfl, _, _, ha, hb⟩
    · rw [kt_str, Nat.pow_succ]
      have : z.cps.toList.length = z.length := rfl
      omega
    · have la := kt_len ha
      have lb := kt_len hb
      rw [kt_tup, Nat.pow_succ]
      have h1 : (⟨#[s]⟩ : Str).cps.toList.length = 1 := rfl
      simp only [List.length_cons, List.length_append, List.length_nil, h1]
      omega
theorem ltr_small {c : Nat} (h : ltr c = true) : 97 ≤ c ∧ c ≤ 122 := by
  have m := of_decide_eq_true h
  have e : ∀ c ∈ abc.cps.toList, 97 ≤ c ∧ c ≤ 122 := by decide +kernel
  exact e c m
theorem kind_fit : ∀ {j : Nat} {d : PyData}, kindW j d = true → Fit (128 * 2 ^ j - 40) j d
  | 0, _, h => by cases h
  | j + 1, d, h => by
    have p : 1 ≤ 2 ^ j := Nat.one_le_two_pow
    rcases kd_cases h with ⟨z, rfl, h1, h8, hl⟩ | ⟨s, a, b, rfl, hs, _, ha, hb⟩
    · refine (fit_str (n := 8) (fun c hc => ?_) h8).le (by rw [Nat.pow_succ]; omega) (Nat.zero_le _)
      have := (ltr_small (hl c hc)).2
      omega
    · have hsg : Fit 13 j (.str ⟨#[s]⟩) := (fit_str (n := 1) (fun c hc => by
        have e : c = s := by simpa using hc
        rcases hs with rfl | rfl <;> omega) (Nat.le_refl _)).le (by decide) (Nat.zero_le _)
      refine (Fit.tup (.cons hsg (.cons (kind_fit ha) (.cons (kind_fit hb) (FitAll.nil (n := 0)))))).le ?_ (Nat.le_refl _)
      rw [Nat.pow_succ]
      omega
def spKText (K : PySem.W.Frag) (j : Nat) : Sp := fun vs H Q _ => ∃ (N : Addr → Prop) (v : V) (d : PyData), vs = [v] ∧ Da K N H v d ∧ kindW j d = true ∧ ∀ H', Same H H' → Q (.str ⟨(ktL j d).toArray⟩) H'
def spBracketed : Sp := fun vs H Q _ => ∃ (p : Addr) (a b c : Str), vs = [.ref p] ∧ H p = some (.lst [.str a, .str b, .str c]) ∧ a.length ≤ 1000 ∧ b.length ≤ 1000 ∧ c.length ≤ 1000 ∧
  Q (.str ⟨(40 :: (a.cps.toList ++ 32 :: (b.cps.toList ++ 32 :: (c.cps.toList ++ [41])))).toArray⟩) H
theorem brack (a b c : Str) : (("(" : Str) ++ Txt.join " " [a, b, c]) ++ (")" : Str) = ⟨(40 :: (a.cps.toList ++ 32 :: (b.cps.toList ++ 32 :: (c.cps.toList ++ [41])))).toArray⟩ := by
  refine str_ext ?_
  rw [app_list, app_list, glued3]
  show [40] ++ (a.cps.toList ++ ([32] ++ (b.cps.toList ++ ([32] ++ c.cps.toList)))) ++ [41] = 40 :: _
  simp
theorem kt_small {j : Nat} (hj : j ≤ 6) {d : PyData} (h : kindW j d = true) : (ktL j d).length ≤ 832 := by
  have l := kt_len h
  have : 2 ^ j ≤ 64 := Nat.le_trans (Nat.pow_le_pow_right (by decide) hj) (by decide)
  omega
end Ow

namespace Ow
open PySem PySem.Spec PyProof.Rows L2
def spReadKind (K : PySem.W.Frag) : Sp := fun vs H Q _ => ∃ (x : Str) (d : PyData) (t : List Nat), vs = [.str x] ∧ x.length ≤ 1000000 ∧ Wr x.cps.toList d t ∧ (∀ c ∈ t, bl c = true) ∧ kindW 6 d = true ∧
  ∀ (v : V) (H' : Hp), Da K All H' v d → Same H H' → Q v H'
def spReadWhole (K : PySem.W.Frag) (fS fH : Addr) : Sp := fun vs H Q _ => ∃ (x : Str) (d : PyData) (t : List Nat), vs = [.str x, .ref fS, .ref fH] ∧ x.length ≤ 1000000 ∧ Wr x.cps.toList d t ∧ (∀ c ∈ t, bl c = true) ∧ kindW 6 d = true ∧
  ∀ (v : V) (H' : Hp), Da K All H' v d → Same H H' → Q v H'
end Ow

namespace Ow
open PySem PySem.Spec PyProof.Rows L2
def spAnyKind (K : PySem.W.Frag) (j : Nat) : Sp := fun vs H Q _ => ∃ (p c : Addr) (z : Int), vs = [.ref p, .int z] ∧ z ≤ j ∧ 1 ≤ j ∧ j ≤ 7 ∧ -100 ≤ z ∧ Pen H p c ∧
  ∀ (v : V) (d : PyData) (H' : Hp), Da K All H' v d → kindW j d = true → Pen H' p c → Kp p H H' → Q v H'
theorem nm_kind {x : Str} (h : Nm x) (j : Nat) : kindW (j + 1) (.str x) = true := by
  show isNameD (.str x) = true
  simp only [isNameD, Bool.and_eq_true, decide_eq_true_eq, List.all_eq_true]
  refine ⟨⟨h.1, h.2.1⟩, fun c hc => ?_⟩
  have e : ∀ c, 97 ≤ c → c ≤ 122 → c ∈ abc.cps.toList := by
    intro c h1 h2
    have q : c = 97 ∨ c = 98 ∨ c = 99 ∨ c = 100 ∨ c = 101 ∨ c = 102 ∨ c = 103 ∨ c = 104 ∨ c = 105 ∨ c = 106 ∨ c = 107 ∨ c = 108 ∨ c = 109 ∨ c = 110 ∨ c = 111 ∨ c = 112 ∨ c = 113 ∨ c = 114 ∨ c = 115 ∨ c = 116 ∨ c = 117 ∨ c = 118 ∨ c = 119 ∨ c = 120 ∨ c = 121 ∨ c = 122 := by omega
    rcases q with rfl | rfl | rfl | rfl | rfl | rfl | rfl | rfl | rfl | rfl | rfl | rfl | rfl | rfl | rfl | rfl | rfl | rfl | rfl | rfl | rfl | rfl | rfl | rfl | rfl | rfl <;> decide +kernel
  exact e c (h.2.2 c hc).1 (h.2.2 c hc).2
/-- the tokens of a kind, in their order -/
def toks : Nat → PyData → List (List Nat)
  | 0, _ => []
  | n + 1, d => match d with
    | .str z => [z.cps.toList]
    | .tuple [.str s, a, b] => [40] :: s.cps.toList :: (toks n a ++ (toks n b ++ [[41]]))
    | _ => []
def firstL (w : List Nat) : Bool := match w with
  | c :: _ => ltr c
  | [] => false
def lastL (w : List Nat) : Bool := match w.getLast? with
  | some c => ltr c
  | none => false
/-- tokens put together with blanks, at least one between two of letters; t behind -/
inductive Dr : Bool → List (List Nat) → List Nat → List Nat → Prop where
  | nil {p : Bool} {t : List Nat} : Dr p [] t t
  | cons {p : Bool} {w b r t : List Nat} {ws : List (List Nat)} (hb : ∀ c ∈ b, bl c = true) (hs : p = true → firstL w = true → b ≠ []) (h : Dr (lastL w) ws r t) : Dr p (w :: ws) (b ++ (w ++ r)) t
theorem bl_ltr {c : Nat} (h : bl c = true) : ltr c = false := by
  cases e : ltr c with
  | false => rfl
  | true =>
    rw [ltr_bl e] at h
    cases h
/-- behind a word of letters no letter comes -/
theorem Dr.head {ws : List (List Nat)} {r t : List Nat} (h : Dr true ws r t) (hne : ∀ w ∈ ws, w ≠ []) (ht : headNo t) : headNo r := by
  cases h with
  | nil => exact ht
  | @cons _ w b r t ws hb hs h =>
    intro c t' e
    cases b with
    | cons x b =>
      cases e
      exact bl_ltr (hb c (List.mem_cons_self ..))
    | nil =>
      cases hw : w with
      | nil => exact absurd hw (hne w (List.mem_cons_self ..))
      | cons x w' =>
        rw [hw] at e hs
        cases e
        cases hl : ltr c with
        | false => rfl
        | true => exact absurd rfl (hs rfl hl)
theorem last_letters {w : List Nat} (h : ∀ c ∈ w, ltr c = true) (hne : w ≠ []) : lastL w = true := by
  unfold lastL
  cases e : w.getLast? with
  | none => exact absurd (List.getLast?_eq_none_iff.mp e) hne
  | some c => exact h c (List.mem_of_getLast? e)
theorem toks_ne : ∀ {j : Nat} {d : PyData}, kindW j d = true → ∀ w ∈ toks j d, w ≠ []
  | 0, _, h => by cases h
  | j + 1, d, h => by
    rcases kd_cases h with ⟨z, rfl, h1, _, _⟩ | ⟨s, a, b, rfl, _, _, ha, hb⟩
    · intro w hw e
      have q : w = z.cps.toList := by simpa [toks] using hw
      rw [q] at e
      have : z.length = 0 := by
        show z.cps.toList.length = 0
        rw [e]
        rfl
      omega
    · intro w hw
      have q : w = [40] ∨ w = [s] ∨ w ∈ toks j a ∨ w ∈ toks j b ∨ w = [41] := by simpa [toks] using hw
      rcases q with rfl | rfl | q | q | rfl
      · simp
      · simp
      · exact toks_ne ha w q
      · exact toks_ne hb w q
      · simp
/-- a dressed kind writes the kind -/
theorem Dr.wr : ∀ {j : Nat} {d : PyData} (h : kindW j d = true) {p : Bool} {ws : List (List Nat)} {r t : List Nat}, Dr p (toks j d ++ ws) r t → (∀ w ∈ ws, w ≠ []) → headNo t → ∃ (q : Bool) (r' : List Nat), Wr r d r' ∧ Dr q ws r' t
  | 0, _, h, _, _, _, _, _, _, _ => by cases h
  | j + 1, d, h, p, ws, r, t, hD, hne, ht => by
    rcases kd_cases h with ⟨z, rfl, h1, h8, hl⟩ | ⟨s, a, b, rfl, hs, _, ha, hb⟩
    · cases hD with
      | @cons _ w bb r t ws hb hss hD =>
        have hzn : z.cps.toList ≠ [] := fun e => by
          have : z.length = 0 := by
            show z.cps.toList.length = 0
            rw [e]
            rfl
          omega
        have hlast := last_letters hl hzn
        rw [hlast] at hD
        have w1 := Wr.name (b := bb) (w := z.cps.toList) (t := r) hb hl h1 h8 (hD.head hne ht)
        rw [← str_of] at w1
        exact ⟨_, r, w1, hD⟩
    · have e : toks (j + 1) (.tuple [.str ⟨#[s]⟩, a, b]) ++ ws = [40] :: [s] :: (toks j a ++ (toks j b ++ ([41] :: ws))) := by
        show ([40] :: [s] :: (toks j a ++ (toks j b ++ [[41]]))) ++ ws = _
        simp
      rw [e] at hD
      cases hD with
      | @cons _ w1 b1 r1 t1 ws1 hb1 hs1 hD =>
        cases hD with
        | @cons _ w2 b2 r2 t2 ws2 hb2 hs2 hD =>
          have n2 : ∀ w ∈ [41] :: ws, w ≠ [] := fun w hw => by
            rcases List.mem_cons.mp hw with rfl | hw
            · simp
            · exact hne w hw
          have n1 : ∀ w ∈ toks j b ++ ([41] :: ws), w ≠ [] := fun w hw => by
            rcases List.mem_append.mp hw with hw | hw
            · exact toks_ne hb w hw
            · exact n2 w hw
          obtain ⟨q1, ra, wa, hD⟩ := Dr.wr ha hD n1 ht
          obtain ⟨q2, rb, wb, hD⟩ := Dr.wr hb hD n2 ht
          cases hD with
          | @cons _ w3 b3 r3 t3 ws3 hb3 hs3 hD =>
            exact ⟨_, r3, Wr.row hb1 hb2 hb3 hs wa wb, hD⟩
end Ow

namespace Ow
open PySem PySem.Spec PyProof.Rows L2
theorem for_str {x : Str} {g : TG} {tb : TS} {D : Ends} {σ : L2.St} {H : Hp} (Pv : Nat → L2.St → Hp → Prop) (h0 : Pv 0 σ H)
    (hs : ∀ i c σ H, x.cps.toList[i]? = some c → Pv i σ H → g (.str ⟨#[c]⟩) σ H fun σ2 H2 => tb { D with nx := Pv (i + 1), ct := Pv (i + 1), bk := D.nx } σ2 H2) (hd : ∀ σ H, Pv x.cps.toList.length σ H → D.nx σ H) :
    ∃ W : Nat → Nat → L2.St → Hp → Prop, (∃ m, W 0 m σ H) ∧ ∀ i m σ H, W i m σ H →
      ((Its x).stop i H ∧ D.nx σ H) ∨ ((Its x).go i H ∧ ∃ N : L2.St → Hp → Prop, (∀ σ' H', N σ' H' → ∃ m', m' < m ∧ W (i + 1) m' σ' H') ∧ ∀ y H', (Its x).yld i H y H' → g y σ H' fun σ2 H2 => tb { D with nx := N, ct := N, bk := D.nx } σ2 H2) := by
  refine ⟨fun i m σ H => m = x.cps.size - i ∧ i ≤ x.cps.size ∧ Pv i σ H, ⟨_, rfl, Nat.zero_le _, h0⟩, ?_⟩
  rintro i m σ H ⟨rfl, hi, p⟩
  by_cases hl : i < x.cps.size
  · refine .inr ⟨hl, Pv (i + 1), fun σ' H' p' => ⟨x.cps.size - (i + 1), by omega, rfl, hl, p'⟩, fun y H' z => ?_⟩
    obtain ⟨rfl, c, hc, rfl⟩ := z
    exact hs i c σ _ (by rw [Array.getElem?_toList]; exact hc) p
  · have e : i = x.cps.size := by omega
    subst e
    exact .inl ⟨Nat.le_refl _, hd σ H p⟩
/-- one sign more: words told so far, whether a word of letters is open -/
def tstep (s : List (List Nat) × Bool) (c : Nat) : List (List Nat) × Bool :=
  if (ltr c && s.2) = true then (s.1.dropLast ++ [(s.1.getLast?.getD []) ++ [c]], true) else if bl c = true then (s.1, ltr c) else (s.1 ++ [[c]], ltr c)
theorem tstep_more {ws : List (List Nat)} {u : List Nat} {c : Nat} (h : ltr c = true) : tstep (ws ++ [u], true) c = (ws ++ [u ++ [c]], true) := by
  unfold tstep
  rw [h]
  simp
theorem tstep_new {ws : List (List Nat)} {q : Bool} {c : Nat} (h : (ltr c && q) = false) (b : bl c = false) : tstep (ws, q) c = (ws ++ [[c]], ltr c) := by
  unfold tstep
  rw [if_neg (by rw [h]; decide), if_neg (by rw [b]; decide)]
theorem tstep_bl {ws : List (List Nat)} {q : Bool} {c : Nat} (b : bl c = true) : tstep (ws, q) c = (ws, false) := by
  have h := bl_ltr b
  unfold tstep
  rw [h, if_neg (by simp), if_pos b]
theorem tfold_name {ws : List (List Nat)} : ∀ {w u : List Nat}, (∀ c ∈ w, ltr c = true) → w.foldl tstep (ws ++ [u], true) = (ws ++ [u ++ w], true)
  | [], u, _ => by simp
  | c :: w, u, h => by
    rw [List.foldl_cons, tstep_more (h c (List.mem_cons_self ..)), tfold_name (fun d hd => h d (List.mem_cons_of_mem _ hd)), List.append_assoc]
    rfl
theorem tfold : ∀ {j : Nat} {d : PyData}, kindW j d = true → ∀ ws, ∃ q, (ktL j d).foldl tstep (ws, false) = (ws ++ toks j d, q)
  | 0, _, h => by cases h
  | j + 1, d, h => by
    intro ws
    rcases kd_cases h with ⟨z, rfl, h1, _, hl⟩ | ⟨s, a, b, rfl, hs, _, ha, hb⟩
    · rw [kt_str]
      show ∃ q, _ = (ws ++ [z.cps.toList], q)
      cases hz : z.cps.toList with
      | nil =>
        have : z.length = 0 := by
          show z.cps.toList.length = 0
          rw [hz]
          rfl
        omega
      | cons c w =>
        rw [hz] at hl
        have hc := hl c (List.mem_cons_self ..)
        rw [List.foldl_cons, tstep_new (by simp) (ltr_bl hc), hc, tfold_name (fun d hd => hl d (List.mem_cons_of_mem _ hd))]
        exact ⟨true, rfl⟩
    · have n40 : ltr 40 = false := by decide +kernel
      have b40 : bl 40 = false := by decide +kernel
      have n41 : ltr 41 = false := by decide +kernel
      have b41 : bl 41 = false := by decide +kernel
      have b32 : bl 32 = true := by decide +kernel
      have ns : ltr s = false := by rcases hs with rfl | rfl <;> decide +kernel
      have bs : bl s = false := by rcases hs with rfl | rfl <;> decide +kernel
      rw [kt_tup]
      show ∃ q, (40 :: ([s] ++ 32 :: (ktL j a ++ 32 :: (ktL j b ++ [41])))).foldl tstep (ws, false) = _
      rw [List.foldl_cons, tstep_new (by rw [n40]; rfl) b40, n40, List.foldl_append, show [s].foldl tstep (ws ++ [[40]], false) = (ws ++ [[40]] ++ [[s]], false) from by rw [List.foldl_cons, List.foldl_nil, tstep_new (by rw [ns]; rfl) bs, ns], List.foldl_cons, tstep_bl b32, List.foldl_append]
      obtain ⟨q1, e1⟩ := tfold ha (ws ++ [[40]] ++ [[s]])
      rw [e1, List.foldl_cons, tstep_bl b32, List.foldl_append]
      obtain ⟨q2, e2⟩ := tfold hb (ws ++ [[40]] ++ [[s]] ++ toks j a)
      rw [e2, List.foldl_cons, List.foldl_nil, tstep_new (by rw [n41]; rfl) b41]
      refine ⟨ltr 41, ?_⟩
      show _ = (ws ++ ([40] :: [s] :: (toks j a ++ (toks j b ++ [[41]]))), _)
      simp
def vW (w : List Nat) : V := .str ⟨w.toArray⟩
def spTokens (K : PySem.W.Frag) : Sp := fun vs H Q _ => ∃ (x : Str), vs = [.str x] ∧ x.length ≤ 1000 ∧ ∀ (q : Addr) (H' : Hp), H' q = some (.lst ((x.cps.toList.foldl tstep ([], false)).1.map vW)) → Same H H' → Q (.ref q) H'
/-- a state of the walk: words are none empty, an open word is there -/
structure TSt (s : List (List Nat) × Bool) (n : Nat) : Prop where
  op : s.2 = true → ∃ ws u, s.1 = ws ++ [u]
  len : s.1.length ≤ n
  wl : ∀ w ∈ s.1, w.length ≤ n
theorem TSt.step {s : List (List Nat) × Bool} {n c : Nat} (h : TSt s n) : TSt (tstep s c) (n + 1) := by
  obtain ⟨ws, q⟩ := s
  cases hq : (ltr c && q) with
  | true =>
    simp only [Bool.and_eq_true] at hq
    obtain ⟨hl, rfl⟩ := hq
    obtain ⟨us, u, e⟩ := h.op rfl
    dsimp only at e
    subst e
    rw [tstep_more hl]
    refine ⟨fun _ => ⟨us, _, rfl⟩, ?_, ?_⟩
    · have := h.len
      simp only [List.length_append, List.length_cons, List.length_nil] at this ⊢
      omega
    · intro w hw
      rcases List.mem_append.mp hw with hw | hw
      · have := h.wl w (List.mem_append_left _ hw)
        omega
      · have e : w = u ++ [c] := by simpa using hw
        have := h.wl u (by simp)
        rw [e, List.length_append]
        show u.length + 1 ≤ n + 1
        omega
  | false =>
    cases hb : bl c with
    | true =>
      rw [tstep_bl hb]
      exact ⟨(fun z => nomatch z), Nat.le_succ_of_le h.len, fun w hw => Nat.le_succ_of_le (h.wl w hw)⟩
    | false =>
      rw [tstep_new hq hb]
      refine ⟨fun _ => ⟨ws, [c], rfl⟩, ?_, ?_⟩
      · have := h.len
        rw [List.length_append]
        show ws.length + 1 ≤ n + 1
        exact Nat.succ_le_succ this
      · intro w hw
        rcases List.mem_append.mp hw with hw | hw
        · exact Nat.le_succ_of_le (h.wl w hw)
        · have e : w = [c] := by simpa using hw
          rw [e]
          show 1 ≤ n + 1
          omega
theorem tstep_snd (s : List (List Nat) × Bool) (c : Nat) : (tstep s c).2 = ltr c := by
  obtain ⟨ws, q⟩ := s
  cases hq : (ltr c && q) with
  | true =>
    have e : ltr c = true := by
      simp only [Bool.and_eq_true] at hq
      exact hq.1
    unfold tstep
    rw [if_pos hq, e]
  | false =>
    cases hb : bl c with
    | true => rw [tstep_bl hb, bl_ltr hb]
    | false => rw [tstep_new hq hb]
theorem ix_last0 {α : Type} (l : List α) (x : α) : ixN (l ++ [x]).length (-1) = some l.length := by
  rw [List.length_append]
  show ixN (l.length + 1) (-1) = _
  unfold ixN
  rw [if_neg (by omega), if_pos (by omega)]
  congr 1
  omega
theorem at_last0 {α : Type} (l : List α) (x : α) : atI (l ++ [x]) (-1) = some x := by
  unfold atI
  rw [ix_last0]
  show (l ++ [x])[l.length]? = some x
  rw [List.getElem?_append_right (Nat.le_refl _), Nat.sub_self]
  rfl
theorem set_last0 {α : Type} (l : List α) (x y : α) : (l ++ [x]).set l.length y = l ++ [y] := by
  rw [List.set_append_right _ _ (Nat.le_refl _), Nat.sub_self]
  rfl
end Ow

namespace Ow
open PySem PySem.Spec PyProof.Rows L2
theorem glue_signs : ∀ (bs : List Nat) (a : Array Nat), ((bs.map fun c => (⟨#[c]⟩ : Str)).foldl (fun acc p => acc ++ (("" : Str)).cps ++ p.cps) a).toList = a.toList ++ bs
  | [], a => by simp
  | c :: bs, a => by
    rw [List.map_cons, List.foldl_cons, glue_signs bs]
    have e : (("" : Str)).cps = #[] := rfl
    simp [e]
theorem join_signs (bs : List Nat) : (Txt.join "" (bs.map fun c => (⟨#[c]⟩ : Str))).cps.toList = bs := by
  cases bs with
  | nil => rfl
  | cons c bs =>
    have e := glue_signs bs #[c]
    show (List.foldl _ (⟨#[c]⟩ : Str).cps (bs.map fun c => (⟨#[c]⟩ : Str))).toList = _
    exact e
theorem TSt.fold : ∀ {l : List Nat} {s : List (List Nat) × Bool} {n : Nat}, TSt s n → TSt (l.foldl tstep s) (n + l.length)
  | [], _, _, h => h
  | c :: l, s, n, h => by
    have := TSt.fold (l := l) (h.step (c := c))
    rw [List.foldl_cons, List.length_cons, show n + (l.length + 1) = n + 1 + l.length by omega]
    exact this
theorem toks_len {j : Nat} (hj : j ≤ 6) {d : PyData} (h : kindW j d = true) : (toks j d).length ≤ 832 ∧ ∀ w ∈ toks j d, w.length ≤ 832 := by
  obtain ⟨q, e⟩ := tfold h []
  have st := TSt.fold (l := ktL j d) (s := ([], false)) (n := 0) ⟨(fun z => nomatch z), Nat.le_refl _, fun w hw => nomatch hw⟩
  rw [e, List.nil_append] at st
  have := kt_small hj h
  exact ⟨Nat.le_trans st.len (by omega), fun w hw => Nat.le_trans (st.wl w hw) (by omega)⟩
def spDressed (K : PySem.W.Frag) : Sp := fun vs H Q _ => ∃ (p c : Addr) (j : Nat) (d : PyData), vs = [.ref p, .str ⟨(ktL j d).toArray⟩] ∧ Pen H p c ∧ j ≤ 6 ∧ kindW j d = true ∧
  ∀ (y : Str) (t : List Nat) (H' : Hp), Dr false (toks j d) y.cps.toList t → (∀ c ∈ t, bl c = true) → y.length ≤ 1000000 → Pen H' p c → Kp p H H' → Q (.str y) H'
theorem blank_at {n : Int} (h0 : 0 ≤ n) (h1 : n < 2) : ∃ c : Nat, atI blanks.cps.toList n = some c ∧ bl c = true := by
  have : n = 0 ∨ n = 1 := by omega
  rcases this with rfl | rfl
  · exact ⟨32, rfl, by decide +kernel⟩
  · exact ⟨10, rfl, by decide +kernel⟩
theorem blank_cut {n : Int} (h0 : 0 ≤ n) (h1 : n < 3) : (∀ c ∈ (cutS blanks none (some n)).cps.toList, bl c = true) ∧ (cutS blanks none (some n)).length ≤ 2 := by
  have : n = 0 ∨ n = 1 ∨ n = 2 := by omega
  rcases this with rfl | rfl | rfl <;> refine ⟨?_, ?_⟩ <;> decide +kernel
theorem at_zeroN (c : Nat) (w : List Nat) : atI (c :: w) 0 = some c := by
  unfold atI ixN
  rw [if_pos (by omega), if_pos (by show (0 : Int) < ((w.length + 1 : Nat) : Int); omega)]
  rfl
theorem last_ch {l : Str} (h : l.cps.toList ≠ []) : ∃ c, atI l.cps.toList (-1) = some c ∧ ltr c = lastL l.cps.toList := by
  generalize l.cps.toList = w at h
  obtain ⟨ws, u, rfl⟩ : ∃ ws u, w = ws ++ [u] := ⟨w.dropLast, w.getLast h, (List.dropLast_concat_getLast h).symm⟩
  refine ⟨u, at_last0 _ _, ?_⟩
  unfold lastL
  rw [List.getLast?_concat]
theorem first_ch {w : List Nat} (h : w ≠ []) : ∃ c, atI (⟨w.toArray⟩ : Str).cps.toList 0 = some c ∧ ltr c = firstL w := by
  cases w with
  | nil => exact absurd rfl h
  | cons c w => exact ⟨c, at_zeroN c w, rfl⟩
end Ow

namespace Ow
open PySem PySem.Spec PyProof.Rows L2
theorem Dr.blank {p q : Bool} {ws : List (List Nat)} {r t : List Nat} (h : Dr p ws r t) (hne : ws ≠ []) : Dr q ws (32 :: r) t := by
  cases h with
  | nil => exact absurd rfl hne
  | @cons _ w b r t ws hb hs h =>
    exact Dr.cons (b := 32 :: b) (fun c hc => by
      rcases List.mem_cons.mp hc with rfl | hc
      · decide +kernel
      · exact hb c hc) (fun _ _ => by simp) h
theorem toks_some {j : Nat} {d : PyData} (h : kindW j d = true) : toks j d ≠ [] := by
  cases j with
  | zero => cases h
  | succ j =>
    rcases kd_cases h with ⟨z, rfl, _⟩ | ⟨s, a, b, rfl, _⟩ <;> simp [toks]
theorem kt_dr : ∀ {j : Nat} {d : PyData} (h : kindW j d = true) {ws : List (List Nat)} {r t : List Nat}, (∀ q, Dr q ws r t) → Dr false (toks j d ++ ws) (ktL j d ++ r) t
  | 0, _, h, _, _, _, _ => by cases h
  | j + 1, d, h, ws, r, t, hD => by
    rcases kd_cases h with ⟨z, rfl, _⟩ | ⟨s, a, b, rfl, hs, _, ha, hb⟩
    · exact Dr.cons (b := []) (w := z.cps.toList) (fun c hc => nomatch hc) (fun z => nomatch z) (hD _)
    · have e : toks (j + 1) (.tuple [.str ⟨#[s]⟩, a, b]) ++ ws = [40] :: [s] :: (toks j a ++ (toks j b ++ ([41] :: ws))) := by
        show ([40] :: [s] :: (toks j a ++ (toks j b ++ [[41]]))) ++ ws = _
        simp
      have e2 : ktL (j + 1) (.tuple [.str ⟨#[s]⟩, a, b]) ++ r = [] ++ ([40] ++ ([] ++ ([s] ++ (32 :: (ktL j a ++ (32 :: (ktL j b ++ (41 :: r)))))))) := by
        rw [kt_tup]
        show (40 :: ([s] ++ 32 :: (ktL j a ++ 32 :: (ktL j b ++ [41])))) ++ r = _
        simp
      rw [e, e2]
      have d4 : ∀ q, Dr q ([41] :: ws) (41 :: r) t := fun q => Dr.cons (b := []) (w := [41]) (fun c hc => nomatch hc) (fun _ z => absurd z (by decide +kernel)) (hD _)
      have d3 := kt_dr hb d4
      have d2 : ∀ q, Dr q (toks j b ++ ([41] :: ws)) (32 :: (ktL j b ++ (41 :: r))) t := fun q => d3.blank (by simp)
      have d1 := kt_dr ha d2
      refine Dr.cons (fun c hc => nomatch hc) (fun z => nomatch z) (Dr.cons (fun c hc => nomatch hc) (fun z => absurd z (by decide +kernel)) (d1.blank ?_))
      simp
theorem text_dr {j : Nat} {d : PyData} (h : kindW j d = true) : Dr false (toks j d) (ktL j d) [] := by
  have := kt_dr h (ws := []) (r := []) (t := []) fun q => Dr.nil
  rw [List.append_nil, List.append_nil] at this
  exact this
theorem head_bl {t : List Nat} (h : ∀ c ∈ t, bl c = true) : headNo t := fun c t' e => bl_ltr (h c (by rw [e]; exact List.mem_cons_self ..))
theorem dr_wr {j : Nat} {d : PyData} (h : kindW j d = true) {r t : List Nat} (hD : Dr false (toks j d) r t) (ht : ∀ c ∈ t, bl c = true) : Wr r d t := by
  have hD' : Dr false (toks j d ++ []) r t := by rw [List.append_nil]; exact hD
  obtain ⟨q, r', w, e⟩ := Dr.wr h hD' (fun w hw => nomatch hw) (head_bl ht)
  cases e
  exact w
theorem kind_dp {K : PySem.W.Frag} {N : Addr → Prop} {H : Hp} : ∀ {j : Nat} {d : PyData} {v : V}, kindW j d = true → Da K N H v d → Dp K H v d
  | 0, _, _, h, _ => by cases h
  | j + 1, d, v, h, hd => by
    rcases kd_cases h with ⟨z, rfl, _⟩ | ⟨s, a, b, rfl, _, _, ha, hb⟩
    · cases hd.strInv
      exact .str z
    · obtain ⟨t, vs, va, vb, rfl, hT, ds, da, db⟩ := hd.tup3
      cases ds.strInv
      exact .tup hT (.cons (.str _) (.cons (kind_dp ha da) (.cons (kind_dp hb db) .nil)))
theorem strOk_of {z : Str} (h : ∀ c ∈ z.cps.toList, c < 1114112) : PyData.strOk z = true := by
  unfold PyData.strOk
  rw [← Array.all_toList, List.all_eq_true]
  intro c hc
  exact decide_eq_true (h c hc)
theorem ne_selfV (v : V) : (!decide (v = v)) = false := by simp
theorem kind_lay : ∀ {j : Nat} {d : PyData}, kindW j d = true → d.canLay0 = true ∧ d.depth ≤ j
  | 0, _, h => by cases h
  | j + 1, d, h => by
    rcases kd_cases h with ⟨z, rfl, _, _, hl⟩ | ⟨s, a, b, rfl, hs, _, ha, hb⟩
    · have o : PyData.strOk z = true := strOk_of fun c hc => by
        have := (ltr_small (hl c hc)).2
        omega
      exact ⟨by simp [PyData.canLay0, o], by simp [PyData.depth]⟩
    · obtain ⟨a1, a2⟩ := kind_lay ha
      obtain ⟨b1, b2⟩ := kind_lay hb
      have o : PyData.strOk ⟨#[s]⟩ = true := by rcases hs with rfl | rfl <;> decide +kernel
      refine ⟨?_, ?_⟩
      · simp [PyData.canLay0, PyData.canLayAll0, a1, b1, o]
      · simp only [PyData.depth, PyData.depthAll]
        omega
theorem kind_shaped {j : Nat} (hj : j ≤ 6) {d : PyData} (h : kindW j d = true) : SeqAt.shaped d = true := by
  obtain ⟨h1, h2⟩ := kind_lay h
  unfold SeqAt.shaped
  rw [h1, decide_eq_true (show d.depth ≤ 64 by omega)]
  rfl
theorem kind_eqv : ∀ {j : Nat} {d : PyData}, kindW j d = true → d.eqv d = true
  | 0, _, h => by cases h
  | j + 1, d, h => by
    rcases kd_cases h with ⟨z, rfl, _⟩ | ⟨s, a, b, rfl, _, _, ha, hb⟩
    · simp [PyData.eqv]
    · simp [PyData.eqv, PyData.eqvAll, kind_eqv ha, kind_eqv hb]
end Ow

/-! Terms with their texts, their tokens, how many parts they have. -/
namespace Ow
open PySem PySem.Spec PyProof.Rows L2
abbrev nmL (x : Str) : List Nat := x.cps.toList
/-- names, each behind a blank -/
def blN (xs : List Str) : List Nat := xs.flatMap fun x => 32 :: nmL x
mutual
inductive TT : Nat → PyData → List Nat → List (List Nat) → Nat → Prop
  | name {n : Nat} {x : Str} (h : isNameD (.str x) = true) : TT (n + 1) (.str x) (nmL x) [nmL x] 1
  | df {n : Nat} {x : Str} (h : isNameD (.str x) = true) : TT (n + 1) (.tuple [.str ⟨#[64]⟩, .str x]) (64 :: nmL x) [[64], nmL x] 1
  | lam {n m : Nat} {x : Str} {k t : PyData} {tx : List Nat} {tk : List (List Nat)} (h : isNameD (.str x) = true) (hk : kindW 6 k = true) (ht : TT n t tx tk m) :
      TT (n + 1) (.tuple [.str ⟨#[94]⟩, .str x, k, t]) (40 :: 94 :: 32 :: (nmL x ++ 32 :: (ktL 6 k ++ 32 :: (tx ++ [41])))) ([40] :: [94] :: nmL x :: (toks 6 k ++ (tk ++ [[41]]))) (1 + m)
  | two {n m m' s : Nat} {t u : PyData} {tx ux : List Nat} {tk uk : List (List Nat)} (hs : s = 33 ∨ s = 38 ∨ s = 45) (ht : TT n t tx tk m) (hu : TT n u ux uk m') :
      TT (n + 1) (.tuple [.str ⟨#[s]⟩, t, u]) (40 :: s :: 32 :: (tx ++ 32 :: (ux ++ [41]))) ([40] :: [s] :: (tk ++ (uk ++ [[41]]))) (1 + m + m')
  | five {n m m' s : Nat} {x y : Str} {t u : PyData} {tx ux : List Nat} {tk uk : List (List Nat)} (hs : s = 47 ∨ s = 43) (hx : isNameD (.str x) = true) (hy : isNameD (.str y) = true) (hne : x ≠ y) (ht : TT n t tx tk m) (hu : TT n u ux uk m') :
      TT (n + 1) (.tuple [.str ⟨#[s]⟩, t, .str x, .str y, u]) (40 :: s :: 32 :: (tx ++ 32 :: (nmL x ++ 32 :: (nmL y ++ 32 :: (ux ++ [41]))))) ([40] :: [s] :: (tk ++ (nmL x :: nmL y :: (uk ++ [[41]])))) (1 + m + m')
  | mk {n m : Nat} {c : Str} {ts : List PyData} {tx : List Nat} {tk : List (List Nat)} (h : isNameD (.str c) = true) (hl : ts.length ≤ 4) (ha : TS n ts tx tk m) :
      TT (n + 1) (.tuple [.str ⟨#[35]⟩, .str c, .tuple ts]) (40 :: 35 :: 32 :: (nmL c ++ (tx ++ [41]))) ([40] :: [35] :: nmL c :: (tk ++ [[41]])) (1 + m)
  | ch {n m m' : Nat} {t : PyData} {cs : List PyData} {tx cx : List Nat} {tk ck : List (List Nat)} (ht : TT n t tx tk m) (h1 : 1 ≤ cs.length) (h6 : cs.length ≤ 6) (ha : TC n cs cx ck m') :
      TT (n + 1) (.tuple [.str ⟨#[63]⟩, t, .tuple cs]) (40 :: 63 :: 32 :: (tx ++ (cx ++ [41]))) ([40] :: [63] :: (tk ++ (ck ++ [[41]]))) (1 + m + m')
inductive TS : Nat → List PyData → List Nat → List (List Nat) → Nat → Prop
  | nil {n : Nat} : TS n [] [] [] 0
  | cons {n m m' : Nat} {t : PyData} {ts : List PyData} {tx sx : List Nat} {tk sk : List (List Nat)} (h : TT n t tx tk m) (r : TS n ts sx sk m') : TS n (t :: ts) (32 :: (tx ++ sx)) (tk ++ sk) (m + m')
inductive TC : Nat → List PyData → List Nat → List (List Nat) → Nat → Prop
  | nil {n : Nat} : TC n [] [] [] 0
  | cons {n m m' : Nat} {c : Str} {xs : List Str} {u : PyData} {cs : List PyData} {ux cx : List Nat} {uk ck : List (List Nat)} (hc : isNameD (.str c) = true) (hl : xs.length ≤ 4) (hx : ∀ x ∈ xs, isNameD (.str x) = true) (hu : unlikeN xs = true) (h : TT n u ux uk m) (r : TC n cs cx ck m') :
      TC n (.tuple [.str c, .tuple (xs.map strD), u] :: cs) (32 :: 40 :: (nmL c ++ (blN xs ++ 32 :: 58 :: 32 :: (ux ++ 41 :: cx)))) ([40] :: nmL c :: (xs.map nmL ++ [58] :: (uk ++ [41] :: ck))) (m + m')
end
theorem nm_cases {z : Str} (h : isNameD (.str z) = true) : 1 ≤ z.length ∧ z.length ≤ 8 ∧ ∀ c ∈ nmL z, ltr c = true := by
  simp only [isNameD, Bool.and_eq_true, decide_eq_true_eq, List.all_eq_true] at h
  exact ⟨h.1.1, h.1.2, fun c hc => decide_eq_true (h.2 c hc)⟩
theorem nm_name {x : Str} (h : Nm x) : isNameD (.str x) = true := nm_kind h 0
mutual
theorem TT.up : ∀ {n : Nat} {d : PyData} {tx : List Nat} {tk : List (List Nat)} {m : Nat}, TT n d tx tk m → ∀ {k : Nat}, n ≤ k → TT k d tx tk m
  | _, _, _, _, _, .name h, k, hk => by
    obtain ⟨k, rfl⟩ : ∃ j, k = j + 1 := ⟨k - 1, by omega⟩
    exact .name h
  | _, _, _, _, _, .df h, k, hk => by
    obtain ⟨k, rfl⟩ : ∃ j, k = j + 1 := ⟨k - 1, by omega⟩
    exact .df h
  | _, _, _, _, _, .lam h h2 ht, k, hk => by
    obtain ⟨k, rfl⟩ : ∃ j, k = j + 1 := ⟨k - 1, by omega⟩
    exact .lam h h2 (TT.up ht (by omega))
  | _, _, _, _, _, .two hs ht hu, k, hk => by
    obtain ⟨k, rfl⟩ : ∃ j, k = j + 1 := ⟨k - 1, by omega⟩
    exact .two hs (TT.up ht (by omega)) (TT.up hu (by omega))
  | _, _, _, _, _, .five hs hx hy hne ht hu, k, hk => by
    obtain ⟨k, rfl⟩ : ∃ j, k = j + 1 := ⟨k - 1, by omega⟩
    exact .five hs hx hy hne (TT.up ht (by omega)) (TT.up hu (by omega))
  | _, _, _, _, _, .mk h hl ha, k, hk => by
    obtain ⟨k, rfl⟩ : ∃ j, k = j + 1 := ⟨k - 1, by omega⟩
    exact .mk h hl (TS.up ha (by omega))
  | _, _, _, _, _, .ch ht h1 h6 ha, k, hk => by
    obtain ⟨k, rfl⟩ : ∃ j, k = j + 1 := ⟨k - 1, by omega⟩
    exact .ch (TT.up ht (by omega)) h1 h6 (TC.up ha (by omega))
theorem TS.up : ∀ {n : Nat} {d : List PyData} {tx : List Nat} {tk : List (List Nat)} {m : Nat}, TS n d tx tk m → ∀ {k : Nat}, n ≤ k → TS k d tx tk m
  | _, _, _, _, _, .nil, k, hk => .nil
  | _, _, _, _, _, .cons h r, k, hk => .cons (TT.up h hk) (TS.up r hk)
theorem TC.up : ∀ {n : Nat} {d : List PyData} {tx : List Nat} {tk : List (List Nat)} {m : Nat}, TC n d tx tk m → ∀ {k : Nat}, n ≤ k → TC k d tx tk m
  | _, _, _, _, _, .nil, k, hk => .nil
  | _, _, _, _, _, .cons hc hl hx hu h r, k, hk => .cons hc hl hx hu (TT.up h hk) (TC.up r hk)
end
/-! ### a text, its tokens -/
def Tkn (w : List Nat) : Prop := ∃ c w', w = c :: w' ∧ bl c = false
theorem Tkn.ne {w : List Nat} (h : Tkn w) : w ≠ [] := by
  obtain ⟨c, w', rfl, _⟩ := h
  simp
structure Tq (p : Bool) (l : List Nat) (ks : List (List Nat)) : Prop where
  fo : ∀ ws, ∃ q, l.foldl tstep (ws, p) = (ws ++ ks, q)
  dr : ∀ ws r t, (∀ q, Dr q ws r t) → Dr p (ks ++ ws) (l ++ r) t
  ne : ∀ w ∈ ks, Tkn w
section
variable {p : Bool} {l l' : List Nat} {ks ks' : List (List Nat)} {c : Nat}
theorem Tq.nil : Tq p [] [] := ⟨fun ws => ⟨p, by simp⟩, fun ws r t h => h p, fun w hw => nomatch hw⟩
theorem Tq.app (h : Tq p l ks) (g : ∀ q, Tq q l' ks') : Tq p (l ++ l') (ks ++ ks') := by
  refine ⟨fun ws => ?_, fun ws r t k => ?_, fun w hw => ?_⟩
  · obtain ⟨q, e⟩ := h.fo ws
    obtain ⟨q2, e2⟩ := (g q).fo (ws ++ ks)
    exact ⟨q2, by rw [List.foldl_append, e, e2, List.append_assoc]⟩
  · rw [List.append_assoc, List.append_assoc]
    exact h.dr _ _ _ fun q => (g q).dr _ _ _ k
  · rcases List.mem_append.mp hw with hw | hw
    · exact h.ne w hw
    · exact (g p).ne w hw
/-- a sign that is no letter -/
theorem Tq.sign (h1 : ltr c = false) (h2 : bl c = false) (g : Tq false l ks) : Tq p (c :: l) ([c] :: ks) := by
  refine ⟨fun ws => ?_, fun ws r t k => ?_, fun w hw => ?_⟩
  · obtain ⟨q, e⟩ := g.fo (ws ++ [[c]])
    refine ⟨q, ?_⟩
    rw [List.foldl_cons, tstep_new (by rw [h1]; rfl) h2, h1, e, List.append_assoc]
    rfl
  · have e : lastL [c] = false := h1
    exact Dr.cons (b := []) (w := [c]) (fun c hc => nomatch hc) (fun _ z => by
      have z' : ltr c = true := z
      rw [h1] at z'
      cases z') (e ▸ g.dr _ _ _ k)
  · rcases List.mem_cons.mp hw with rfl | hw
    · exact ⟨c, [], rfl, h2⟩
    · exact g.ne w hw
theorem Tq.blank (h : Tq false l ks) (hne : ks ≠ []) : Tq p (32 :: l) ks := by
  refine ⟨fun ws => ?_, fun ws r t k => ?_, h.ne⟩
  · obtain ⟨q, e⟩ := h.fo ws
    exact ⟨q, by rw [List.foldl_cons, tstep_bl (by decide +kernel), e]⟩
  · exact (h.dr ws r t k).blank (by simp [hne])
theorem Tq.name {x : Str} (h : isNameD (.str x) = true) : Tq false (nmL x) [nmL x] := by
  obtain ⟨h1, h8, hl⟩ := nm_cases h
  obtain ⟨c, w, e⟩ : ∃ c w, nmL x = c :: w := by
    cases e : nmL x with
    | nil =>
      have : (nmL x).length = x.length := rfl
      rw [e] at this
      have : x.length = 0 := this.symm
      omega
    | cons c w => exact ⟨c, w, rfl⟩
  rw [e] at hl ⊢
  have hc := hl c (List.mem_cons_self ..)
  refine ⟨fun ws => ?_, fun ws r t k => ?_, fun w' hw => ?_⟩
  · refine ⟨true, ?_⟩
    rw [List.foldl_cons, tstep_new (by simp) (ltr_bl hc), hc, tfold_name (fun d hd => hl d (List.mem_cons_of_mem _ hd))]
    rfl
  · exact Dr.cons (b := []) (w := c :: w) (fun c hc => nomatch hc) (fun z => nomatch z) (k _)
  · rw [List.mem_singleton.mp hw]
    exact ⟨c, w, rfl, ltr_bl hc⟩
end
theorem toks_tkn : ∀ {j : Nat} {d : PyData}, kindW j d = true → ∀ w ∈ toks j d, Tkn w
  | 0, _, h => by cases h
  | j + 1, d, h => by
    rcases kd_cases h with ⟨z, rfl, h1, h8, hl⟩ | ⟨s, a, b, rfl, hs, _, ha, hb⟩
    · have q : isNameD (.str z) = true := h
      exact (Tq.name q).ne
    · intro w hw
      have q : w = [40] ∨ w = [s] ∨ w ∈ toks j a ∨ w ∈ toks j b ∨ w = [41] := by simpa [toks] using hw
      rcases q with rfl | rfl | q | q | rfl
      · exact ⟨40, [], rfl, by decide +kernel⟩
      · exact ⟨s, [], rfl, by rcases hs with rfl | rfl <;> decide +kernel⟩
      · exact toks_tkn ha w q
      · exact toks_tkn hb w q
      · exact ⟨41, [], rfl, by decide +kernel⟩
theorem Tq.kind {j : Nat} {d : PyData} (h : kindW j d = true) : Tq false (ktL j d) (toks j d) :=
  ⟨tfold h, fun ws r t k => kt_dr h k, toks_tkn h⟩
theorem Tq.one {p : Bool} {c : Nat} (h1 : ltr c = false) (h2 : bl c = false) : Tq p [c] [[c]] := Tq.sign h1 h2 Tq.nil
theorem tq_names : ∀ {xs : List Str}, (∀ x ∈ xs, isNameD (.str x) = true) → ∀ q, Tq q (blN xs) (xs.map nmL)
  | [], _, q => Tq.nil
  | x :: xs, h, q => by
    show Tq q (32 :: (nmL x) ++ blN xs) ([nmL x] ++ xs.map nmL)
    exact Tq.app (Tq.blank (Tq.name (h x (List.mem_cons_self ..))) (by simp)) (tq_names fun y hy => h y (List.mem_cons_of_mem _ hy))
theorem s40 : ltr 40 = false ∧ bl 40 = false := by decide +kernel
theorem s41 : ltr 41 = false ∧ bl 41 = false := by decide +kernel
theorem s58 : ltr 58 = false ∧ bl 58 = false := by decide +kernel
theorem s64 : ltr 64 = false ∧ bl 64 = false := by decide +kernel
abbrev termS : List Nat := [94, 33, 38, 47, 35, 63, 43, 45]
theorem sT : ∀ s ∈ termS, ltr s = false ∧ bl s = false := by decide +kernel
theorem two_mem {s : Nat} (h : s = 33 ∨ s = 38 ∨ s = 45) : s ∈ termS := by rcases h with rfl | rfl | rfl <;> decide
theorem five_mem {s : Nat} (h : s = 47 ∨ s = 43) : s ∈ termS := by rcases h with rfl | rfl <;> decide
mutual
theorem TT.tq : ∀ {n : Nat} {d : PyData} {tx : List Nat} {tk : List (List Nat)} {m : Nat}, TT n d tx tk m → Tq false tx tk ∧ tk ≠ []
  | _, _, _, _, _, .name h => ⟨Tq.name h, by simp⟩
  | _, _, _, _, _, .df (x := x) h => ⟨Tq.sign s64.1 s64.2 (Tq.name h), by simp⟩
  | _, _, _, _, _, .lam (x := x) (k := k) h hk ht => by
    obtain ⟨h1, h2⟩ := TT.tq ht
    refine ⟨Tq.sign s40.1 s40.2 (Tq.sign (by decide +kernel) (by decide +kernel) ?_), by simp⟩
    show Tq _ ((32 :: nmL x) ++ ((32 :: ktL 6 k) ++ _)) ([nmL x] ++ (toks 6 k ++ _))
    exact Tq.app (Tq.blank (Tq.name h) (by simp)) fun _ => Tq.app (Tq.blank (Tq.kind hk) (toks_some hk)) fun _ => Tq.app (l := 32 :: _) (Tq.blank h1 h2) fun _ => Tq.one s41.1 s41.2
  | _, _, _, _, _, .two hs ht hu => by
    obtain ⟨h1, h2⟩ := TT.tq ht
    obtain ⟨g1, g2⟩ := TT.tq hu
    have sb := sT _ (two_mem hs)
    refine ⟨Tq.sign s40.1 s40.2 (Tq.sign sb.1 sb.2 ?_), by simp⟩
    exact Tq.app (l := 32 :: _) (Tq.blank h1 h2) fun _ => Tq.app (l := 32 :: _) (Tq.blank g1 g2) fun _ => Tq.one s41.1 s41.2
  | _, _, _, _, _, .five (x := x) (y := y) hs hx hy hne ht hu => by
    obtain ⟨h1, h2⟩ := TT.tq ht
    obtain ⟨g1, g2⟩ := TT.tq hu
    have sb := sT _ (five_mem hs)
    refine ⟨Tq.sign s40.1 s40.2 (Tq.sign sb.1 sb.2 ?_), by simp⟩
    refine Tq.app (l := 32 :: _) (Tq.blank h1 h2) fun _ => ?_
    show Tq _ ((32 :: nmL x) ++ ((32 :: nmL y) ++ _)) ([nmL x] ++ ([nmL y] ++ _))
    exact Tq.app (Tq.blank (Tq.name hx) (by simp)) fun _ => Tq.app (Tq.blank (Tq.name hy) (by simp)) fun _ => Tq.app (l := 32 :: _) (Tq.blank g1 g2) fun _ => Tq.one s41.1 s41.2
  | _, _, _, _, _, .mk (c := c) h hl ha => by
    have h1 := TS.tq ha
    refine ⟨Tq.sign s40.1 s40.2 (Tq.sign (by decide +kernel) (by decide +kernel) ?_), by simp⟩
    show Tq _ ((32 :: nmL c) ++ _) ([nmL c] ++ _)
    exact Tq.app (Tq.blank (Tq.name h) (by simp)) fun _ => Tq.app (h1 _) fun _ => Tq.one s41.1 s41.2
  | _, _, _, _, _, .ch ht _ _ ha => by
    obtain ⟨h1, h2⟩ := TT.tq ht
    have g1 := TC.tq ha
    refine ⟨Tq.sign s40.1 s40.2 (Tq.sign (by decide +kernel) (by decide +kernel) ?_), by simp⟩
    exact Tq.app (l := 32 :: _) (Tq.blank h1 h2) fun _ => Tq.app (g1 _) fun _ => Tq.one s41.1 s41.2
theorem TS.tq : ∀ {n : Nat} {d : List PyData} {tx : List Nat} {tk : List (List Nat)} {m : Nat}, TS n d tx tk m → ∀ q, Tq q tx tk
  | _, _, _, _, _, .nil => fun _ => Tq.nil
  | _, _, _, _, _, .cons h r => fun q => by
    obtain ⟨h1, h2⟩ := TT.tq h
    exact Tq.app (l := 32 :: _) (Tq.blank h1 h2) (TS.tq r)
theorem TC.tq : ∀ {n : Nat} {d : List PyData} {tx : List Nat} {tk : List (List Nat)} {m : Nat}, TC n d tx tk m → ∀ q, Tq q tx tk
  | _, _, _, _, _, .nil => fun _ => Tq.nil
  | _, _, _, _, _, .cons (c := c) (xs := xs) (ux := ux) (cx := cx) (uk := uk) (ck := ck) hc hl hx hu h r => fun q => by
    obtain ⟨h1, h2⟩ := TT.tq h
    have g := TC.tq r
    refine Tq.blank ?_ (by simp)
    refine Tq.sign s40.1 s40.2 ?_
    show Tq false (nmL c ++ _) ([nmL c] ++ _)
    exact Tq.app (Tq.name hc) fun _ => Tq.app (tq_names hx _) fun _ => Tq.blank (Tq.sign s58.1 s58.2 (Tq.app (l := 32 :: _) (Tq.blank h1 h2) fun _ => Tq.sign s41.1 s41.2 (g _))) (by simp)
end
/-! ### sizes -/
theorem fit_name {x : Str} (h : isNameD (.str x) = true) : Fit (13 * (nmL x).length) 0 (.str x) := by
  obtain ⟨h1, h8, hl⟩ := nm_cases h
  have e : (nmL x).length = x.length := rfl
  refine (fit_str (n := x.length) (fun c hc => ?_) (Nat.le_refl _)).le (by omega) (Nat.le_refl _)
  have := (ltr_small (hl c hc)).2
  omega
theorem fit_sgn {s : Nat} (h : s < 128) : Fit 13 0 (.str ⟨#[s]⟩) := fit_str (n := 1) (fun c hc => by
  have e : c = s := by simpa using hc
  omega) (Nat.le_refl _)
theorem kind_fitT : ∀ {j : Nat} {d : PyData}, kindW j d = true → Fit (40 * (ktL j d).length) j d
  | 0, _, h => by cases h
  | j + 1, d, h => by
    rcases kd_cases h with ⟨z, rfl, h1, h8, hl⟩ | ⟨s, a, b, rfl, hs, _, ha, hb⟩
    · have q : isNameD (.str z) = true := h
      refine (fit_name q).le ?_ (Nat.zero_le _)
      rw [kt_str]
      have e : z.cps.toList.length = (nmL z).length := rfl
      omega
    · have hsg : Fit 13 j (.str ⟨#[s]⟩) := (fit_sgn (by rcases hs with rfl | rfl <;> decide)).le (Nat.le_refl _) (Nat.zero_le _)
      refine (Fit.tup (.cons hsg (.cons (kind_fitT ha) (.cons (kind_fitT hb) (FitAll.nil (n := 0)))))).le ?_ (Nat.le_refl _)
      rw [kt_tup]
      have h1 : (⟨#[s]⟩ : Str).cps.toList.length = 1 := rfl
      simp only [List.length_cons, List.length_append, List.length_nil, h1]
      omega
theorem fit_namesT : ∀ {xs : List Str}, (∀ x ∈ xs, isNameD (.str x) = true) → FitAll (15 * (blN xs).length) 0 (xs.map strD)
  | [], _ => FitAll.nil.le (Nat.zero_le _) (Nat.le_refl _)
  | x :: xs, h => by
    have g := fit_namesT (xs := xs) fun y hy => h y (List.mem_cons_of_mem _ hy)
    refine (FitAll.cons (fit_name (h x (List.mem_cons_self ..))) g).le ?_ (Nat.le_refl _)
    show _ ≤ 15 * (32 :: (nmL x) ++ blN xs).length
    simp only [List.length_append, List.length_cons]
    omega
theorem sT_small : ∀ s ∈ termS, s < 128 := by decide
mutual
theorem TT.fit : ∀ {n : Nat} {d : PyData} {tx : List Nat} {tk : List (List Nat)} {m : Nat}, TT n d tx tk m → Fit (40 * tx.length) (3 * n + 6) d
  | _, _, _, _, _, .name h => (fit_name h).le (by omega) (Nat.zero_le _)
  | _, _, _, _, _, .df (x := x) h => by
    refine (Fit.tup (.cons (fit_sgn (by decide)) (.cons (fit_name h) (FitAll.nil (n := 0))))).le ?_ (by omega)
    simp only [List.length_cons]
    omega
  | _, _, _, _, _, .lam (n := n) (x := x) (k := k) h hk ht => by
    refine (Fit.tup (m := 3 * n + 6) (.cons ((fit_sgn (by decide)).le (Nat.le_refl _) (Nat.zero_le _)) (.cons ((fit_name h).le (Nat.le_refl _) (Nat.zero_le _)) (.cons ((kind_fitT hk).le (Nat.le_refl _) (by omega)) (.cons (TT.fit ht) (FitAll.nil (n := 0))))))).le ?_ (by omega)
    simp only [List.length_cons, List.length_append, List.length_nil]
    omega
  | _, _, _, _, _, .two (n := n) hs ht hu => by
    refine (Fit.tup (m := 3 * n + 6) (.cons ((fit_sgn (sT_small _ (two_mem hs))).le (Nat.le_refl _) (Nat.zero_le _)) (.cons (TT.fit ht) (.cons (TT.fit hu) (FitAll.nil (n := 0)))))).le ?_ (by omega)
    simp only [List.length_cons, List.length_append, List.length_nil]
    omega
  | _, _, _, _, _, .five (n := n) (x := x) (y := y) hs hx hy hne ht hu => by
    refine (Fit.tup (m := 3 * n + 6) (.cons ((fit_sgn (sT_small _ (five_mem hs))).le (Nat.le_refl _) (Nat.zero_le _)) (.cons (TT.fit ht) (.cons ((fit_name hx).le (Nat.le_refl _) (Nat.zero_le _)) (.cons ((fit_name hy).le (Nat.le_refl _) (Nat.zero_le _)) (.cons (TT.fit hu) (FitAll.nil (n := 0)))))))).le ?_ (by omega)
    simp only [List.length_cons, List.length_append, List.length_nil]
    omega
  | _, _, _, _, _, .mk (n := n) (c := c) h hl ha => by
    refine (Fit.tup (m := 3 * n + 7) (.cons ((fit_sgn (by decide)).le (Nat.le_refl _) (Nat.zero_le _)) (.cons ((fit_name h).le (Nat.le_refl _) (Nat.zero_le _)) (.cons (Fit.tup (TS.fit ha)) (FitAll.nil (n := 0)))))).le ?_ (by omega)
    simp only [List.length_cons, List.length_append, List.length_nil]
    omega
  | _, _, _, _, _, .ch (n := n) ht _ _ ha => by
    refine (Fit.tup (m := 3 * n + 8 + 1 - 1 + 1 - 1) (.cons ((fit_sgn (by decide)).le (Nat.le_refl _) (Nat.zero_le _)) (.cons ((TT.fit ht).le (Nat.le_refl _) (by omega)) (.cons ((Fit.tup (TC.fit ha)).le (Nat.le_refl _) (by omega)) (FitAll.nil (n := 0)))))).le ?_ (by omega)
    simp only [List.length_cons, List.length_append, List.length_nil]
    omega
theorem TS.fit : ∀ {n : Nat} {d : List PyData} {tx : List Nat} {tk : List (List Nat)} {m : Nat}, TS n d tx tk m → FitAll (40 * tx.length) (3 * n + 6) d
  | _, _, _, _, _, .nil => FitAll.nil.le (Nat.zero_le _) (Nat.le_refl _)
  | _, _, _, _, _, .cons h r => by
    refine (FitAll.cons (TT.fit h) (TS.fit r)).le ?_ (Nat.le_refl _)
    simp only [List.length_cons, List.length_append]
    omega
theorem TC.fit : ∀ {n : Nat} {d : List PyData} {tx : List Nat} {tk : List (List Nat)} {m : Nat}, TC n d tx tk m → FitAll (40 * tx.length) (3 * n + 7) d
  | _, _, _, _, _, .nil => FitAll.nil.le (Nat.zero_le _) (Nat.le_refl _)
  | _, _, _, _, _, .cons (n := n) (c := c) (xs := xs) hc hl hx hu h r => by
    refine (FitAll.cons (Fit.tup (m := 3 * n + 6) (.cons ((fit_name hc).le (Nat.le_refl _) (Nat.zero_le _)) (.cons ((Fit.tup (fit_namesT hx)).le (Nat.le_refl _) (by omega)) (.cons (TT.fit h) (FitAll.nil (n := 0)))))) (TC.fit r)).le ?_ (Nat.le_refl _)
    simp only [List.length_cons, List.length_append]
    omega
end
/-! ### how many parts -/
mutual
theorem TT.cnt : ∀ {n : Nat} {d : PyData} {tx : List Nat} {tk : List (List Nat)} {m : Nat}, TT n d tx tk m → 7 * m ≤ 4 * tk.length + 3
  | _, _, _, _, _, .name h => by simp only [List.length_cons, List.length_nil]; omega
  | _, _, _, _, _, .df h => by simp only [List.length_cons, List.length_nil]; omega
  | _, _, _, _, _, .lam h hk ht => by
    have := TT.cnt ht
    simp only [List.length_cons, List.length_append, List.length_nil]
    omega
  | _, _, _, _, _, .two hs ht hu => by
    have := TT.cnt ht
    have := TT.cnt hu
    simp only [List.length_cons, List.length_append, List.length_nil]
    omega
  | _, _, _, _, _, .five hs hx hy hne ht hu => by
    have := TT.cnt ht
    have := TT.cnt hu
    simp only [List.length_cons, List.length_append, List.length_nil]
    omega
  | _, _, _, _, _, .mk h hl ha => by
    have := TS.cnt ha
    simp only [List.length_cons, List.length_append, List.length_nil]
    omega
  | _, _, _, _, _, .ch ht _ _ ha => by
    have := TT.cnt ht
    have := TC.cnt ha
    simp only [List.length_cons, List.length_append, List.length_nil]
    omega
theorem TS.cnt : ∀ {n : Nat} {d : List PyData} {tx : List Nat} {tk : List (List Nat)} {m : Nat}, TS n d tx tk m → 7 * m ≤ 4 * tk.length + 3 * d.length
  | _, _, _, _, _, .nil => by simp
  | _, _, _, _, _, .cons h r => by
    have := TT.cnt h
    have := TS.cnt r
    simp only [List.length_cons, List.length_append]
    omega
theorem TC.cnt : ∀ {n : Nat} {d : List PyData} {tx : List Nat} {tk : List (List Nat)} {m : Nat}, TC n d tx tk m → 7 * m ≤ 4 * tk.length
  | _, _, _, _, _, .nil => by simp
  | _, _, _, _, _, .cons hc hl hx hu h r => by
    have := TT.cnt h
    have := TC.cnt r
    simp only [List.length_cons, List.length_append]
    omega
end
theorem all_names : ∀ {xs : List Str}, (∀ x ∈ xs, isNameD (.str x) = true) → (xs.map strD).all isNameD = true := fun {xs} h => by
  rw [List.all_map, List.all_eq_true]
  exact h
theorem TC.ok : ∀ {n : Nat} {d : List PyData} {tx : List Nat} {tk : List (List Nat)} {m : Nat}, TC n d tx tk m → d.all caseOk = true
  | _, _, _, _, _, .nil => rfl
  | _, _, _, _, _, .cons (c := c) (xs := xs) hc hl hx hu h r => by
    rw [List.all_cons, TC.ok r, Bool.and_true]
    show (isNameD (.str c) && decide ((xs.map strD).length ≤ 4) && (xs.map strD).all isNameD && unlikeN ((xs.map strD).map nmD)) = true
    rw [hc, all_names hx, nm_map, hu, List.length_map, decide_eq_true hl]
    rfl
theorem two_m3 {s : Nat} (h : s = 33 ∨ s = 38 ∨ s = 45) : (⟨#[s]⟩ : Str) ∈ m3 := by
  rcases h with rfl | rfl | rfl
  · exact List.mem_cons_self ..
  · exact List.mem_cons_of_mem _ (List.mem_cons_self ..)
  · exact List.mem_cons_of_mem _ (List.mem_cons_of_mem _ (List.mem_cons_self ..))
theorem five_m2 {s : Nat} (h : s = 47 ∨ s = 43) : (⟨#[s]⟩ : Str) ∈ m2 := by
  rcases h with rfl | rfl
  · exact List.mem_cons_self ..
  · exact List.mem_cons_of_mem _ (List.mem_cons_self ..)
theorem TT.formed : ∀ {n : Nat} {d : PyData} {tx : List Nat} {tk : List (List Nat)} {m : Nat}, TT n d tx tk m → formedD d = true
  | _, _, _, _, _, .name h => h
  | _, _, _, _, _, .df (x := x) h => (fd_at (.str x)).trans h
  | _, _, _, _, _, .lam (x := x) (k := k) (t := t) h hk _ => (fd_lam (.str x) k t).trans (by rw [h, hk]; rfl)
  | _, _, _, _, _, .two (t := t) (u := u) hs _ _ => fd_two (two_m3 hs) t u
  | _, _, _, _, _, .five (x := x) (y := y) (t := t) (u := u) hs hx hy hne _ _ => (fd_five (five_m2 hs) t (.str x) (.str y) u).trans (by
    show (decide (((([PyData.str x, .str y] : List PyData).length : Nat) : Int) ≤ 2) && ((isNameD (.str x) && (isNameD (.str y) && true)) && unlikeN [x, y])) = true
    rw [hx, hy, unlike2, decide_eq_false hne]
    rfl)
  | _, _, _, _, _, .mk (c := c) (ts := ts) h hl _ => (fd_mk (.str c) (.tuple ts)).trans (by
    rw [h, row_ok (by omega) (by omega)]
    rfl)
  | _, _, _, _, _, .ch (t := t) (cs := cs) _ h1 h6 ha => (fd_ch t (.tuple cs)).trans (by
    rw [row_ok (by omega) (by omega)]
    show (true && cs.all caseOk) = true
    rw [TC.ok ha]
    rfl)
theorem kids_chT (t : PyData) (cs : List PyData) : kids (.tuple [.str (sg "?"), t, .tuple cs]) = ([], t) :: cs.map caseD := by
  rw [kids_three, if_neg (by decide +kernel), if_pos rfl]
  rfl
theorem sized_eq {n : Nat} {d : PyData} (h : formedD d = true) : sizedD (n + 1) d = addO (some 1) (sumO ((kids d).map fun k => sizedD n k.2)) := by
  rw [sizedD, if_pos h]
mutual
theorem TT.sized : ∀ {n : Nat} {d : PyData} {tx : List Nat} {tk : List (List Nat)} {m : Nat}, TT n d tx tk m → sizedD n d = some m
  | _, _, _, _, _, .name h => sized_name h
  | _, _, _, _, _, .df (x := x) h => by
    rw [sized_eq (TT.formed (n := 1) (.df h))]
    rfl
  | _, _, _, _, _, .lam (n := n) (x := x) (k := k) (t := t) h hk ht => by
    rw [sized_eq (TT.formed (.lam h hk ht)), kids_lam]
    show addO (some 1) (addO (sizedD n t) (some 0)) = _
    rw [TT.sized ht]
    rfl
  | _, _, _, _, _, .two (n := n) (m := m) (m' := m') (t := t) (u := u) hs ht hu => by
    rw [sized_eq (TT.formed (.two hs ht hu)), kids_two _ _ (two_m3 hs)]
    show addO (some 1) (addO (sizedD n t) (addO (sizedD n u) (some 0))) = _
    rw [TT.sized ht, TT.sized hu]
    show some (1 + (m + (m' + 0))) = _
    congr 1
    omega
  | _, _, _, _, _, .five (n := n) (m := m) (m' := m') (t := t) (u := u) hs hx hy hne ht hu => by
    rw [sized_eq (TT.formed (.five hs hx hy hne ht hu)), kids_five]
    show addO (some 1) (addO (sizedD n t) (addO (sizedD n u) (some 0))) = _
    rw [TT.sized ht, TT.sized hu]
    show some (1 + (m + (m' + 0))) = _
    congr 1
    omega
  | _, _, _, _, _, .mk (n := n) (c := c) (ts := ts) h hl ha => by
    rw [sized_eq (TT.formed (.mk h hl ha))]
    show addO (some 1) (sumO ((kids (.tuple [.str (sg "#"), .str c, .tuple ts])).map fun k => sizedD n k.2)) = _
    rw [kids_mk, List.map_map]
    show addO (some 1) (sumO (ts.map fun t => sizedD n t)) = _
    rw [TS.sized ha]
    rfl
  | _, _, _, _, _, .ch (n := n) (m := m) (m' := m') (t := t) (cs := cs) ht h1 h6 ha => by
    rw [sized_eq (TT.formed (.ch ht h1 h6 ha))]
    show addO (some 1) (sumO ((kids (.tuple [.str (sg "?"), t, .tuple cs])).map fun k => sizedD n k.2)) = _
    rw [kids_chT, List.map_cons, List.map_map]
    show addO (some 1) (addO (sizedD n t) (sumO (cs.map fun c => sizedD n (caseD c).2))) = _
    rw [TT.sized ht, TC.sized ha]
    show some (1 + (m + m')) = _
    congr 1
    omega
theorem TS.sized : ∀ {n : Nat} {d : List PyData} {tx : List Nat} {tk : List (List Nat)} {m : Nat}, TS n d tx tk m → sumO (d.map fun t => sizedD n t) = some m
  | _, _, _, _, _, .nil => rfl
  | _, _, _, _, _, .cons (n := n) (t := t) (ts := ts) h r => by
    show addO (sizedD n t) (sumO (ts.map fun t => sizedD n t)) = _
    rw [TT.sized h, TS.sized r]
    rfl
theorem TC.sized : ∀ {n : Nat} {d : List PyData} {tx : List Nat} {tk : List (List Nat)} {m : Nat}, TC n d tx tk m → sumO (d.map fun c => sizedD n (caseD c).2) = some m
  | _, _, _, _, _, .nil => rfl
  | _, _, _, _, _, .cons (n := n) (u := u) (cs := cs) hc hl hx hu h r => by
    show addO (sizedD n u) (sumO (cs.map fun c => sizedD n (caseD c).2)) = _
    rw [TT.sized h, TC.sized r]
    rfl
end
theorem TT.term {n : Nat} {d : PyData} {tx : List Nat} {tk : List (List Nat)} {m : Nat} (h : TT n d tx tk m) (hn : n ≤ 30) (hk : tk.length ≤ 300) : termD d = true := by
  have h2 := TT.up h hn
  have c := h2.cnt
  show upTo 200 (sizedD 30 d) = true
  rw [h2.sized]
  exact decide_eq_true (by omega)
end Ow

/-! Reading by tokens. -/
namespace Ow
open PySem PySem.Spec PyProof.Rows L2
structure At (x : Str) (n : Nat) (ws : List (List Nat)) : Prop where
  le : n ≤ x.length
  ne : ∀ w ∈ ws, Tkn w
  dr : ∃ q t, Dr q ws (x.cps.toList.drop n) t ∧ ∀ c ∈ t, bl c = true
def headS : List (List Nat) → Str
  | (c :: _) :: _ => ⟨#[c]⟩
  | _ => ""
section
variable {x : Str} {n c : Nat} {w : List Nat} {ws : List (List Nat)}
theorem At.head (h : At x n (w :: ws)) : ∃ c w', w = c :: w' ∧ bl c = false ∧ x.cps.toList[skipN x.cps.toList n]? = some c ∧ skipN x.cps.toList n < x.length ∧
    ∃ r t, x.cps.toList.drop (skipN x.cps.toList n) = w ++ r ∧ Dr (lastL w) ws r t ∧ ∀ c ∈ t, bl c = true := by
  obtain ⟨q, t, hD, ht⟩ := h.dr
  obtain ⟨c, w', rfl, hc⟩ := h.ne w (List.mem_cons_self ..)
  generalize hd : x.cps.toList.drop n = rest at hD
  cases hD with
  | @cons _ w b r t ws hb hs hD =>
    obtain ⟨e1, e2, e3⟩ := skip_at (r := w' ++ r) (by simpa using hd) hb hc
    rw [e1]
    have hl : n + b.length < x.length := (List.getElem?_eq_some_iff.mp e2).1
    refine ⟨c, w', rfl, hc, e2, hl, r, t, ?_, hD, ht⟩
    rw [← List.drop_drop, hd, List.drop_left']
    rfl
theorem At.skip (h : At x n ws) : At x (skipN x.cps.toList n) ws := by
  cases ws with
  | nil =>
    obtain ⟨q, t, hD, ht⟩ := h.dr
    refine ⟨skip_le h.le, h.ne, false, _, .nil, ?_⟩
    generalize hd : x.cps.toList.drop n = rest at hD
    cases hD
    have e := skip_all hd h.le ht
    rw [e, List.drop_eq_nil_of_le (Nat.le_refl _)]
    exact fun c hc => nomatch hc
  | cons w ws =>
    obtain ⟨c, w', _, _, _, hl, r, t, e, hD, ht⟩ := h.head
    refine ⟨Nat.le_of_lt hl, h.ne, false, t, ?_, ht⟩
    rw [e]
    exact Dr.cons (b := []) (fun c hc => nomatch hc) (fun z => nomatch z) hD
theorem At.fin (h : At x n []) : skipN x.cps.toList n = x.length := by
  obtain ⟨q, t, hD, ht⟩ := h.dr
  generalize hd : x.cps.toList.drop n = rest at hD
  cases hD
  exact skip_all hd h.le ht
theorem At.cut (h : At x n ws) : cutS x (some (skipN x.cps.toList n : Int)) (some ((skipN x.cps.toList n : Int) + 1)) = headS ws := by
  cases ws with
  | nil =>
    rw [h.fin, cut_over]
    rfl
  | cons w ws =>
    obtain ⟨c, w', rfl, _, e, _⟩ := h.head
    rw [cut_sign e]
    rfl
theorem At.sign (h : At x n ([c] :: ws)) : x.cps.toList[skipN x.cps.toList n]? = some c ∧ At x (skipN x.cps.toList n + 1) ws := by
  obtain ⟨c', w', e, _, e2, hl, r, t, e3, hD, ht⟩ := h.head
  cases e
  refine ⟨e2, hl, fun w hw => h.ne w (List.mem_cons_of_mem _ hw), lastL [c], t, ?_, ht⟩
  rw [← List.drop_drop, e3]
  exact hD
theorem At.word (h : At x n (w :: ws)) (hw : ∀ c ∈ w, ltr c = true) : nameN x.cps.toList (skipN x.cps.toList n) = w ∧ At x (skipN x.cps.toList n + w.length) ws := by
  obtain ⟨c, w', e, _, e2, hl, r, t, e3, hD, ht⟩ := h.head
  have hne : w ≠ [] := by rw [e]; simp
  have hlast := last_letters hw hne
  have hD2 := hD
  rw [hlast] at hD2
  have hn := hD2.head (fun w hw => (h.ne w (List.mem_cons_of_mem _ hw)).ne) (head_bl ht)
  obtain ⟨g1, g2⟩ := name_is e3 hw hn
  refine ⟨g1, ?_, fun w hw => h.ne w (List.mem_cons_of_mem _ hw), lastL w, t, ?_, ht⟩
  · have := name_len (cs := x.cps.toList) (m := skipN x.cps.toList n) (Nat.le_of_lt hl)
    rw [g1] at this
    exact this
  · rw [g2]
    exact hD
/-- the whole of a dressed text -/
theorem At.start {tk : List (List Nat)} {p : Bool} {t : List Nat} (h : Dr p tk x.cps.toList t) (hn : ∀ w ∈ tk, Tkn w) (ht : ∀ c ∈ t, bl c = true) : At x 0 tk :=
  ⟨Nat.zero_le _, hn, p, t, h, ht⟩
end
theorem MethOk.imp {P : Program} {w : World} {K : PySem.W.Frag} {mg : Str → Option Value} {base : Heap} {k : Nat} {C : Addr} {m : Str} {ps : List Str} {sp sp' : Sp} (M : MethOk P w K mg base k C m ps sp) (h : ∀ vs H Q E, sp' vs H Q E → sp vs H Q E) : MethOk P w K mg base k C m ps sp' := by
  obtain ⟨f, fd, hm, F, hb⟩ := M.ex
  exact ⟨f, fd, hm, F.imp h, hb⟩
/-- a def at a known place -/
structure DefF (K : PySem.W.Frag) (mg : Str → Option Value) (x : Str) (st : Stmt) (ps : List Str) (f : Addr) (fd : FuncData) : Prop where
  F : Fun K x x st f fd
  g : mg x = some (.ref f)
  b : L2.Binds K fd ps []
section
variable {P : Program} {w : World} {K : PySem.W.Frag} {mg : Str → Option Value} {base : Heap} {x : Str} {st : Stmt} {N ps : List Str} {k j : Nat} {sp sp' : Sp} {f : Addr} {fd : FuncData}
theorem DefF.at (D : DefF K mg x st ps f fd) : DefAt K mg x st ps := ⟨f, fd, D.F, D.g, D.b⟩
theorem DefF.call (D : DefF K mg x st ps f fd) (h : FnOk P w K mg base CX0 k f fd ps sp) : CallOk P w K mg base k x ps sp := ⟨f, fd, h, D.g, D.F.kp, D.b⟩
theorem DefF.held (D : DefF K mg x st ps f fd) (h : FnOk P w K mg base CX0 k f fd ps sp) : Held P w K mg base k f sp := ⟨fd, ps, h, D.F.kp, D.b⟩
theorem DefF.gv (D : DefF K mg x st ps f fd) : GV mg x (.ref f) := ⟨_, D.g, rfl⟩
theorem DefF.ok (D : DefF K mg x st ps f fd) (S : FnScope N ps (defScope st)) (len : ∀ vs H Q E, sp vs H Q E → vs.length = ps.length)
    (hbody : ∀ (cdv : Value) (A : Around) (outer : List Env) (s : Shared) (H : Hp) (vs : List V) (Q : VK) (E : XK), Room k (A.deeper (envOfC x (defScope st) s.heap.objs.size f cdv)) → sp vs H Q E →
      ∃ t, PSs (cxOf CX0 P w K mg base N x (defScope st) f cdv A outer s H E).nox (defBody st) t ∧ t { nx := fun _ H' => Q .non H', rt := Q } (start N vs) H) : FnOk P w K mg base CX0 (k + 1) f fd ps sp :=
  D.F.ok S len fun cdv A outer s H vs Q E hr h => hbody cdv A outer s H vs Q E hr h
theorem DefF.none (D : DefF K mg x st ps f fd) (S : FnScope N ps (defScope st)) : FnOk P w K mg base CX0 1 f fd ps (fun _ _ _ _ => False) :=
  D.ok S (fun _ _ _ _ h => h.elim) fun _ _ _ _ _ _ _ _ _ h => h.elim
end
/-- a call of what a slot holds, whatever def that is -/
def tCallH (P : Program) (w : World) (K : PySem.W.Frag) (mg : Str → Option Value) (base : Heap) (k : Nat) (i : Nat) (t : TA) : TE := fun σ H Q => ∃ f sp, σ[i]? = some (some (.ref f)) ∧ Held P w K mg base k f sp ∧ t σ H fun vs H1 => sp vs H1 Q (fun _ _ _ => False)
section
variable {X : Cx} {k j i : Nat} {x : Str} {p pos : Pos} {e : Expr} {es : List Expr} {t : TA}
theorem pe_callH (hr : Room j X.A) (hj : k ≤ j) (hN : X.N[i]? = some x) (hv : Vis X.env.scope x) (ha : PA X (e :: es) t)
    (hdb : (x == ("__debug__" : Str)) = false := by decide) (hcd : (x == ("__classdict__" : Str)) = false := by decide)
    (he : starEach (e :: es) X.env = (false, eval e X.env) :: starEach es X.env := by rfl) (hpl : (backTo pos (starEach es X.env)).any (·.1) = false := by rfl) : PE X (.Call (.Name x p) (e :: es) [] pos) (tCallH X.prog X.w X.K X.mg X.base k i t) := by
  refine ⟨fun pins s σ H Q I h => ?_⟩
  obtain ⟨f, sp, hs, hH, ht⟩ := h
  obtain ⟨fd, ps, F, hk, hb⟩ := hH.ex
  refine (pe_callL (i := i) (f := f) (sp := sp) (dvs := []) (E := fun _ _ _ => False) F (hr.mono hj) hN hv hk hb .nil (fun _ _ _ _ _ _ _ z => z.elim) ha hdb hcd he hpl).run pins s σ H Q I ⟨hs, ?_⟩
  have e0 : (fun (vs : List V) (H1 : Hp) => sp (vs ++ []) H1 Q (fun _ _ _ => False)) = fun vs H1 => sp vs H1 Q (fun _ _ _ => False) := by
    funext vs H1
    rw [List.append_nil]
  show t σ H (fun vs H1 => sp (vs ++ []) H1 Q (fun _ _ _ => False))
  rw [e0]
  exact ht
end
/-! ### what the readers promise -/
def spPeekT (C : Addr) : Sp := fun vs H Q _ => ∃ (r : Addr) (x : Str) (n : Nat) (ws : List (List Nat)), vs = [.ref r] ∧ RdAt C H r x n ∧ x.length ≤ 1000000 ∧ At x n ws ∧
  ∀ (n' : Nat) (H' : Hp), RdAt C H' r x n' → At x n' ws → Kp r H H' → Q (.str (headS ws)) H'
def spTakeT (C : Addr) : Sp := fun vs H Q _ => ∃ (r : Addr) (x z : Str) (n c : Nat) (ws : List (List Nat)), vs = [.ref r, .str z] ∧ RdAt C H r x n ∧ x.length ≤ 1000000 ∧ At x n ([c] :: ws) ∧ c ∈ z.cps.toList ∧
  ∀ (n' : Nat) (H' : Hp), RdAt C H' r x n' → At x n' ws → Kp r H H' → Q (.str ⟨#[c]⟩) H'
def spNameT (C : Addr) : Sp := fun vs H Q _ => ∃ (r : Addr) (x z : Str) (n : Nat) (ws : List (List Nat)), vs = [.ref r] ∧ RdAt C H r x n ∧ x.length ≤ 1000000 ∧ At x n (nmL z :: ws) ∧ isNameD (.str z) = true ∧
  ∀ (n' : Nat) (H' : Hp), RdAt C H' r x n' → At x n' ws → Kp r H H' → Q (.str z) H'
def spFinT (C : Addr) : Sp := fun vs H Q _ => ∃ (r : Addr) (x : Str) (n : Nat), vs = [.ref r] ∧ RdAt C H r x n ∧ x.length ≤ 1000000 ∧ At x n [] ∧
  ∀ H' : Hp, RdAt C H' r x x.length → Kp r H H' → Q .non H'
/-- a reader of one thing, by its tokens -/
def Rd1 (K : PySem.W.Frag) (C : Addr) (R : PyData → List (List Nat) → Prop) (F : List (List Nat) → Prop) : Sp := fun vs H Q _ => ∃ (r : Addr) (x : Str) (n : Nat) (d : PyData) (tk ws : List (List Nat)), vs = [.ref r] ∧ RdAt C H r x n ∧ x.length ≤ 1000000 ∧ R d tk ∧ F ws ∧ At x n (tk ++ ws) ∧
  ∀ (v : V) (n' : Nat) (H' : Hp), Da K All H' v d → RdAt C H' r x n' → At x n' ws → Kp r H H' → Q v H'
abbrev FAny : List (List Nat) → Prop := fun _ => True
abbrev FEnd : List (List Nat) → Prop := fun ws => ∃ ws', ws = [41] :: ws'
def RName : PyData → List (List Nat) → Prop := fun d tk => ∃ x : Str, isNameD (.str x) = true ∧ d = .str x ∧ tk = [nmL x]
def RKind : PyData → List (List Nat) → Prop := fun d tk => kindW 6 d = true ∧ tk = toks 6 d
def RTerm (k : Nat) : PyData → List (List Nat) → Prop := fun d tk => ∃ tx m, TT k d tx tk m
def RTerms (k : Nat) : PyData → List (List Nat) → Prop := fun d tk => ∃ ts tx m, d = .tuple ts ∧ ts.length ≤ 100 ∧ TS k ts tx tk m
def RCase (k : Nat) : PyData → List (List Nat) → Prop := fun d tk => ∃ (c : Str) (xs : List Str) (u : PyData) (ux : List Nat) (uk : List (List Nat)) (m : Nat), isNameD (.str c) = true ∧ xs.length ≤ 4 ∧ (∀ x ∈ xs, isNameD (.str x) = true) ∧ TT k u ux uk m ∧
  d = .tuple [.str c, .tuple (xs.map strD), u] ∧ tk = [40] :: nmL c :: (xs.map nmL ++ [58] :: (uk ++ [[41]]))
def RCases (k : Nat) : PyData → List (List Nat) → Prop := fun d tk => ∃ cs tx m, d = .tuple cs ∧ 1 ≤ cs.length ∧ cs.length ≤ 100 ∧ TC k cs tx tk m
theorem peekT {C : Addr} : ∀ vs H Q E, spPeekT C vs H Q E → spPeek C vs H Q E := fun vs H Q E ⟨r, x, n, ws, e, h0, hx, hA, k⟩ =>
  ⟨r, x, n, e, h0, hA.le, hx, fun H' h1 k1 => by
    rw [hA.cut]
    exact k _ H' h1 hA.skip k1⟩
theorem takeT {C : Addr} : ∀ vs H Q E, spTakeT C vs H Q E → spTake C vs H Q E := fun vs H Q E ⟨r, x, z, n, c, ws, e, h0, hx, hA, hc, k⟩ =>
  ⟨r, x, z, n, c, e, h0, hA.le, hx, hA.sign.1, hc, fun H' h1 k1 => k _ H' h1 hA.sign.2 k1⟩
theorem nameT {C : Addr} : ∀ vs H Q E, spNameT C vs H Q E → spTakeName C vs H Q E := fun vs H Q E ⟨r, x, z, n, ws, e, h0, hx, hA, hz, k⟩ => by
  obtain ⟨h1, h8, hl⟩ := nm_cases hz
  obtain ⟨e1, hA2⟩ := hA.word hl
  refine ⟨r, x, n, e, h0, hA.le, hx, ?_, ?_, fun H' h2 k2 => ?_⟩
  · rw [e1]
    exact h1
  · rw [e1]
    exact h8
  · rw [e1] at h2 ⊢
    rw [← str_of]
    exact k _ H' h2 hA2 k2
theorem finT {C : Addr} : ∀ vs H Q E, spFinT C vs H Q E → spFinish C vs H Q E := fun vs H Q E ⟨r, x, n, e, h0, hx, hA, k⟩ => ⟨r, x, n, e, h0, hA.le, hx, hA.fin, k⟩
theorem kindT {K : PySem.W.Frag} {C : Addr} : ∀ vs H Q E, Rd1 K C RKind FAny vs H Q E → spSigns K C 6 vs H Q E := fun vs H Q E ⟨r, x, n, d, tk, ws, e, h0, hx, ⟨hk, etk⟩, _, hA, k⟩ => by
  subst etk
  obtain ⟨q, t, hD, ht⟩ := hA.dr
  have hne : ∀ w ∈ ws, Tkn w := fun w hw => hA.ne w (List.mem_append_right _ hw)
  obtain ⟨q2, r', hW, hD2⟩ := Dr.wr hk hD (fun w hw => (hne w hw).ne) (head_bl ht)
  refine ⟨r, x, n, d, r', e, h0, hA.le, hx, hW, hk, fun v e H' hv h1 le e2 k1 => k v e H' hv h1 ⟨le, hne, q2, t, by rw [e2]; exact hD2, ht⟩ k1⟩
/-! ### what a list of things is read by, up to a sign -/
inductive RS (R : PyData → List (List Nat) → Prop) (c : Nat) : List PyData → List (List Nat) → Prop
  | nil : RS R c [] []
  | cons {d : PyData} {ds : List PyData} {tk tks : List (List Nat)} (h : R d tk) (hh : ∃ a w tk', tk = (a :: w) :: tk' ∧ a ≠ c) (r : RS R c ds tks) : RS R c (d :: ds) (tk ++ tks)
def spUntil (K : PySem.W.Frag) (C f : Addr) (R : PyData → List (List Nat) → Prop) (c : Nat) : Sp := fun vs H Q _ => ∃ (r : Addr) (x : Str) (n : Nat) (ds : List PyData) (tks ws : List (List Nat)), vs = [.ref r, .ref f, .str ⟨#[c]⟩] ∧ RdAt C H r x n ∧ x.length ≤ 1000000 ∧ RS R c ds tks ∧ ds.length ≤ 1000 ∧ At x n (tks ++ [c] :: ws) ∧
  ∀ (t : Addr) (xs : List V) (n' : Nat) (H' : Hp), SqT K H' t xs → DaAll K All H' xs ds → RdAt C H' r x n' → At x n' ([c] :: ws) → Kp r H H' → Q (.ref t) H'
theorem tt_head : ∀ {n : Nat} {d : PyData} {tx : List Nat} {tk : List (List Nat)} {m : Nat}, TT n d tx tk m → ∃ a w tk', tk = (a :: w) :: tk' ∧ (ltr a = true ∨ a = 64 ∨ a = 40)
  | _, _, _, _, _, .name (x := x) h => by
    obtain ⟨h1, _, hl⟩ := nm_cases h
    cases e : nmL x with
    | nil =>
      have z : (nmL x).length = x.length := rfl
      rw [e] at z
      have : x.length = 0 := z.symm
      omega
    | cons a w => exact ⟨a, w, [], rfl, .inl (hl a (by rw [e]; exact List.mem_cons_self ..))⟩
  | _, _, _, _, _, .df h => ⟨64, [], _, rfl, .inr (.inl rfl)⟩
  | _, _, _, _, _, .lam .. => ⟨40, [], _, rfl, .inr (.inr rfl)⟩
  | _, _, _, _, _, .two .. => ⟨40, [], _, rfl, .inr (.inr rfl)⟩
  | _, _, _, _, _, .five .. => ⟨40, [], _, rfl, .inr (.inr rfl)⟩
  | _, _, _, _, _, .mk .. => ⟨40, [], _, rfl, .inr (.inr rfl)⟩
  | _, _, _, _, _, .ch .. => ⟨40, [], _, rfl, .inr (.inr rfl)⟩
theorem head41 {a : Nat} (h : ltr a = true ∨ a = 64 ∨ a = 40) : a ≠ 41 := by
  rintro rfl
  rcases h with h | h | h
  · rw [s41.1] at h
    cases h
  · cases h
  · cases h
theorem rs_terms {k : Nat} : ∀ {ts : List PyData} {tx : List Nat} {tk : List (List Nat)} {m : Nat}, TS k ts tx tk m → RS (RTerm k) 41 ts tk
  | _, _, _, _, .nil => .nil
  | _, _, _, _, .cons h r => by
    obtain ⟨a, w, tk', e, ha⟩ := tt_head h
    exact .cons ⟨_, _, h⟩ ⟨a, w, tk', e, head41 ha⟩ (rs_terms r)
theorem rs_cases {k : Nat} : ∀ {ts : List PyData} {tx : List Nat} {tk : List (List Nat)} {m : Nat}, TC k ts tx tk m → RS (RCase k) 41 ts tk
  | _, _, _, _, .nil => .nil
  | _, _, _, _, .cons (c := c) (xs := xs) (uk := uk) (ck := ck) hc hl hx hu h r => by
    have e : [40] :: nmL c :: (xs.map nmL ++ [58] :: (uk ++ [41] :: ck)) = ([40] :: nmL c :: (xs.map nmL ++ [58] :: (uk ++ [[41]]))) ++ ck := by simp
    rw [e]
    exact .cons ⟨c, xs, _, _, uk, _, hc, hl, hx, h, rfl, rfl⟩ ⟨40, [], _, rfl, by decide⟩ (rs_cases r)
theorem rs_names {c : Nat} (hc : ltr c = false) : ∀ {xs : List Str}, (∀ x ∈ xs, isNameD (.str x) = true) → RS RName c (xs.map strD) (xs.map nmL)
  | [], _ => .nil
  | x :: xs, h => by
    have hx := h x (List.mem_cons_self ..)
    obtain ⟨_, _, hl⟩ := nm_cases hx
    obtain ⟨a, w, tk', e, _⟩ := tt_head (n := 1) (.name hx)
    injection e with e1 e2
    refine RS.cons (tk := [nmL x]) (tks := xs.map nmL) ⟨x, hx, rfl, rfl⟩ ⟨a, w, [], by rw [e1], fun z => ?_⟩ (rs_names hc fun y hy => h y (List.mem_cons_of_mem _ hy))
    have hla : ltr a = true := hl a (by rw [e1]; exact List.mem_cons_self ..)
    rw [z, hc] at hla
    cases hla
/-! ### what stands in a term, slot by slot -/
inductive SlR (k : Nat) : Str → PyData → List Nat → List (List Nat) → Prop
  | name {x : Str} (h : isNameD (.str x) = true) : SlR k (sg "name") (.str x) (32 :: nmL x) [nmL x]
  | kind {d : PyData} (h : kindW 6 d = true) : SlR k (sg "kind") d (32 :: ktL 6 d) (toks 6 d)
  | term {d : PyData} {tx : List Nat} {tk : List (List Nat)} {m : Nat} (h : TT k d tx tk m) : SlR k (sg "term") d (32 :: tx) tk
  | terms {ts : List PyData} {tx : List Nat} {tk : List (List Nat)} {m : Nat} (hl : ts.length ≤ 4) (h : TS k ts tx tk m) : SlR k (sg "terms") (.tuple ts) tx tk
  | cases {cs : List PyData} {tx : List Nat} {tk : List (List Nat)} {m : Nat} (h1 : 1 ≤ cs.length) (h6 : cs.length ≤ 6) (h : TC k cs tx tk m) : SlR k (sg "cases") (.tuple cs) tx tk
inductive Sl (k : Nat) : List Str → List PyData → List Nat → List (List Nat) → Prop
  | nil : Sl k [] [] [41] [[41]]
  | cons {s : Str} {sl : List Str} {d : PyData} {ds : List PyData} {tx sx : List Nat} {tk sk : List (List Nat)} (h : SlR k s d tx tk) (f : s = sg "terms" ∨ s = sg "cases" → sk = [[41]]) (r : Sl k sl ds sx sk) : Sl k (s :: sl) (d :: ds) (tx ++ sx) (tk ++ sk)
theorem no_tc {s : Str} {sk : List (List Nat)} (h : (decide (s = sg "terms") || decide (s = sg "cases")) = false) : s = sg "terms" ∨ s = sg "cases" → sk = [[41]] := fun z => by
  rw [Bool.or_eq_false_iff, decide_eq_false_iff_not, decide_eq_false_iff_not] at h
  exact z.elim (fun z => absurd z h.1) (fun z => absurd z h.2)
theorem TT.parts {k : Nat} {d : PyData} {tx : List Nat} {tk : List (List Nat)} {m : Nat} (h : TT (k + 1) d tx tk m) :
    (∃ x : Str, isNameD (.str x) = true ∧ d = .str x ∧ tx = nmL x ∧ tk = [nmL x]) ∨ (∃ x : Str, isNameD (.str x) = true ∧ d = .tuple [.str ⟨#[64]⟩, .str x] ∧ tx = 64 :: nmL x ∧ tk = [[64], nmL x]) ∨
      ∃ (s : Nat) (sl : List Str) (ds : List PyData) (sx : List Nat) (sk : List (List Nat)), d = .tuple (.str ⟨#[s]⟩ :: ds) ∧ s ∈ termS ∧ formOf ⟨#[s]⟩ = some sl ∧ Sl k sl ds sx sk ∧ tx = 40 :: s :: sx ∧ tk = [40] :: [s] :: sk := by
  cases h with
  | name h => exact .inl ⟨_, h, rfl, rfl, rfl⟩
  | df h => exact .inr (.inl ⟨_, h, rfl, rfl, rfl⟩)
  | lam h hk ht => exact .inr (.inr ⟨94, _, _, _, _, rfl, by decide, f_lam, .cons (.name h) (no_tc (by decide +kernel)) (.cons (.kind hk) (no_tc (by decide +kernel)) (.cons (.term ht) (no_tc (by decide +kernel)) .nil)), rfl, rfl⟩)
  | two hs ht hu => exact .inr (.inr ⟨_, _, _, _, _, rfl, two_mem hs, f_two (two_m3 hs), .cons (.term ht) (no_tc (by decide +kernel)) (.cons (.term hu) (no_tc (by decide +kernel)) .nil), rfl, rfl⟩)
  | five hs hx hy hne ht hu => exact .inr (.inr ⟨_, _, _, _, _, rfl, five_mem hs, f_five (five_m2 hs), .cons (.term ht) (no_tc (by decide +kernel)) (.cons (.name hx) (no_tc (by decide +kernel)) (.cons (.name hy) (no_tc (by decide +kernel)) (.cons (.term hu) (no_tc (by decide +kernel)) .nil))), rfl, rfl⟩)
  | mk h hl ha => exact .inr (.inr ⟨35, _, _, _, _, rfl, by decide, f_mk, .cons (.name h) (no_tc (by decide +kernel)) (.cons (.terms hl ha) (fun _ => rfl) .nil), rfl, rfl⟩)
  | ch ht h1 h6 ha => exact .inr (.inr ⟨63, _, _, _, _, rfl, by decide, f_ch, .cons (.term ht) (no_tc (by decide +kernel)) (.cons (.cases h1 h6 ha) (fun _ => rfl) .nil), rfl, rfl⟩)
theorem Sl.len {k : Nat} : ∀ {sl : List Str} {ds : List PyData} {sx : List Nat} {sk : List (List Nat)}, Sl k sl ds sx sk → sl.length = ds.length
  | _, _, _, _, .nil => rfl
  | _, _, _, _, .cons _ _ r => by rw [List.length_cons, List.length_cons, r.len]
/-- the readers, as the module keeps them by slots -/
structure Rds (K : PySem.W.Frag) (w : World) (d fN fK fT fS fC : Addr) : Prop where
  dict : ∃ es n, KDict K w d es n
  name : PySem.W.nsIn K d (sg "name") = some (some (.ref fN))
  kind : PySem.W.nsIn K d (sg "kind") = some (some (.ref fK))
  term : PySem.W.nsIn K d (sg "term") = some (some (.ref fT))
  terms : PySem.W.nsIn K d (sg "terms") = some (some (.ref fS))
  cases : PySem.W.nsIn K d (sg "cases") = some (some (.ref fC))
end Ow

/-! Texts of terms, piece by piece. -/
namespace Ow
open PySem PySem.Spec PyProof.Rows L2
theorem glue_gen (a : Str) : ∀ (ts : List Str) (z : Array Nat), (ts.foldl (fun acc p => acc ++ a.cps ++ p.cps) z).toList = z.toList ++ ts.flatMap fun x => nmL a ++ nmL x
  | [], z => by simp
  | t :: ts, z => by
    rw [List.foldl_cons, glue_gen a ts, List.flatMap_cons]
    simp
theorem join_gen (a t : Str) (ts : List Str) : nmL (Txt.join a (t :: ts)) = nmL t ++ ts.flatMap fun x => nmL a ++ nmL x := glue_gen a ts t.cps
theorem join_all (ts : List Str) : nmL (Txt.join "" ts) = ts.flatMap nmL := by
  cases ts with
  | nil => rfl
  | cons t ts =>
    rw [join_gen, List.flatMap_cons]
    rfl
theorem join_sp (t : Str) (ts : List Str) : nmL (Txt.join " " (t :: ts)) = nmL t ++ blN ts := join_gen " " t ts
theorem sum_flat : ∀ ts : List Str, (ts.map (·.length)).sum = (ts.flatMap nmL).length
  | [] => rfl
  | t :: ts => by
    rw [List.map_cons, List.sum_cons, List.flatMap_cons, List.length_append, sum_flat ts]
    rfl
theorem bl_len : ∀ ts : List Str, (blN ts).length = (ts.map (·.length)).sum + ts.length
  | [] => rfl
  | t :: ts => by
    show (32 :: (nmL t) ++ blN ts).length = _
    have e : (nmL t).length = t.length := rfl
    rw [List.map_cons, List.sum_cons, List.length_append, List.length_cons, List.length_cons, bl_len ts, e]
    omega
theorem str_mk (l : List Nat) : nmL ⟨l.toArray⟩ = l := by simp
theorem len_mk (l : List Nat) : (⟨l.toArray⟩ : Str).length = l.length := by
  show l.toArray.size = l.length
  simp
/-- texts and terms in a row, what they write together, how much there is to do -/
inductive Els (K : PySem.W.Frag) (N : Addr → Prop) (H0 : Hp) : List V → List Nat → Nat → Prop
  | nil : Els K N H0 [] [] 0
  | str {z : Str} {us : List V} {l : List Nat} {w : Nat} (hz : 1 ≤ z.length) (r : Els K N H0 us l w) : Els K N H0 (.str z :: us) (nmL z ++ l) (z.length + w)
  | trm {v : V} {k : Nat} {d : PyData} {tx : List Nat} {tk : List (List Nat)} {m : Nat} {us : List V} {l : List Nat} {w : Nat} (hd : Da K N H0 v d) (hT : TT k d tx tk m) (r : Els K N H0 us l w) : Els K N H0 (v :: us) (tx ++ l) (2 * tx.length + w)
section
variable {K : PySem.W.Frag} {N : Addr → Prop} {H0 : Hp}
theorem Els.app : ∀ {us : List V} {l : List Nat} {w : Nat}, Els K N H0 us l w → ∀ {us' : List V} {l' : List Nat} {w' : Nat}, Els K N H0 us' l' w' → Els K N H0 (us ++ us') (l ++ l') (w + w')
  | _, _, _, .nil, _, _, _, g => by
    rw [Nat.zero_add]
    exact g
  | _, _, _, .str (z := z) (l := l) (w := w) hz r, _, l', w', g => by
    rw [List.append_assoc, Nat.add_assoc]
    exact .str hz (r.app g)
  | _, _, _, .trm hd hT r, _, _, _, g => by
    rw [List.append_assoc, Nat.add_assoc]
    exact .trm hd hT (r.app g)
theorem tt_pos {k : Nat} {d : PyData} {tx : List Nat} {tk : List (List Nat)} {m : Nat} (h : TT k d tx tk m) : 1 ≤ tx.length := by
  cases h with
  | name h => exact (nm_cases h).1
  | _ => simp
theorem Els.le : ∀ {us : List V} {l : List Nat} {w : Nat}, Els K N H0 us l w → w ≤ 2 * l.length ∧ us.length ≤ w
  | _, _, _, .nil => ⟨Nat.le_refl _, Nat.le_refl _⟩
  | _, _, _, .str (z := z) hz r => by
    obtain ⟨h1, h2⟩ := r.le
    have e : (nmL z).length = z.length := rfl
    rw [List.length_append, List.length_cons, e]
    omega
  | _, _, _, .trm hd hT r => by
    obtain ⟨h1, h2⟩ := r.le
    have := tt_pos hT
    rw [List.length_append, List.length_cons]
    omega
end
theorem el_name {K : PySem.W.Frag} {N : Addr → Prop} {H0 : Hp} {z : Str} (h : isNameD (.str z) = true) : Els K N H0 [.str z] (nmL z) z.length := by
  have := Els.str (K := K) (N := N) (H0 := H0) (z := z) (nm_cases h).1 .nil
  rw [List.append_nil] at this
  exact this
def spSpelled (K : PySem.W.Frag) : Sp := fun vs H Q _ => ∃ (N : Addr → Prop) (H0 : Hp) (v : V) (k : Nat) (d : PyData) (tx : List Nat) (tk : List (List Nat)) (m : Nat), vs = [v] ∧ Same H0 H ∧ Da K N H0 v d ∧ TT k d tx tk m ∧ tyD d ≠ "str" ∧ tx.length ≤ 1000000 ∧
  ∀ (L : Addr) (us : List V) (w : Nat) (H' : Hp), Same H H' → H L = none → H' L = some (.lst us) → Els K N H0 us tx w → w < 2 * tx.length → Q (.ref L) H'
def spTText (K : PySem.W.Frag) : Sp := fun vs H Q _ => ∃ (N : Addr → Prop) (v : V) (k : Nat) (d : PyData) (tx : List Nat) (tk : List (List Nat)) (m : Nat), vs = [v] ∧ Da K N H v d ∧ TT k d tx tk m ∧ tx.length ≤ 1000000 ∧ ∀ H', Same H H' → Q (.str ⟨tx.toArray⟩) H'
def spTextWith (K : PySem.W.Frag) : Sp := fun vs H Q _ => ∃ (N : Addr → Prop) (v : V) (u : Str) (k : Nat) (d : PyData) (tx : List Nat) (tk : List (List Nat)) (m : Nat), vs = [v, .str u] ∧ Da K N H v d ∧ TT k d tx tk m ∧ tx.length ≤ 1000000 ∧ ∀ H', Same H H' → Q (.str ⟨tx.toArray⟩) H'
theorem tt_not_none {K : PySem.W.Frag} {N : Addr → Prop} {H : Hp} {v : V} {k : Nat} {d : PyData} {tx : List Nat} {tk : List (List Nat)} {m : Nat} (hT : TT k d tx tk m) (hd : Da K N H v d) : v ≠ .non := by
  rintro rfl
  cases hd
  cases hT
theorem tt_ty {k : Nat} {d : PyData} {tx : List Nat} {tk : List (List Nat)} {m : Nat} (hT : TT k d tx tk m) : (∃ x, d = .str x ∧ tx = nmL x ∧ isNameD (.str x) = true) ∨ tyD d ≠ "str" := by
  cases hT with
  | name h => exact .inl ⟨_, rfl, rfl, h⟩
  | _ => exact .inr (by simp [tyD])
end Ow

/-! Drawn names that none of some has; drawn terms' promises. -/
namespace Ow
open PySem PySem.Spec PyProof.Rows L2
theorem pigeon : ∀ (cs gs : List Str), cs.Nodup → (∀ c ∈ cs, c ∈ gs) → cs.length ≤ gs.length
  | [], _, _, _ => Nat.zero_le _
  | c :: cs, gs, hn, h => by
    have hc := h c (List.mem_cons_self ..)
    rw [List.nodup_cons] at hn
    have ih := pigeon cs (gs.erase c) hn.2 fun d hd => by
      have hne : d ≠ c := fun e => hn.1 (e ▸ hd)
      exact (List.mem_erase_of_ne hne).mpr (h d (List.mem_cons_of_mem _ hd))
    rw [List.length_erase_of_mem hc] at ih
    have : 0 < gs.length := List.length_pos_of_mem hc
    rw [List.length_cons]
    omega
/-- the name that is tried at turn k -/
def cand (front : Str) (k : Nat) : Str := (front ++ (⟨#[97 + k / 26 % 26]⟩ : Str)) ++ (⟨#[97 + k % 26]⟩ : Str)
theorem cand_inj {front : Str} {j k : Nat} (hj : j < 676) (hk : k < 676) (h : cand front j = cand front k) : j = k := by
  have e : (cand front j).cps.toList = (cand front k).cps.toList := congrArg (fun z : Str => z.cps.toList) h
  unfold cand at e
  rw [app_list, app_list, app_list, app_list, List.append_assoc, List.append_assoc] at e
  have e2 := List.append_cancel_left e
  have e3 : [97 + j / 26 % 26, 97 + j % 26] = [97 + k / 26 % 26, 97 + k % 26] := e2
  injection e3 with a b
  injection b with b _
  omega
theorem abc_atN {n : Nat} (h : n < 26) : atI abc.cps.toList (n : Int) = some (97 + n) := by
  refine atI_nat ?_
  rw [abc_list, List.getElem?_map, List.getElem?_range h]
  rfl
/-- what is known of the name behind so many turns -/
def UnI (gs : List Str) (front : Str) (i : Nat) (y : Str) : Prop := y ∉ gs ∨ ((∀ j, j + 1 < i → cand front j ∈ gs) ∧ ∀ j, j + 1 = i → y = cand front j)
theorem UnI.step {gs : List Str} {front y : Str} {i : Nat} (h : UnI gs front i y) (hy : y ∈ gs) : UnI gs front (i + 1) (cand front i) := by
  rcases h with h | ⟨h1, h2⟩
  · exact absurd hy h
  · refine .inr ⟨fun j hj => ?_, fun j hj => ?_⟩
    · by_cases e : j + 1 = i
      · rw [← h2 j e]
        exact hy
      · exact h1 j (by omega)
    · have : j = i := by omega
      rw [this]
theorem UnI.fin {gs : List Str} {front y : Str} (h : UnI gs front (gs.length + 1) y) (hl : gs.length ≤ 600) : y ∉ gs := by
  intro hy
  rcases h with h | ⟨h1, h2⟩
  · exact h hy
  · have e := h2 gs.length rfl
    have hn : ((List.range (gs.length + 1)).map (cand front)).Nodup := by
      have z : ∀ n, n ≤ 676 → ((List.range n).map (cand front)).Nodup := by
        intro n
        induction n with
        | zero => intro _; exact List.nodup_nil
        | succ n ih =>
          intro hn
          rw [List.range_succ, List.map_append, List.nodup_append]
          refine ⟨ih (by omega), by simp, ?_⟩
          intro a ha b hb e
          obtain ⟨j, hj, rfl⟩ := List.mem_map.mp ha
          rw [List.mem_range] at hj
          have eb : b = cand front n := by simpa using hb
          have := cand_inj (by omega) (by omega) (e.trans eb)
          omega
      exact z _ (by omega)
    have := pigeon _ gs hn fun c hc => by
      obtain ⟨j, hj, rfl⟩ := List.mem_map.mp hc
      rw [List.mem_range] at hj
      by_cases ej : j = gs.length
      · rw [ej, ← e]
        exact hy
      · exact h1 j (by omega)
    rw [List.length_map, List.length_range] at this
    omega
def spNameU : Sp := fun vs H Q _ => ∃ (p c g : Addr) (gs : List Str), vs = [.ref p, .ref g] ∧ Pen H p c ∧ H g = some (.lst (gs.map V.str)) ∧ g ≠ p ∧ gs.length ≤ 600 ∧
  ∀ (x : Str) (H' : Hp), Nm x → x ∉ gs → Pen H' p c → Kp p H H' → Q (.str x) H'
theorem nameU : ∀ vs H Q E, spName vs H Q E → spNameU vs H Q E := fun vs H Q E ⟨p, c, g, gs, e, hP, hG, n, l, k⟩ => ⟨p, c, g, gs, e, hP, hG, n, l, fun x H' hx _ => k x H' hx⟩
theorem dd_snoc {xs : List Str} {x : Str} (h : dd [] xs = xs) (hx : x ∉ xs) : dd [] (xs ++ [x]) = xs ++ [x] := by
  rw [dd_app, h, dd_one, if_neg hx]
theorem dd_unlike {xs : List Str} (h : dd [] xs = xs) : unlikeN xs = true := by
  unfold unlikeN
  rw [h]
  simp
def spUnl (K : PySem.W.Frag) : Sp := fun vs H Q _ => ∃ (p c : Addr) (z : Int), vs = [.ref p, .int z] ∧ 0 ≤ z ∧ z ≤ 100 ∧ Pen H p c ∧
  ∀ (t : Addr) (xs : List Str) (H' : Hp), SqT K H' t (xs.map V.str) → (xs.length : Int) = z → (∀ x ∈ xs, Nm x) → dd [] xs = xs → Pen H' p c → Kp p H H' → Q (.ref t) H'
/-- how long the text of a drawn term is at most -/
def bX : Nat → Nat
  | 0 => 10
  | n + 1 => 7 * bX n + 500
theorem bX_ge : ∀ n, 10 ≤ bX n
  | 0 => Nat.le_refl _
  | n + 1 => by
    have := bX_ge n
    show 10 ≤ 7 * bX n + 500
    omega
def spAnyT (K : PySem.W.Frag) (j : Nat) : Sp := fun vs H Q _ => ∃ (p c : Addr) (z : Int), vs = [.ref p, .int z] ∧ z ≤ (j + 1 : Nat) ∧ -100 ≤ z ∧ j ≤ 20 ∧ Pen H p c ∧
  ∀ (v : V) (d : PyData) (tx : List Nat) (tk : List (List Nat)) (m : Nat) (H' : Hp), Da K All H' v d → TT (j + 1) d tx tk m → tx.length ≤ bX j → Pen H' p c → Kp p H H' → Q v H'
theorem any_case {n m : Nat} {c : Str} {xs : List Str} {u : PyData} {ux : List Nat} {uk : List (List Nat)} (hc : Nm c) (hl : xs.length ≤ 4) (hx : ∀ x ∈ xs, Nm x) (hd : dd [] xs = xs) (h : TT n u ux uk m) :
    TC n [.tuple [.str c, .tuple (xs.map strD), u]] (32 :: 40 :: (nmL c ++ (blN xs ++ 32 :: 58 :: 32 :: (ux ++ 41 :: [])))) ([40] :: nmL c :: (xs.map nmL ++ [58] :: (uk ++ [41] :: []))) (m + 0) :=
  .cons (nm_name hc) hl (fun x h => nm_name (hx x h)) (dd_unlike hd) h .nil
theorem TC.app : ∀ {n m m' : Nat} {cs ds : List PyData} {cx dx : List Nat} {ck dk : List (List Nat)}, TC n cs cx ck m → TC n ds dx dk m' → TC n (cs ++ ds) (cx ++ dx) (ck ++ dk) (m + m')
  | _, _, _, _, _, _, _, _, _, .nil, g => by
    rw [Nat.zero_add]
    exact g
  | _, _, _, _, _, _, dx, _, dk, .cons (c := c) (xs := xs) (ux := ux) (cx := cx) (uk := uk) (ck := ck) hc hl hx hu h r, g => by
    have z := TC.cons hc hl hx hu h (r.app g)
    rw [Nat.add_assoc]
    have e1 : (32 :: 40 :: (nmL c ++ (blN xs ++ 32 :: 58 :: 32 :: (ux ++ 41 :: cx)))) ++ dx = 32 :: 40 :: (nmL c ++ (blN xs ++ 32 :: 58 :: 32 :: (ux ++ 41 :: (cx ++ dx)))) := by simp
    have e2 : ([40] :: nmL c :: (xs.map nmL ++ [58] :: (uk ++ [41] :: ck))) ++ dk = [40] :: nmL c :: (xs.map nmL ++ [58] :: (uk ++ [41] :: (ck ++ dk))) := by simp
    rw [e1, e2]
    exact z
theorem TS.app : ∀ {n m m' : Nat} {cs ds : List PyData} {cx dx : List Nat} {ck dk : List (List Nat)}, TS n cs cx ck m → TS n ds dx dk m' → TS n (cs ++ ds) (cx ++ dx) (ck ++ dk) (m + m')
  | _, _, _, _, _, _, _, _, _, .nil, g => by
    rw [Nat.zero_add]
    exact g
  | _, _, _, _, _, _, dx, _, dk, .cons (tx := tx) (sx := sx) h r, g => by
    have z := TS.cons h (r.app g)
    rw [Nat.add_assoc, List.append_assoc]
    have e1 : (32 :: (tx ++ sx)) ++ dx = 32 :: (tx ++ (sx ++ dx)) := by simp
    rw [e1]
    exact z
theorem kt_le {j : Nat} (hj : j ≤ 3) {d : PyData} (h : kindW j d = true) : kindW 6 d = true ∧ ktL 6 d = ktL j d ∧ (ktL j d).length ≤ 104 := by
  have up : ∀ {j : Nat} {d : PyData}, kindW j d = true → kindW (j + 1) d = true ∧ ktL (j + 1) d = ktL j d := by
    intro j
    induction j with
    | zero => intro d h; cases h
    | succ j ih =>
      intro d h
      rcases kd_cases h with ⟨z, rfl, _⟩ | ⟨s, a, b, rfl, hs, hj, ha, hb⟩
      · exact ⟨h, rfl⟩
      · obtain ⟨a1, a2⟩ := ih ha
        obtain ⟨b1, b2⟩ := ih hb
        refine ⟨?_, ?_⟩
        · rw [kind_tup] at h ⊢
          rw [a1, b1]
          simp only [Bool.and_eq_true, decide_eq_true_eq] at h ⊢
          exact ⟨⟨⟨by omega, h.1.1.2⟩, trivial⟩, trivial⟩
        · rw [kt_tup, kt_tup, a2, b2]
  have l := kt_len h
  have l2 : (ktL j d).length ≤ 104 := by
    have : 2 ^ j ≤ 8 := Nat.le_trans (Nat.pow_le_pow_right (by decide) hj) (by decide)
    omega
  have : ∀ k, kindW (j + k) d = true ∧ ktL (j + k) d = ktL j d := by
    intro k
    induction k with
    | zero => exact ⟨h, rfl⟩
    | succ k ih =>
      obtain ⟨a, b⟩ := up ih.1
      exact ⟨a, b.trans ih.2⟩
  have t := this (6 - j)
  rw [show j + (6 - j) = 6 by omega] at t
  exact ⟨t.1, t.2, l2⟩
end Ow

namespace Ow
open PySem PySem.Spec PyProof.Rows L2
theorem iteIT {A B : Prop} {a b : Int} (h : a = b) (ha : A) : if decide (V.int a = V.int b) = true then A else B := by
  rw [decide_eq_true (by rw [h])]
  exact iteT ha
theorem iteIF {A B : Prop} {a b : Int} (h : a ≠ b) (hb : B) : if decide (V.int a = V.int b) = true then A else B := by
  rw [decide_eq_false (fun e => h (by injection e))]
  exact iteF hb
/-- the promise of the turn below -/
def spRec (K : PySem.W.Frag) : Nat → Sp
  | 0 => fun _ _ _ _ => False
  | j + 1 => spAnyT K j
theorem TS.one {n m : Nat} {t : PyData} {tx : List Nat} {tk : List (List Nat)} (h : TT n t tx tk m) : TS n [t] (32 :: tx) tk m := by
  have z := TS.cons h .nil
  rw [List.append_nil, List.append_nil] at z
  exact z
theorem TC.one {n m : Nat} {c : Str} {xs : List Str} {u : PyData} {ux : List Nat} {uk : List (List Nat)} (hc : isNameD (.str c) = true) (hl : xs.length ≤ 4) (hx : ∀ x ∈ xs, isNameD (.str x) = true) (hu : unlikeN xs = true) (h : TT n u ux uk m) :
    TC n [.tuple [.str c, .tuple (xs.map strD), u]] (32 :: 40 :: (nmL c ++ (blN xs ++ 32 :: 58 :: 32 :: (ux ++ [41])))) ([40] :: nmL c :: (xs.map nmL ++ [58] :: (uk ++ [[41]]))) m := .cons hc hl hx hu h .nil
theorem nm_len {x : Str} (h : Nm x) : (nmL x).length ≤ 8 := h.2.1
theorem bl_len9 : ∀ {xs : List Str}, (∀ x ∈ xs, Nm x) → (blN xs).length ≤ 9 * xs.length
  | [], _ => Nat.le_refl _
  | x :: xs, h => by
    have a := nm_len (h x (List.mem_cons_self ..))
    have b := bl_len9 (xs := xs) fun y hy => h y (List.mem_cons_of_mem _ hy)
    show (32 :: (nmL x) ++ blN xs).length ≤ _
    rw [List.length_append, List.length_cons, List.length_cons]
    omega
theorem two_of {xs : List Str} (h : (xs.length : Int) = 2) (hd : dd [] xs = xs) : ∃ x y, xs = [x, y] ∧ x ≠ y := by
  obtain ⟨x, y, rfl⟩ := len2 (show xs.length = 2 by omega)
  refine ⟨x, y, rfl, ?_⟩
  rintro rfl
  have e := congrArg List.length hd
  have : dd [] [x, x] = [x] := by
    show (if x ∈ [x] then [x] else [x] ++ [x]) = [x]
    rw [if_pos (by simp)]
  rw [this] at e
  cases e
end Ow
namespace Ow
open PySem PySem.Spec PyProof.Rows L2
theorem sgn_ne {s c : Nat} (h : s ≠ c) : (⟨#[s]⟩ : Str) ≠ ⟨#[c]⟩ := fun z => h (Option.some.inj (congrArg (fun q : Str => q.cps[0]?) z))
theorem brack_gen (t : Str) (ts : List Str) : (("(" : Str) ++ Txt.join " " (t :: ts)) ++ (")" : Str) = ⟨(40 :: (nmL t ++ (blN ts ++ [41]))).toArray⟩ := by
  refine str_ext ?_
  rw [app_list, app_list]
  have e : (Txt.join " " (t :: ts)).cps.toList = nmL t ++ blN ts := join_sp t ts
  rw [e]
  show [40] ++ (nmL t ++ blN ts) ++ [41] = 40 :: _
  simp
theorem join_len (t : Str) (ts : List Str) : (Txt.join " " (t :: ts)).length = (nmL t).length + (blN ts).length := by
  have e := congrArg List.length (join_sp t ts)
  rw [List.length_append] at e
  exact e
theorem app_len (x y : Str) : (x ++ y).length = x.length + y.length := by
  have := congrArg List.length (app_list x y)
  rw [List.length_append] at this
  exact this
theorem bl_app (xs ys : List Str) : blN (xs ++ ys) = blN xs ++ blN ys := by
  unfold blN
  rw [List.flatMap_append]
theorem bl_one (x : Str) : blN [x] = 32 :: nmL x := by
  show (32 :: nmL x) ++ [] = _
  simp
theorem bl_cons (x : Str) (xs : List Str) : blN (x :: xs) = 32 :: (nmL x ++ blN xs) := rfl
def spLText (K : PySem.W.Frag) (k : Nat) : Sp := fun vs H Q _ => ∃ (N : Addr → Prop) (v : V) (d : PyData) (tx : List Nat) (tk : List (List Nat)) (m : Nat), vs = [v] ∧ Da K N H v d ∧ TT k d tx tk m ∧ tx.length ≤ 1000000 ∧ ∀ H', Same H H' → Q (.str ⟨tx.toArray⟩) H'
end Ow

namespace Ow
open PySem PySem.Spec PyProof.Rows L2
def spTokensT (K : PySem.W.Frag) : Sp := fun vs H Q _ => ∃ (x : Str), vs = [.str x] ∧ x.length ≤ 1000000 ∧ ∀ (q : Addr) (H' : Hp), H' q = some (.lst ((x.cps.toList.foldl tstep ([], false)).1.map vW)) → Same H H' → Q (.ref q) H'
def spDressedT (K : PySem.W.Frag) : Sp := fun vs H Q _ => ∃ (p c : Addr) (tx : List Nat) (tk : List (List Nat)), vs = [.ref p, .str ⟨tx.toArray⟩] ∧ Pen H p c ∧ Tq false tx tk ∧ tk ≠ [] ∧ tx.length ≤ 300000 ∧
  ∀ (y : Str) (t : List Nat) (H' : Hp), Dr false tk y.cps.toList t → (∀ c ∈ t, bl c = true) → y.length ≤ 990000 → Pen H' p c → Kp p H H' → Q (.str y) H'
/-- all words together are no longer than the signs -/
def sumL (ws : List (List Nat)) : Nat := (ws.map List.length).sum
theorem sumL_app (a b : List (List Nat)) : sumL (a ++ b) = sumL a + sumL b := by
  unfold sumL
  rw [List.map_append, List.sum_append]
theorem sumL_one (w : List Nat) : sumL [w] = w.length := by
  unfold sumL
  simp
theorem sumL_step (s : List (List Nat) × Bool) (c : Nat) (h : s.2 = true → ∃ ws u, s.1 = ws ++ [u]) : sumL (tstep s c).1 ≤ sumL s.1 + 1 := by
  obtain ⟨ws, q⟩ := s
  cases hq : (ltr c && q) with
  | true =>
    simp only [Bool.and_eq_true] at hq
    obtain ⟨hl, rfl⟩ := hq
    obtain ⟨us, u, e⟩ := h rfl
    dsimp only at e
    subst e
    rw [tstep_more hl]
    show sumL (us ++ [u ++ [c]]) ≤ sumL (us ++ [u]) + 1
    rw [sumL_app, sumL_app, sumL_one, sumL_one, List.length_append]
    show sumL us + (u.length + 1) ≤ _
    omega
  | false =>
    cases hb : bl c with
    | true =>
      rw [tstep_bl hb]
      exact Nat.le_succ _
    | false =>
      rw [tstep_new hq hb]
      show sumL (ws ++ [[c]]) ≤ sumL ws + 1
      rw [sumL_app, sumL_one]
      exact Nat.le_refl _
theorem sumL_fold : ∀ {l : List Nat} {s : List (List Nat) × Bool} {n : Nat}, TSt s n → sumL (l.foldl tstep s).1 ≤ sumL s.1 + l.length
  | [], s, n, h => Nat.le_refl _
  | c :: l, s, n, h => by
    have a := sumL_step s c h.op
    have b := sumL_fold (l := l) (h.step (c := c))
    rw [List.foldl_cons, List.length_cons]
    omega
theorem tq_sizes {tx : List Nat} {tk : List (List Nat)} (h : Tq false tx tk) : tk.length ≤ tx.length ∧ (∀ w ∈ tk, w.length ≤ tx.length) ∧ sumL tk ≤ tx.length ∧ (tx.foldl tstep ([], false)).1 = tk := by
  obtain ⟨q, e⟩ := h.fo []
  have z : TSt ([], false) 0 := ⟨(fun z => nomatch z), Nat.le_refl _, fun w hw => nomatch hw⟩
  have st := TSt.fold (l := tx) z
  have sm := sumL_fold (l := tx) z
  rw [e, List.nil_append] at st sm
  refine ⟨Nat.le_trans st.len (by omega), fun w hw => Nat.le_trans (st.wl w hw) (by omega), ?_, by rw [e, List.nil_append]⟩
  have e0 : sumL (([], false) : List (List Nat) × Bool).1 = 0 := rfl
  rw [e0] at sm
  have sm2 : sumL tk ≤ 0 + tx.length := sm
  omega
theorem sumL_take_succ {ws : List (List Nat)} {i : Nat} {u : List Nat} (h : ws[i]? = some u) : sumL (ws.take (i + 1)) = sumL (ws.take i) + u.length := by
  rw [List.take_add_one, h, sumL_app]
  show _ + sumL [u] = _
  rw [sumL_one]
theorem sumL_take (ws : List (List Nat)) (i : Nat) : sumL (ws.take i) ≤ sumL ws := by
  conv => rhs; rw [← List.take_append_drop i ws]
  rw [sumL_app]
  omega
theorem share {Y G : Prop} (h : Y → G) (y : Y) : G := h y
def spTall (K : PySem.W.Frag) : Sp := fun vs H Q _ => ∃ (p c : Addr), vs = [.ref p] ∧ Pen H p c ∧
  ∀ (v : V) (d : PyData) (tx : List Nat) (tk : List (List Nat)) (m : Nat) (H' : Hp), Da K All H' v d → TT 30 d tx tk m → tx.length ≤ 6000 → Pen H' p c → Kp p H H' → Q v H'
end Ow

namespace Ow
open PySem PySem.Spec PyProof.Rows L2
def spReadTerm (K : PySem.W.Frag) : Sp := fun vs H Q _ => ∃ (x : Str) (d : PyData) (tx : List Nat) (tk : List (List Nat)) (m : Nat) (t : List Nat), vs = [.str x] ∧ x.length ≤ 1000000 ∧ TT 30 d tx tk m ∧ m ≤ 200 ∧ tx.length ≤ 300000 ∧ Dr false tk x.cps.toList t ∧ (∀ c ∈ t, bl c = true) ∧
  ∀ (v : V) (H' : Hp), Da K All H' v d → Same H H' → Q v H'
def spReadWholeT (K : PySem.W.Frag) (fT fH : Addr) : Sp := fun vs H Q _ => ∃ (x : Str) (d : PyData) (tx : List Nat) (tk : List (List Nat)) (m : Nat) (t : List Nat), vs = [.str x, .ref fT, .ref fH] ∧ x.length ≤ 1000000 ∧ TT 30 d tx tk m ∧ m ≤ 200 ∧ tx.length ≤ 300000 ∧ Dr false tk x.cps.toList t ∧ (∀ c ∈ t, bl c = true) ∧
  ∀ (v : V) (H' : Hp), Da K All H' v d → Same H H' → Q v H'
theorem held_mono {P : Program} {w : World} {K : PySem.W.Frag} {mg : Str → Option Value} {base : Heap} {j k : Nat} {f : Addr} {sp : Sp} (h : Held P w K mg base j f sp) (hj : j ≤ k) : Held P w K mg base k f sp := by
  obtain ⟨fd, ps, F, r⟩ := h.ex
  exact ⟨fd, ps, F.mono hj, r⟩
theorem CallOk.held {P : Program} {w : World} {K : PySem.W.Frag} {mg : Str → Option Value} {base : Heap} {k : Nat} {x : Str} {ps : List Str} {sp : Sp} (C : CallOk P w K mg base k x ps sp) {f : Addr} (g : mg x = some (.ref f)) : Held P w K mg base k f sp := by
  obtain ⟨f', fd, F, hm, hk, hb⟩ := C.ex
  rw [hm] at g
  injection g with g
  injection g with g
  subst g
  exact ⟨fd, ps, F, hk, hb⟩
theorem TT.termM {n : Nat} {d : PyData} {tx : List Nat} {tk : List (List Nat)} {m : Nat} (h : TT n d tx tk m) (hn : n ≤ 30) (hk : m ≤ 200) : termD d = true := by
  show upTo 200 (sizedD 30 d) = true
  rw [(TT.up h hn).sized]
  exact decide_eq_true hk
theorem ts_zero {ts : List PyData} {tx : List Nat} {tk : List (List Nat)} {m : Nat} (h : TS 0 ts tx tk m) : m = 0 := by
  cases h with
  | nil => rfl
  | cons h r => cases h
theorem tt_leaf {d : PyData} {tx : List Nat} {tk : List (List Nat)} {m : Nat} (h : TT 1 d tx tk m) : m = 1 := by
  cases h with
  | name h => rfl
  | df h => rfl
  | lam _ _ h => cases h
  | two _ h _ => cases h
  | five _ _ _ _ h _ => cases h
  | mk _ _ h => rw [ts_zero h]
  | ch h _ _ _ => cases h
theorem ts_leaf : ∀ {ts : List PyData} {tx : List Nat} {tk : List (List Nat)} {m : Nat}, TS 1 ts tx tk m → m = ts.length
  | _, _, _, _, .nil => rfl
  | _, _, _, _, .cons h r => by
    rw [tt_leaf h, ts_leaf r, List.length_cons]
    omega
theorem tc_leaf : ∀ {ts : List PyData} {tx : List Nat} {tk : List (List Nat)} {m : Nat}, TC 1 ts tx tk m → m = ts.length
  | _, _, _, _, .nil => rfl
  | _, _, _, _, .cons _ _ _ _ h r => by
    rw [tt_leaf h, tc_leaf r, List.length_cons]
    omega
theorem tt_small {d : PyData} {tx : List Nat} {tk : List (List Nat)} {m : Nat} (h : TT 2 d tx tk m) : m ≤ 8 := by
  cases h with
  | name h => decide
  | df h => decide
  | lam _ _ h => rw [tt_leaf h]; decide
  | two _ h g => rw [tt_leaf h, tt_leaf g]; decide
  | five _ _ _ _ h g => rw [tt_leaf h, tt_leaf g]; decide
  | mk _ hl h => rw [ts_leaf h]; omega
  | ch h _ h6 g => rw [tt_leaf h, tc_leaf g]; omega
theorem Dr.blank1 {p q : Bool} {ws : List (List Nat)} {r t : List Nat} {c : Nat} (h : Dr p ws r t) (hc : bl c = true) (hne : ws ≠ []) : Dr q ws (c :: r) t := by
  cases h with
  | nil => exact absurd rfl hne
  | @cons _ w b r t ws hb hs h =>
    exact Dr.cons (b := c :: b) (fun d hd => by
      rcases List.mem_cons.mp hd with rfl | hd
      · exact hc
      · exact hb d hd) (fun _ _ => by simp) h
theorem tq_text {tx : List Nat} {tk : List (List Nat)} (h : Tq false tx tk) : Dr false tk tx [] := by
  have := h.dr [] [] [] fun q => .nil
  rw [List.append_nil, List.append_nil] at this
  exact this
theorem tq_text2 {tx : List Nat} {tk : List (List Nat)} (h : Tq false tx tk) (hne : tk ≠ []) : Dr false tk (10 :: (tx ++ [32])) [32] := by
  have := h.dr [] [32] [32] fun q => .nil
  rw [List.append_nil] at this
  exact this.blank1 (by decide +kernel) hne
theorem app3_list (x : List Nat) : nmL ((("\n" : Str) ++ (⟨x.toArray⟩ : Str)) ++ (" " : Str)) = 10 :: (x ++ [32]) := by
  show (((("\n" : Str) ++ (⟨x.toArray⟩ : Str)) ++ (" " : Str)).cps.toList) = _
  rw [app_list, app_list]
  simp
  rfl
end Ow

/-! Programs with their texts, row by row. -/
namespace Ow
open PySem PySem.Spec PyProof.Rows L2
structure DfW where
  f : Str
  k : PyData
  t : PyData
  tx : List Nat
  tk : List (List Nat)
  m : Nat
structure DfW.Ok (w : DfW) : Prop where
  nm : isNameD (.str w.f) = true
  kd : kindW 6 w.k = true
  tt : TT 3 w.t w.tx w.tk w.m
  few : w.m ≤ 200
def DfW.d (w : DfW) : PyData := dfD (w.f, w.k, w.t)
def mkTx (m : MkT) : List Nat := 40 :: (nmL m.1 ++ (blN m.2 ++ [41]))
def mkTk (m : MkT) : List (List Nat) := [40] :: nmL m.1 :: (m.2.map nmL ++ [[41]])
def dtTx (p : DtT) : List Nat := 40 :: 61 :: 32 :: (nmL p.1 ++ (p.2.flatMap (fun m => 32 :: mkTx m) ++ [41]))
def dtTk (p : DtT) : List (List Nat) := [40] :: [61] :: nmL p.1 :: (p.2.flatMap mkTk ++ [[41]])
def dfTx (w : DfW) : List Nat := 40 :: 64 :: 32 :: (nmL w.f ++ 32 :: (ktL 6 w.k ++ 32 :: (w.tx ++ [41])))
def dfTk (w : DfW) : List (List Nat) := [40] :: [64] :: nmL w.f :: (toks 6 w.k ++ (w.tk ++ [[41]]))
def joinL (s : List Nat) : List (List Nat) → List Nat
  | [] => []
  | r :: rs => r ++ rs.flatMap (fun x => s ++ x)
def rowsTx (ps : List DtT) (ws : List DfW) : List (List Nat) := ps.map dtTx ++ ws.map dfTx
def rowsTk (ps : List DtT) (ws : List DfW) : List (List Nat) := ps.flatMap dtTk ++ ws.flatMap dfTk
theorem s61 : ltr 61 = false ∧ bl 61 = false := by decide +kernel
theorem tq_mk {m : MkT} (h : MkOk m) (q : Bool) : Tq q (mkTx m) (mkTk m) := by
  refine Tq.sign s40.1 s40.2 ?_
  show Tq false (nmL m.1 ++ _) ([nmL m.1] ++ _)
  exact Tq.app (Tq.name h.nm) fun _ => Tq.app (tq_names h.all _) fun _ => Tq.one s41.1 s41.2
theorem tq_mks : ∀ {ms : List MkT}, (∀ m ∈ ms, MkOk m) → ∀ q, Tq q (ms.flatMap fun m => 32 :: mkTx m) (ms.flatMap mkTk)
  | [], _, q => Tq.nil
  | m :: ms, h, q => by
    rw [List.flatMap_cons, List.flatMap_cons]
    exact Tq.app (Tq.blank (tq_mk (h m (List.mem_cons_self ..)) _) (by simp [mkTk])) (tq_mks fun y hy => h y (List.mem_cons_of_mem _ hy))
theorem tq_dt {p : DtT} (h : DtOk p) (q : Bool) : Tq q (dtTx p) (dtTk p) := by
  refine Tq.sign s40.1 s40.2 (Tq.sign s61.1 s61.2 ?_)
  show Tq false ((32 :: nmL p.1) ++ _) ([nmL p.1] ++ _)
  exact Tq.app (Tq.blank (Tq.name h.nm) (by simp)) fun _ => Tq.app (tq_mks h.all _) fun _ => Tq.one s41.1 s41.2
theorem tq_df {w : DfW} (h : w.Ok) (q : Bool) : Tq q (dfTx w) (dfTk w) := by
  obtain ⟨h1, h2⟩ := h.tt.tq
  refine Tq.sign s40.1 s40.2 (Tq.sign s64.1 s64.2 ?_)
  show Tq false ((32 :: nmL w.f) ++ ((32 :: ktL 6 w.k) ++ _)) ([nmL w.f] ++ (toks 6 w.k ++ _))
  exact Tq.app (Tq.blank (Tq.name h.nm) (by simp)) fun _ => Tq.app (Tq.blank (Tq.kind h.kd) (toks_some h.kd)) fun _ => Tq.app (l := 32 :: _) (Tq.blank h1 h2) fun _ => Tq.one s41.1 s41.2
theorem Tq.blankC {p : Bool} {c : Nat} {l : List Nat} {ks : List (List Nat)} (hc : bl c = true) (h : Tq false l ks) (hne : ks ≠ []) : Tq p (c :: l) ks := by
  refine ⟨fun ws => ?_, fun ws r t k => ?_, h.ne⟩
  · obtain ⟨q, e⟩ := h.fo ws
    exact ⟨q, by rw [List.foldl_cons, tstep_bl hc, e]⟩
  · exact (h.dr ws r t k).blank1 hc (by simp [hne])
/-- what may stand between two rows -/
def Sep (s : List Nat) : Prop := s = [] ∨ ∃ c, s = [c] ∧ bl c = true
theorem tq_sep {s l : List Nat} {ks : List (List Nat)} (hs : Sep s) (h : ∀ q, Tq q l ks) (hne : ks ≠ []) (q : Bool) : Tq q (s ++ l) ks := by
  rcases hs with rfl | ⟨c, rfl, hc⟩
  · exact h q
  · exact Tq.blankC hc (h false) hne
theorem tq_rest {α : Type} {s : List Nat} (hs : Sep s) {f : α → List Nat} {g : α → List (List Nat)} : ∀ {xs : List α}, (∀ x ∈ xs, (∀ q, Tq q (f x) (g x)) ∧ g x ≠ []) → ∀ q, Tq q (xs.flatMap fun x => s ++ f x) (xs.flatMap g)
  | [], _, q => Tq.nil
  | x :: xs, h, q => by
    obtain ⟨h1, h2⟩ := h x (List.mem_cons_self ..)
    rw [List.flatMap_cons, List.flatMap_cons]
    exact Tq.app (tq_sep hs h1 h2 q) (tq_rest hs fun y hy => h y (List.mem_cons_of_mem _ hy))
theorem join_rows (s : List Nat) {p : DtT} {ps : List DtT} {ws : List DfW} : joinL s (rowsTx (p :: ps) ws) = dtTx p ++ (ps.flatMap (fun x => s ++ dtTx x) ++ ws.flatMap (fun x => s ++ dfTx x)) := by
  show dtTx p ++ ((ps.map dtTx ++ ws.map dfTx).flatMap fun x => s ++ x) = _
  rw [List.flatMap_append, List.flatMap_map, List.flatMap_map]
theorem tq_prog {s : List Nat} (hs : Sep s) {ps : List DtT} {ws : List DfW} (h1 : 1 ≤ ps.length) (hp : ∀ p ∈ ps, DtOk p) (hw : ∀ w ∈ ws, w.Ok) : Tq false (joinL s (rowsTx ps ws)) (rowsTk ps ws) := by
  cases ps with
  | nil => exact absurd h1 (by decide)
  | cons p ps =>
    rw [join_rows]
    show Tq false _ ((dtTk p ++ ps.flatMap dtTk) ++ _)
    rw [List.append_assoc]
    refine Tq.app (tq_dt (hp p (List.mem_cons_self ..)) _) fun _ => Tq.app (tq_rest hs (fun x hx => ⟨tq_dt (hp x (List.mem_cons_of_mem _ hx)), by simp [dtTk]⟩) _) fun _ => tq_rest hs (fun x hx => ⟨tq_df (hw x hx), by simp [dfTk]⟩) _
theorem rows_ne {ps : List DtT} {ws : List DfW} (h1 : 1 ≤ ps.length) : rowsTk ps ws ≠ [] := by
  cases ps with
  | nil => exact absurd h1 (by decide)
  | cons p ps => simp [rowsTk, dtTk]
/-! ### no line feed within a row -/
def NoN (l : List Nat) : Prop := ∀ c ∈ l, c ≠ 10
theorem NoN.nil : NoN [] := fun c h => nomatch h
theorem NoN.cons {c : Nat} {l : List Nat} (h : c ≠ 10) (g : NoN l) : NoN (c :: l) := fun d hd => by
  rcases List.mem_cons.mp hd with rfl | hd
  · exact h
  · exact g d hd
theorem NoN.app {a b : List Nat} (h : NoN a) (g : NoN b) : NoN (a ++ b) := fun c hc => (List.mem_append.mp hc).elim (h c) (g c)
theorem NoN.name {x : Str} (h : isNameD (.str x) = true) : NoN (nmL x) := fun c hc e => by
  have := (ltr_small ((nm_cases h).2.2 c hc)).1
  omega
theorem NoN.names : ∀ {xs : List Str}, (∀ x ∈ xs, isNameD (.str x) = true) → NoN (blN xs)
  | [], _ => .nil
  | x :: xs, h => by
    show NoN (32 :: (nmL x) ++ blN xs)
    exact (NoN.cons (by decide) (.name (h x (List.mem_cons_self ..)))).app (NoN.names fun y hy => h y (List.mem_cons_of_mem _ hy))
theorem NoN.kind : ∀ {j : Nat} {d : PyData}, kindW j d = true → NoN (ktL j d)
  | 0, _, h => by cases h
  | j + 1, d, h => by
    rcases kd_cases h with ⟨z, rfl, _⟩ | ⟨s, a, b, rfl, hs, _, ha, hb⟩
    · exact .name h
    · rw [kt_tup]
      show NoN (40 :: ([s] ++ 32 :: (ktL j a ++ 32 :: (ktL j b ++ [41]))))
      exact .cons (by decide) (.cons (by omega) (.cons (by decide) ((NoN.kind ha).app (.cons (by decide) ((NoN.kind hb).app (.cons (by decide) .nil))))))
theorem sT10 : ∀ s ∈ termS, s ≠ 10 := by decide
mutual
theorem TT.non : ∀ {n : Nat} {d : PyData} {tx : List Nat} {tk : List (List Nat)} {m : Nat}, TT n d tx tk m → NoN tx
  | _, _, _, _, _, .name h => .name h
  | _, _, _, _, _, .df h => .cons (by decide) (.name h)
  | _, _, _, _, _, .lam h hk ht => .cons (by decide) (.cons (by decide) (.cons (by decide) ((NoN.name h).app (.cons (by decide) ((NoN.kind hk).app (.cons (by decide) ((TT.non ht).app (.cons (by decide) .nil))))))))
  | _, _, _, _, _, .two hs ht hu => .cons (by decide) (.cons (sT10 _ (two_mem hs)) (.cons (by decide) ((TT.non ht).app (.cons (by decide) ((TT.non hu).app (.cons (by decide) .nil))))))
  | _, _, _, _, _, .five hs hx hy _ ht hu => .cons (by decide) (.cons (sT10 _ (five_mem hs)) (.cons (by decide) ((TT.non ht).app (.cons (by decide) ((NoN.name hx).app (.cons (by decide) ((NoN.name hy).app (.cons (by decide) ((TT.non hu).app (.cons (by decide) .nil))))))))))
  | _, _, _, _, _, .mk h _ ha => .cons (by decide) (.cons (by decide) (.cons (by decide) ((NoN.name h).app ((TS.non ha).app (.cons (by decide) .nil)))))
  | _, _, _, _, _, .ch ht _ _ ha => .cons (by decide) (.cons (by decide) (.cons (by decide) ((TT.non ht).app ((TC.non ha).app (.cons (by decide) .nil)))))
theorem TS.non : ∀ {n : Nat} {d : List PyData} {tx : List Nat} {tk : List (List Nat)} {m : Nat}, TS n d tx tk m → NoN tx
  | _, _, _, _, _, .nil => .nil
  | _, _, _, _, _, .cons h r => .cons (by decide) ((TT.non h).app (TS.non r))
theorem TC.non : ∀ {n : Nat} {d : List PyData} {tx : List Nat} {tk : List (List Nat)} {m : Nat}, TC n d tx tk m → NoN tx
  | _, _, _, _, _, .nil => .nil
  | _, _, _, _, _, .cons hc _ hx _ h r => .cons (by decide) (.cons (by decide) ((NoN.name hc).app ((NoN.names hx).app (.cons (by decide) (.cons (by decide) (.cons (by decide) ((TT.non h).app (.cons (by decide) (TC.non r)))))))))
end
theorem NoN.flat {α : Type} {f : α → List Nat} : ∀ {xs : List α}, (∀ x ∈ xs, NoN (f x)) → NoN (xs.flatMap f)
  | [], _ => .nil
  | x :: xs, h => by
    rw [List.flatMap_cons]
    exact (h x (List.mem_cons_self ..)).app (NoN.flat fun y hy => h y (List.mem_cons_of_mem _ hy))
theorem non_mk {m : MkT} (h : MkOk m) : NoN (mkTx m) := .cons (by decide) ((NoN.name h.nm).app ((NoN.names h.all).app (.cons (by decide) .nil)))
theorem non_dt {p : DtT} (h : DtOk p) : NoN (dtTx p) := .cons (by decide) (.cons (by decide) (.cons (by decide) ((NoN.name h.nm).app ((NoN.flat fun m hm => .cons (by decide) (non_mk (h.all m hm))).app (.cons (by decide) .nil)))))
theorem non_df {w : DfW} (h : w.Ok) : NoN (dfTx w) := .cons (by decide) (.cons (by decide) (.cons (by decide) ((NoN.name h.nm).app (.cons (by decide) ((NoN.kind h.kd).app (.cons (by decide) (h.tt.non.app (.cons (by decide) .nil))))))))
theorem non_rows {ps : List DtT} {ws : List DfW} (hp : ∀ p ∈ ps, DtOk p) (hw : ∀ w ∈ ws, w.Ok) : ∀ r ∈ rowsTx ps ws, NoN r := fun r hr => by
  rcases List.mem_append.mp hr with hr | hr
  · obtain ⟨p, h, rfl⟩ := List.mem_map.mp hr
    exact non_dt (hp p h)
  · obtain ⟨w, h, rfl⟩ := List.mem_map.mp hr
    exact non_df (hw w h)
def sp10 (c : Nat) : Nat := if c = 10 then 32 else c
theorem map_non {l : List Nat} (h : NoN l) : l.map sp10 = l := by
  conv => rhs; rw [← List.map_id l]
  refine List.map_congr_left fun c hc => ?_
  show (if c = 10 then 32 else c) = c
  rw [if_neg (h c hc)]
theorem filter_non {l : List Nat} (h : NoN l) : l.filter (· != 10) = l := List.filter_eq_self.mpr fun c hc => by simpa using h c hc
theorem sp_flat : ∀ {rs : List (List Nat)}, (∀ r ∈ rs, NoN r) → (rs.flatMap fun x => [10] ++ x).map sp10 = rs.flatMap fun x => [32] ++ x
  | [], _ => rfl
  | r :: rs, h => by
    rw [List.flatMap_cons, List.flatMap_cons, List.map_append, List.map_append, map_non (h r (List.mem_cons_self ..)), sp_flat fun y hy => h y (List.mem_cons_of_mem _ hy)]
    rfl
theorem filter_flat : ∀ {rs : List (List Nat)}, (∀ r ∈ rs, NoN r) → (rs.flatMap fun x => [10] ++ x).filter (· != 10) = rs.flatMap fun x => [] ++ x
  | [], _ => rfl
  | r :: rs, h => by
    rw [List.flatMap_cons, List.flatMap_cons, List.filter_append, List.filter_append, filter_non (h r (List.mem_cons_self ..)), filter_flat fun y hy => h y (List.mem_cons_of_mem _ hy)]
    rfl
theorem join_map {rs : List (List Nat)} (h : ∀ r ∈ rs, NoN r) : (joinL [10] rs).map sp10 = joinL [32] rs := by
  cases rs with
  | nil => rfl
  | cons r rs =>
    show (r ++ _).map sp10 = r ++ _
    rw [List.map_append, map_non (h r (List.mem_cons_self ..)), sp_flat fun y hy => h y (List.mem_cons_of_mem _ hy)]
theorem join_filter {rs : List (List Nat)} (h : ∀ r ∈ rs, NoN r) : (joinL [10] rs).filter (· != 10) = joinL [] rs := by
  cases rs with
  | nil => rfl
  | cons r rs =>
    show (r ++ _).filter _ = r ++ _
    rw [List.filter_append, filter_non (h r (List.mem_cons_self ..)), filter_flat fun y hy => h y (List.mem_cons_of_mem _ hy)]
/-- texts put together, sign by sign -/
theorem join_is (a : Str) (ts : List Str) : nmL (Txt.join a ts) = joinL (nmL a) (ts.map nmL) := by
  cases ts with
  | nil => rfl
  | cons t ts =>
    rw [join_gen, List.map_cons]
    show _ = nmL t ++ (ts.map nmL).flatMap fun x => nmL a ++ x
    rw [List.flatMap_map]
theorem split_parts (x : Str) : ∃ parts : List Str, Txt.split x "\n" = parts ∧ (∀ r ∈ parts.map nmL, NoN r) ∧ joinL [10] (parts.map nmL) = nmL x ∧ (parts.map (·.length)).sum + parts.length ≤ x.length + 1 := by
  refine ⟨_, rfl, fun r hr => ?_, ?_, split_weight x "\n" (by decide)⟩
  · obtain ⟨p, hp, rfl⟩ := List.mem_map.mp hr
    have := StrLaws.split_free x 10 p hp
    exact fun c hc e => this (e ▸ hc)
  · have e := StrLaws.join_split x "\n"
    rw [← StrLaws.glued_eq_join] at e
    have e2 := join_is "\n" (Txt.split x "\n")
    have e3 : Txt.join "\n" (Txt.split x "\n") = x := e
    rw [e3] at e2
    exact e2.symm
theorem join_split_sp {x : Str} {rs : List (List Nat)} (hx : nmL x = joinL [10] rs) (hr : ∀ r ∈ rs, NoN r) : nmL (Txt.join " " (Txt.split x "\n")) = joinL [32] rs := by
  obtain ⟨parts, e, hp, hj, _⟩ := split_parts x
  rw [e, join_is]
  show joinL [32] _ = _
  rw [← join_map hp, hj, hx, join_map hr]
theorem replace_none {x : Str} {rs : List (List Nat)} (hx : nmL x = joinL [10] rs) (hr : ∀ r ∈ rs, NoN r) : nmL (Txt.replace x "\n" "") = joinL [] rs := by
  have e : (Txt.replace x "\n" "").cps.toList = x.cps.toList.filter (· != 10) := replace_strikes x 10
  show (Txt.replace x "\n" "").cps.toList = _
  rw [e]
  have hx' : x.cps.toList = joinL [10] rs := hx
  rw [hx', join_filter hr]
end Ow

/-! What reads and writes programs promises; a text put together and one struck, side by side. -/
namespace Ow
open PySem PySem.Spec PyProof.Rows L2
def RMk : PyData → List (List Nat) → Prop := fun d tk => ∃ m : MkT, MkOk m ∧ d = mkD m ∧ tk = mkTk m
def RDt : PyData → List (List Nat) → Prop := fun d tk => ∃ p : DtT, DtOk p ∧ d = dtD p ∧ tk = nmL p.1 :: p.2.flatMap mkTk
def RDf : PyData → List (List Nat) → Prop := fun d tk => ∃ w : DfW, w.Ok ∧ d = w.d ∧ tk = nmL w.f :: (toks 6 w.k ++ w.tk)
theorem rs_mks : ∀ {ms : List MkT}, (∀ m ∈ ms, MkOk m) → RS RMk 41 (ms.map mkD) (ms.flatMap mkTk)
  | [], _ => .nil
  | m :: ms, h => by
    rw [List.map_cons, List.flatMap_cons]
    exact .cons ⟨m, h m (List.mem_cons_self ..), rfl, rfl⟩ ⟨40, [], _, rfl, by decide⟩ (rs_mks fun y hy => h y (List.mem_cons_of_mem _ hy))
/-- a program that holds -/
structure ProgW (ps : List DtT) (ws : List DfW) : Prop where
  p1 : 1 ≤ ps.length
  p6 : ps.length ≤ 6
  pok : ∀ p ∈ ps, DtOk p
  pun : unlikeN (ps.map (·.1)) = true
  mun : unlikeN ((mksOf ps).map (·.1)) = true
  fld : ∀ x ∈ fldsOf ps, x ∈ ps.map (·.1)
  w16 : ws.length ≤ 16
  wok : ∀ w ∈ ws, w.Ok
  wun : unlikeN (ws.map (·.f)) = true
def progT (ps : List DtT) (ws : List DfW) : PyData := .tuple [.tuple (ps.map dtD), .tuple (ws.map DfW.d)]
theorem ProgW.ok {ps : List DtT} {ws : List DfW} (h : ProgW ps ws) : progOk (progT ps ws) = true := by
  show (datasOk (.tuple (ps.map dtD)) && defsOk (.tuple (ws.map DfW.d))) = true
  have e1 : datasOk (.tuple (ps.map dtD)) = true := by
    rw [datas_eq, row_ok (by rw [List.length_map]; have := h.p1; omega) (by rw [List.length_map]; have := h.p6; omega), h.pun, h.mun]
    have e2 : (ps.map dtD).all dataOk = true := by
      rw [List.all_map, List.all_eq_true]
      intro p hp
      have g := h.pok p hp
      show (isNameD (.str p.1) && (isRowD (.tuple (p.2.map mkD)) 1 6 && (p.2.map mkD).all makerOk)) = true
      rw [g.nm, row_ok (by rw [List.length_map]; have := g.one; omega) (by rw [List.length_map]; have := g.len; omega)]
      have e3 : (p.2.map mkD).all makerOk = true := by
        rw [List.all_map, List.all_eq_true]
        intro m hm
        have gm := g.all m hm
        show (isNameD (.str m.1) && (isRowD (.tuple (m.2.map strD)) 0 4 && (m.2.map strD).all isNameD)) = true
        rw [gm.nm, row_ok (by omega) (by rw [List.length_map]; have := gm.len; omega), all_names gm.all]
        rfl
      rw [e3]
      rfl
    rw [e2]
    have e4 : ((fldsOf ps).all fun f => decide (f ∈ ps.map (·.1))) = true := by
      rw [List.all_eq_true]
      intro x hx
      exact decide_eq_true (h.fld x hx)
    rw [e4]
    rfl
  have e5 : defsOk (.tuple (ws.map DfW.d)) = true := by
    show (isRowD (.tuple (ws.map DfW.d)) 0 16 && ((ws.map DfW.d).all defOk && unlikeN ((ws.map DfW.d).map defName))) = true
    rw [row_ok (by omega) (by rw [List.length_map]; have := h.w16; omega)]
    have e6 : (ws.map DfW.d).all defOk = true := by
      rw [List.all_map, List.all_eq_true]
      intro w hw
      have g := h.wok w hw
      show (isNameD (.str w.f) && (kindW 6 w.k && termD w.t)) = true
      rw [g.nm, g.kd, g.tt.termM (by decide) g.few]
      rfl
    have e7 : (ws.map DfW.d).map defName = ws.map (·.f) := by
      rw [List.map_map]
      rfl
    rw [e6, e7, h.wun]
    rfl
  rw [e1, e5]
  rfl
theorem sumL_map {α : Type} (f : α → List Nat) (xs : List α) : sumL (xs.map f) = (xs.flatMap f).length := by
  induction xs with
  | nil => rfl
  | cons x xs ih =>
    rw [List.flatMap_cons, List.length_append, ← ih]
    unfold sumL
    rw [List.map_cons, List.map_cons, List.sum_cons]
theorem mk_fit {m : MkT} (h : MkOk m) : Fit (40 * (mkTx m).length) 2 (mkD m) := by
  refine (Fit.tup (m := 1) (.cons ((fit_name h.nm).le (Nat.le_refl _) (Nat.zero_le _)) (.cons (Fit.tup (fit_namesT h.all)) (FitAll.nil (n := 0))))).le ?_ (Nat.le_refl _)
  unfold mkTx
  simp only [List.length_cons, List.length_append, List.length_nil]
  omega
theorem mks_fit : ∀ {ms : List MkT}, (∀ m ∈ ms, MkOk m) → FitAll (40 * (ms.flatMap fun m => 32 :: mkTx m).length) 2 (ms.map mkD)
  | [], _ => FitAll.nil.le (Nat.zero_le _) (Nat.le_refl _)
  | m :: ms, h => by
    rw [List.map_cons, List.flatMap_cons]
    refine (FitAll.cons (mk_fit (h m (List.mem_cons_self ..))) (mks_fit fun y hy => h y (List.mem_cons_of_mem _ hy))).le ?_ (Nat.le_refl _)
    rw [List.length_append, List.length_cons]
    omega
theorem dt_fit {p : DtT} (h : DtOk p) : Fit (40 * (dtTx p).length) 4 (dtD p) := by
  refine (Fit.tup (m := 3) (.cons ((fit_name h.nm).le (Nat.le_refl _) (Nat.zero_le _)) (.cons (Fit.tup (mks_fit h.all)) (FitAll.nil (n := 0))))).le ?_ (Nat.le_refl _)
  unfold dtTx
  simp only [List.length_cons, List.length_append, List.length_nil]
  omega
theorem df_fitW {w : DfW} (h : w.Ok) : Fit (40 * (dfTx w).length) 97 w.d := by
  refine (Fit.tup (m := 96) (.cons ((fit_name h.nm).le (Nat.le_refl _) (Nat.zero_le _)) (.cons ((kind_fitT h.kd).le (Nat.le_refl _) (by decide)) (.cons (h.tt.fit.le (Nat.le_refl _) (by decide)) (FitAll.nil (n := 0)))))).le ?_ (Nat.le_refl _)
  unfold dfTx
  simp only [List.length_cons, List.length_append, List.length_nil]
  omega
theorem dts_fit : ∀ {ps : List DtT}, (∀ p ∈ ps, DtOk p) → FitAll (42 * sumL (ps.map dtTx)) 4 (ps.map dtD)
  | [], _ => FitAll.nil.le (Nat.zero_le _) (Nat.le_refl _)
  | p :: ps, h => by
    refine (FitAll.cons (dt_fit (h p (List.mem_cons_self ..))) (dts_fit fun y hy => h y (List.mem_cons_of_mem _ hy))).le ?_ (Nat.le_refl _)
    have e : sumL ((p :: ps).map dtTx) = (dtTx p).length + sumL (ps.map dtTx) := by
      unfold sumL
      rw [List.map_cons, List.map_cons, List.sum_cons]
    have : 1 ≤ (dtTx p).length := by unfold dtTx; simp
    rw [e]
    omega
theorem dfs_fit : ∀ {ws : List DfW}, (∀ w ∈ ws, w.Ok) → FitAll (42 * sumL (ws.map dfTx)) 97 (ws.map DfW.d)
  | [], _ => FitAll.nil.le (Nat.zero_le _) (Nat.le_refl _)
  | w :: ws, h => by
    refine (FitAll.cons (df_fitW (h w (List.mem_cons_self ..))) (dfs_fit fun y hy => h y (List.mem_cons_of_mem _ hy))).le ?_ (Nat.le_refl _)
    have e : sumL ((w :: ws).map dfTx) = (dfTx w).length + sumL (ws.map dfTx) := by
      unfold sumL
      rw [List.map_cons, List.map_cons, List.sum_cons]
    have : 1 ≤ (dfTx w).length := by unfold dfTx; simp
    rw [e]
    omega
theorem prog_fit {ps : List DtT} {ws : List DfW} (h : ProgW ps ws) : Fit (42 * sumL (rowsTx ps ws) + 20) 100 (progT ps ws) := by
  refine (Fit.tup (m := 98) (.cons ((Fit.tup (dts_fit h.pok)).le (Nat.le_refl _) (by decide)) (.cons (Fit.tup (dfs_fit h.wok)) (FitAll.nil (n := 0))))).le ?_ (by decide)
  unfold rowsTx
  rw [sumL_app]
  omega
theorem joinL_len (s : List Nat) : ∀ rs : List (List Nat), (joinL s rs).length ≤ sumL rs + rs.length * s.length
  | [] => Nat.zero_le _
  | r :: rs => by
    show (r ++ rs.flatMap fun x => s ++ x).length ≤ _
    have e : ∀ xs : List (List Nat), (xs.flatMap fun x => s ++ x).length = sumL xs + xs.length * s.length := by
      intro xs
      induction xs with
      | nil => simp [sumL]
      | cons x xs ih =>
        rw [List.flatMap_cons, List.length_append, List.length_append, ih, List.length_cons, Nat.succ_mul]
        have : sumL (x :: xs) = x.length + sumL xs := by
          unfold sumL
          rw [List.map_cons, List.sum_cons]
        omega
    have e2 : sumL (r :: rs) = r.length + sumL rs := by
      unfold sumL
      rw [List.map_cons, List.sum_cons]
    rw [List.length_append, e, e2, List.length_cons, Nat.succ_mul]
    omega
/-! ### promises -/
def spBrackN : Sp := fun vs H Q _ => ∃ (p : Addr) (a : Str) (bs : List Str), vs = [.ref p] ∧ H p = some (.lst ((a :: bs).map V.str)) ∧ a.length + (blN bs).length ≤ 1000000 ∧ Q (.str ⟨(40 :: (nmL a ++ (blN bs ++ [41]))).toArray⟩) H
theorem brackN : ∀ vs H Q E, spBracketed vs H Q E → spBrackN vs H Q E := fun vs H Q E ⟨p, a, b, c, e, hp, ha, hb, hc, k⟩ => by
  refine ⟨p, a, [b, c], e, hp, ?_, ?_⟩
  · rw [bl_len]
    show a.length + (b.length + (c.length + 0) + 2) ≤ 1000000
    omega
  · have e2 : (40 :: (nmL a ++ (blN [b, c] ++ [41]))) = 40 :: (a.cps.toList ++ 32 :: (b.cps.toList ++ 32 :: (c.cps.toList ++ [41]))) := by
      rw [bl_cons, bl_one]
      simp
    rw [e2]
    exact k
def spPText (K : PySem.W.Frag) : Sp := fun vs H Q _ => ∃ (N : Addr → Prop) (v : V) (ps : List DtT) (ws : List DfW), vs = [v] ∧ Da K N H v (progT ps ws) ∧ ProgW ps ws ∧ sumL (rowsTx ps ws) ≤ 200000 ∧ ∀ H', Same H H' → Q (.str ⟨(joinL [10] (rowsTx ps ws)).toArray⟩) H'
def spReadProg (K : PySem.W.Frag) : Sp := fun vs H Q _ => ∃ (x : Str) (ps : List DtT) (ws : List DfW) (t : List Nat), vs = [.str x] ∧ x.length ≤ 1000000 ∧ ProgW ps ws ∧ sumL (rowsTx ps ws) ≤ 200000 ∧ Dr false (rowsTk ps ws) x.cps.toList t ∧ (∀ c ∈ t, bl c = true) ∧
  ∀ (v : V) (H' : Hp), Da K All H' v (progT ps ws) → Same H H' → Q v H'
def spReadWholeP (K : PySem.W.Frag) (fS fH : Addr) : Sp := fun vs H Q _ => ∃ (x : Str) (ps : List DtT) (ws : List DfW) (t : List Nat), vs = [.str x, .ref fS, .ref fH] ∧ x.length ≤ 1000000 ∧ ProgW ps ws ∧ sumL (rowsTx ps ws) ≤ 200000 ∧ Dr false (rowsTk ps ws) x.cps.toList t ∧ (∀ c ∈ t, bl c = true) ∧
  ∀ (v : V) (H' : Hp), Da K All H' v (progT ps ws) → Same H H' → Q v H'
def spRowsR (K : PySem.W.Frag) (C : Addr) : Sp := fun vs H Q _ => ∃ (r : Addr) (x : Str) (n : Nat) (ps : List DtT) (ws : List DfW), vs = [.ref r, .str "="] ∧ RdAt C H r x n ∧ x.length ≤ 1000000 ∧ 1 ≤ ps.length ∧ ps.length ≤ 100 ∧ ws.length ≤ 100 ∧ (∀ p ∈ ps, DtOk p) ∧ (∀ w ∈ ws, w.Ok) ∧ At x n (rowsTk ps ws) ∧
  ∀ (v : V) (n' : Nat) (H' : Hp), Da K All H' v (progT ps ws) → RdAt C H' r x n' → At x n' [] → Kp r H H' → Q v H'
def spProgR (K : PySem.W.Frag) (C : Addr) : Sp := fun vs H Q _ => ∃ (r : Addr) (x : Str) (n : Nat) (ps : List DtT) (ws : List DfW), vs = [.ref r] ∧ RdAt C H r x n ∧ x.length ≤ 1000000 ∧ 1 ≤ ps.length ∧ ps.length ≤ 100 ∧ ws.length ≤ 100 ∧ (∀ p ∈ ps, DtOk p) ∧ (∀ w ∈ ws, w.Ok) ∧ At x n (rowsTk ps ws) ∧
  ∀ (v : V) (n' : Nat) (H' : Hp), Da K All H' v (progT ps ws) → RdAt C H' r x n' → At x n' [] → Kp r H H' → Q v H'
def spAnyProg (K : PySem.W.Frag) : Sp := fun vs H Q _ => ∃ (p c : Addr), vs = [.ref p] ∧ Pen H p c ∧
  ∀ (v : V) (ps : List DtT) (ws : List DfW) (H' : Hp), Da K All H' v (progT ps ws) → ProgW ps ws → sumL (rowsTx ps ws) ≤ 15000 → Pen H' p c → Kp p H H' → Q v H'
/-! ### behind a written text a token is out: its replacement by another text -/
def PEG (X : Cx) (e : Expr) (t : TE) : Prop :=
  ∀ (pins : List (Addr × Obj)) (s : Shared) (σ : L2.St) (H : Hp) (Q : VK), Inv X pins σ H s → t σ H Q → wpAny (model X.prog X.w) X.A (eval e X.env) (fun v s' => 1 ≤ s'.toks ∧ EP X pins σ Q v s') X.xe s
section
variable {X : Cx} {e : Expr} {te : TE} {es : List Expr} {ta : TA}
theorem pa_grow (ha : PEG X e te) (hr : PAT X es ta) (hs : starEach (e :: es) X.env = (false, eval e X.env) :: starEach es X.env := by rfl) : PA X (e :: es) (tCons te ta) := by
  refine ⟨fun pos pins s σ H Q I h => ?_⟩
  rw [hs]
  show wpAny _ _ (spliced ((false, eval e X.env) :: backTo pos (starEach es X.env))) _ _ s
  refine Calls.spliced_cons (thn (ha pins s σ H _ I h) fun v s1 q => ?_)
  obtain ⟨h1, x, H1, I1, r1, q1⟩ := q
  exact thn (hr pos pins s1 σ H1 _ h1 I1 q1) fun us s2 ⟨xs, H2, I2, r2, q2⟩ => ⟨x :: xs, H2, I2, .cons r1 r2, q2⟩
theorem peg_join {a : Str} {j : Nat} {c0 apos pos : Pos} (he : PE X e te) (hs : starEach [e] X.env = [(false, eval e X.env)] := by rfl)
    (hbase : attributeBase (.Constant (.str a) j c0) "join" X.env (eval (.Constant (.str a) j c0) X.env) = eval (.Constant (.str a) j c0) X.env := by rfl) (hline : (apos.endLine == pos.line) = true := by rfl) :
    PEG X (.Call (.Attribute (.Constant (.str a) j c0) "join" apos) [e] [] pos) (tM1 (fun x xs H Q => ∃ a p, ∃ ys : List Str, x = .str a ∧ xs = [.ref p] ∧ (SqL X.K H p (ys.map V.str) ∨ SqT X.K H p (ys.map V.str)) ∧
      (ys.map (·.length)).sum + ys.length * a.length ≤ 16777216 ∧ Q (.str (Txt.join a ys)) H) (tC (.str a)) te) := by
  intro pins s σ H Q I h
  obtain ⟨_, h⟩ := h
  refine PySem.Call_method1 hbase hs hline (Calls.Constant_str ?_)
  refine ⟨"str", _, F.plainAttrs_str, F.slot_str_join, F.type_str_join, typeIs_str _ _ _, (fun _ e => nomatch e), Calls.callWith_builtin rfl (Calls.evalArgs_plain (Calls.spliced_cons ?_))⟩
  refine wpAny_mono (PySem.wpAny_toks (he.run pins { s with toks := s.toks + 1 } σ H _ (I.tok _) h)) (fun u s2 q => ?_) fun _ _ z => z.2
  obtain ⟨hk, y, H2, I2, r2, q2⟩ := q
  have h1 : 1 ≤ s2.toks := Nat.le_trans (Nat.le_add_left 1 s.toks) hk
  exact Calls.spliced_nil (wpAny_mono (PySem.wpAny_toks_of h1 (mt_join pins s2 σ H2 _ [y] _ [u] Q I2 (show RelV (V.str a) (Value.str a s.toks) from ⟨s.toks, rfl⟩) (.cons r2 .nil) q2)) (fun _ _ z => z) fun _ _ z => z.2)
end
end Ow
namespace Ow
open PySem PySem.Spec PyProof.Rows L2
/-- what the next row may begin with -/
def signZ : Nat → Nat → Str
  | _, _ + 1 => Str.ofString "@"
  | 0, 0 => Str.ofString "="
  | _ + 1, 0 => Str.ofString "=@"
theorem signZ_eq {p w : Nat} (h : w = 0) : 61 ∈ (signZ p w).cps.toList := by
  subst h
  cases p with
  | zero => show 61 ∈ (Str.ofString "=").cps.toList; decide +kernel
  | succ p => show 61 ∈ (Str.ofString "=@").cps.toList; decide +kernel
theorem signZ_at {p w : Nat} (h : 1 ≤ p) : 64 ∈ (signZ p w).cps.toList := by
  obtain ⟨p, rfl⟩ : ∃ q, p = q + 1 := ⟨p - 1, by omega⟩
  cases w with
  | zero => show 64 ∈ (Str.ofString "=@").cps.toList; decide +kernel
  | succ w => show 64 ∈ (Str.ofString "@").cps.toList; decide +kernel
def RowI (K : PySem.W.Frag) (C : Addr) (x : Str) (ps : List DtT) (ws : List DfW) (r D E : Addr) (H : Hp) (extra : List (List Nat)) (m : Nat) (σ : L2.St) (H' : Hp) : Prop :=
  ∃ (us vs : List V) (n : Nat) (ps1 ps2 : List DtT) (ws1 ws2 : List DfW), ps = ps1 ++ ps2 ∧ ws = ws1 ++ ws2 ∧ (ws1 ≠ [] → ps2 = []) ∧ m = ps2.length + ws2.length ∧ σ = [some (.ref r), some (.str (signZ ps1.length ws1.length)), some (.ref D), some (.ref E)] ∧
    H' D = some (.lst us) ∧ H' E = some (.lst vs) ∧ DaAll K All H' us (ps1.map dtD) ∧ DaAll K All H' vs (ws1.map DfW.d) ∧ RdAt C H' r x n ∧ At x n (extra ++ (ps2.flatMap dtTk ++ ws2.flatMap dfTk)) ∧ Kp r H H'
theorem shareT (A : Nat → Hp → Prop) {B : Hp → Prop} {G : Prop} (h : (∀ n H, A n H → B H) → G) (y : ∀ n H, A n H → B H) : G := h y
theorem heads_ne {ps : List DtT} {ws : List DfW} (h : 1 ≤ ps.length + ws.length) : (!decide (V.str (headS (ps.flatMap dtTk ++ ws.flatMap dfTk)) = V.str (Str.ofString ""))) = true := by
  cases ps with
  | cons p ps => exact (by decide : (!decide (V.str ⟨#[40]⟩ = V.str (Str.ofString ""))) = true)
  | nil =>
    cases ws with
    | cons w ws => exact (by decide : (!decide (V.str ⟨#[40]⟩ = V.str (Str.ofString ""))) = true)
    | nil => exact absurd h (by decide)
end Ow

namespace Ow
open PySem PySem.Spec PyProof.Rows L2
section
variable {X : Cx} {K : PySem.W.Frag} {e o : Expr} {es : List Expr} {te to : TE} {t : TA} {p apos pos : Pos}
theorem pa_starK (h : X.K = K) (he : PE X e te) (hr : PA X es t) (hs : starEach (.Starred e p :: es) X.env = (true, eval e X.env) :: starEach es X.env := by rfl) : PA X (.Starred e p :: es) (StX.tStar K te t) := h ▸ StX.pa_star he hr hs
theorem pe_joinK (h : X.K = K) (ho : PE X o to) (he : PE X e te) (hs : starEach [e] X.env = [(false, eval e X.env)] := by rfl) (hbase : attributeBase o "join" X.env (eval o X.env) = eval o X.env := by rfl) (hline : (apos.endLine == pos.line) = true := by rfl) :
    PE X (.Call (.Attribute o "join" apos) [e] [] pos) (tM1 (fun x xs H Q => ∃ a p, ∃ ys : List Str, x = .str a ∧ xs = [.ref p] ∧ (SqL K H p (ys.map V.str) ∨ SqT K H p (ys.map V.str)) ∧
      (ys.map (·.length)).sum + ys.length * a.length ≤ 16777216 ∧ Q (.str (Txt.join a ys)) H) to te) := h ▸ pe_join ho he hs hbase hline
end
def spDText (K : PySem.W.Frag) : Sp := fun vs H Q _ => ∃ (N : Addr → Prop) (d : Str) (t : Addr) (us : List V) (ms : List MkT), vs = [.str d, .ref t] ∧ SqT K H t us ∧ DaAll K N H us (ms.map mkD) ∧ (∀ m ∈ ms, MkOk m) ∧ ms.length ≤ 6 ∧ isNameD (.str d) = true ∧
  ∀ H', Same H H' → Q (.str ⟨(dtTx (d, ms)).toArray⟩) H'
theorem bl_names8 : ∀ {xs : List Str}, (∀ x ∈ xs, isNameD (.str x) = true) → (blN xs).length ≤ 9 * xs.length
  | [], _ => Nat.le_refl _
  | x :: xs, h => by
    have a := (nm_cases (h x (List.mem_cons_self ..))).2.1
    have e : (nmL x).length = x.length := rfl
    have b := bl_names8 (xs := xs) fun y hy => h y (List.mem_cons_of_mem _ hy)
    show (32 :: (nmL x) ++ blN xs).length ≤ _
    rw [List.length_append, List.length_cons, List.length_cons]
    omega
theorem mkTx_len {m : MkT} (h : MkOk m) : (mkTx m).length ≤ 46 := by
  have a := (nm_cases h.nm).2.1
  have e : (nmL m.1).length = m.1.length := rfl
  have b := bl_names8 h.all
  have c := h.len
  unfold mkTx
  simp only [List.length_cons, List.length_append, List.length_nil]
  omega
theorem mksTx_len : ∀ {ms : List MkT}, (∀ m ∈ ms, MkOk m) → (ms.flatMap fun m => 32 :: mkTx m).length ≤ 47 * ms.length
  | [], _ => Nat.le_refl _
  | m :: ms, h => by
    have a := mkTx_len (h m (List.mem_cons_self ..))
    have b := mksTx_len (ms := ms) fun y hy => h y (List.mem_cons_of_mem _ hy)
    rw [List.flatMap_cons, List.length_append, List.length_cons, List.length_cons]
    omega
theorem dtTx_len {p : DtT} (h : DtOk p) : (dtTx p).length ≤ 300 := by
  have a := (nm_cases h.nm).2.1
  have e : (nmL p.1).length = p.1.length := rfl
  have b := mksTx_len h.all
  have c := h.len
  unfold dtTx
  simp only [List.length_cons, List.length_append, List.length_nil]
  omega
theorem bl_flat : ∀ ms : List MkT, blN (ms.map fun m => (⟨(mkTx m).toArray⟩ : Str)) = ms.flatMap fun m => 32 :: mkTx m
  | [] => rfl
  | m :: ms => by
    rw [List.map_cons, bl_cons, str_mk, bl_flat ms, List.flatMap_cons]
    rfl
theorem dtTx_bl (d : Str) (ms : List MkT) : dtTx (d, ms) = 40 :: (nmL (Str.ofString "=") ++ (blN (d :: ms.map fun m => (⟨(mkTx m).toArray⟩ : Str)) ++ [41])) := by
  rw [bl_cons, bl_flat]
  have : nmL (Str.ofString "=") = [61] := rfl
  rw [this]
  unfold dtTx
  simp
theorem mkTx_bl (m : MkT) : mkTx m = 40 :: (nmL m.1 ++ (blN m.2 ++ [41])) := rfl
theorem dfTx_bl (w : DfW) : dfTx w = 40 :: (nmL (Str.ofString "@") ++ (blN [w.f, ⟨(ktL 6 w.k).toArray⟩, ⟨w.tx.toArray⟩] ++ [41])) := by
  have e1 : nmL (⟨(ktL 6 w.k).toArray⟩ : Str) = ktL 6 w.k := str_mk _
  have e2 : nmL (⟨w.tx.toArray⟩ : Str) = w.tx := str_mk _
  have e3 : nmL (Str.ofString "@") = [64] := rfl
  rw [bl_cons, bl_cons, bl_one, e1, e2, e3]
  unfold dfTx
  simp
theorem sumL_cons (w : List Nat) (ws : List (List Nat)) : sumL (w :: ws) = w.length + sumL ws := by
  unfold sumL
  rw [List.map_cons, List.sum_cons]
theorem sumL_mem : ∀ {ws : List (List Nat)} {w : List Nat}, w ∈ ws → w.length ≤ sumL ws
  | x :: ws, w, h => by
    rw [sumL_cons]
    rcases List.mem_cons.mp h with rfl | h
    · omega
    · have := sumL_mem h
      omega
/-- texts as strings -/
def txts (ls : List (List Nat)) : List Str := ls.map fun l => ⟨l.toArray⟩
theorem txts_nm (ls : List (List Nat)) : (txts ls).map nmL = ls := by
  unfold txts
  rw [List.map_map]
  conv => rhs; rw [← List.map_id ls]
  refine List.map_congr_left fun l _ => ?_
  exact str_mk l
theorem txts_sum (ls : List (List Nat)) : ((txts ls).map (·.length)).sum = sumL ls := by
  unfold txts sumL
  rw [List.map_map]
  have e : ls.map ((fun x : Str => x.length) ∘ fun l => (⟨l.toArray⟩ : Str)) = ls.map List.length := List.map_congr_left fun l _ => len_mk l
  rw [e]
theorem txts_app (a b : List (List Nat)) : txts (a ++ b) = txts a ++ txts b := by
  unfold txts
  rw [List.map_append]
theorem txts_len (a : List (List Nat)) : (txts a).length = a.length := by
  unfold txts
  rw [List.length_map]
theorem join_txts (ls : List (List Nat)) : Txt.join "\n" (txts ls) = ⟨(joinL [10] ls).toArray⟩ := by
  refine str_ext ?_
  have e := join_is "\n" (txts ls)
  rw [txts_nm] at e
  exact e.trans (str_mk _).symm
theorem sum_le_len : ∀ {ls : List (List Nat)}, (∀ l ∈ ls, 1 ≤ l.length) → ls.length ≤ sumL ls
  | [], _ => Nat.le_refl _
  | l :: ls, h => by
    have a := h l (List.mem_cons_self ..)
    have b := sum_le_len (ls := ls) fun y hy => h y (List.mem_cons_of_mem _ hy)
    rw [sumL_cons, List.length_cons]
    omega
end Ow

namespace Ow
open PySem PySem.Spec PyProof.Rows L2
theorem unlike_front {a b : List Str} (h : dd [] (a ++ b) = a ++ b) : unlikeN a = true := by
  have e := congrArg List.length h
  rw [dd_app, List.length_append] at e
  have l1 := dd_len b (dd [] a)
  have l2 := dd_len a []
  unfold unlikeN
  refine decide_eq_true ?_
  have : ([] : List Str).length = 0 := rfl
  omega
theorem take_succ_app {α : Type} {xs : List α} {i : Nat} {x : α} (h : xs[i]? = some x) : xs.take (i + 1) = xs.take i ++ [x] := by
  rw [List.take_add_one, h]
  rfl
theorem mksOf_app (ps : List DtT) (d : DtT) : mksOf (ps ++ [d]) = mksOf ps ++ d.2 := by
  unfold mksOf
  rw [List.flatMap_append]
  simp
theorem fldsOf_app (ps : List DtT) (d : DtT) : fldsOf (ps ++ [d]) = fldsOf ps ++ d.2.flatMap (·.2) := by
  unfold fldsOf
  rw [mksOf_app, List.flatMap_append]
theorem sumL_dts : ∀ {ps : List DtT}, (∀ p ∈ ps, DtOk p) → sumL (ps.map dtTx) ≤ 300 * ps.length
  | [], _ => Nat.le_refl _
  | p :: ps, h => by
    have a := dtTx_len (h p (List.mem_cons_self ..))
    have b := sumL_dts (ps := ps) fun y hy => h y (List.mem_cons_of_mem _ hy)
    rw [List.map_cons, sumL_cons, List.length_cons]
    omega
theorem sumL_dfs : ∀ {ws : List DfW}, (∀ w ∈ ws, (dfTx w).length ≤ 800) → sumL (ws.map dfTx) ≤ 800 * ws.length
  | [], _ => Nat.le_refl _
  | w :: ws, h => by
    have a := h w (List.mem_cons_self ..)
    have b := sumL_dfs (ws := ws) fun y hy => h y (List.mem_cons_of_mem _ hy)
    rw [List.map_cons, sumL_cons, List.length_cons]
    omega
end Ow

/-! Exceptions that are caught and kept. -/
namespace Ow
open PySem PySem.Spec PyProof.Rows L2
/-- at a: an exception that was caught, of this class, its dict at d -/
def exk (a : Addr) (cls : Value) (d : Option Addr) : HO := .ext fun h => ∃ (o : Obj) (vs : Array Value), h.get? a = some o ∧ Zc cls d o ∧ o.data = .fields vs
theorem exk_ok {P : Program} {w : World} {H : Hp} {h : Heap} {a : Addr} {cls : Value} {d : Option Addr} {o : Obj} {vs : Array Value} (e : h.get? a = some o) (z : Zc cls d o) (f : o.data = .fields vs) : ObjOk P w H h a (exk a cls d) :=
  ⟨⟨o, vs, e, z, f⟩, ⟨o, e⟩, fun h1 h2 ⟨o1, v1, q1, r1⟩ k => ⟨o1, v1, k o1 q1, r1⟩⟩
section
variable {X : Cx} {pins : List (Addr × Obj)} {σ : L2.St} {H : Hp} {z s : Shared} {B : Heap}
/-- the exception is one more object of ours -/
theorem Inv.caught {a : Addr} {o : HO} (I : Inv X pins σ H z) (nb : ∀ b u, z.heap.get? b = some u → b ∉ frs X.stack → B.get? b = some u) (st : B.StaysIn s.heap) (up : z.heap.UpToSlots s.heap) (os : s.os = z.os) (ag : AllBare s.gens)
    (new : z.heap.get? a = none) (na : H a = none) (ob : ObjOk X.prog X.w (upd H a o) s.heap a o) : Inv X pins σ (upd H a o) s := by
  have J := I.landed nb st up os ag
  have other : ∀ b u, H b = some u → upd H a o b = some u := fun b u e => by
    rw [upd_ne (ne_of_none e na)]
    exact e
  have old : ∀ b u, z.heap.get? b = some u → b ≠ a := fun b u e q => by
    rw [q, new] at e
    cases e
  have none_ : ∀ b u, z.heap.get? b = some u → H b = none → upd H a o b = none := fun b u e n => by
    rw [upd_ne (old b u e)]
    exact n
  refine ⟨J.ok, J.os, J.bare, ⟨J.base.keep, J.base.slot, fun b u e n x => ?_, J.base.there, fun b xs e => other _ _ (J.base.tups b xs e), fun b u v e => other _ _ (J.base.frzs b u v e), fun b ps e => ?_⟩, J.loc, J.cell, ?_, fun x c e => ?_, fun p hp => ?_, fun b u e => ?_, J.len⟩
  · obtain ⟨o1, e1⟩ := I.base.there b u e x
    exact none_ b o1 e1 (I.base.free b u e n x)
  · obtain ⟨more, e1⟩ := J.base.tbls b ps e
    exact ⟨more, other _ _ e1⟩
  · obtain ⟨m, ⟨oL, _, _, e1, _⟩, _⟩ := id I.loc
    exact none_ _ _ e1 I.free
  · obtain ⟨v, oc, e1, _⟩ := I.cell x c e
    exact none_ _ _ e1 (I.freeC x c e)
  · obtain ⟨e1, n1, r⟩ := J.pin p hp
    exact ⟨e1, none_ _ _ (I.pin p hp).1 n1, r⟩
  · by_cases q : b = a
    · subst q
      rw [upd_same] at e
      cases e
      exact ob
    · rw [upd_ne q] at e
      exact (J.hok b u e).stay (fun _ _ _ r => r) (fun c r => other _ _ r) fun c xs r => other _ _ r
end
end Ow

namespace Ow
open PySem PySem.Spec PyProof.Rows L2
section
variable {X : Cx} {pins : List (Addr × Obj)} {σ : L2.St} {H : Hp} {s : Shared} {a : Addr} {pn pn' : List (Addr × Obj)}
theorem Inv.within (I : Inv X pins σ H s) (a : Addr) : Inv (X.suite a (X.pn ++ pins)) [] σ H s :=
  ⟨I.ok.suite _ _, I.os, I.bare, I.base, I.loc, I.cell, I.free, I.freeC, fun p m => I.pin p (by simpa using m), I.hok, I.len⟩
theorem Inv.without (I : Inv (X.suite a (X.pn ++ pins)) pn' σ H s) (ok : X.Ok) : Inv X pins σ H s :=
  ⟨ok, I.os, I.bare, I.base, I.loc, I.cell, I.free, I.freeC, fun p m => I.pin p (List.mem_append.mpr (.inl m)), I.hok, I.len⟩
end
/-- an end's wish, a slot emptied first -/
def drop1 (D : Ends) (i : Nat) : Ends := ⟨fun σ H => D.nx (σ.set i none) H, D.rt, fun σ H => D.bk (σ.set i none) H, fun σ H => D.ct (σ.set i none) H⟩
/-- what the clause wishes of each exception of the body: it is of its class, and the suite goes on with it as one more object -/
def wKeep (K : PySem.W.Frag) (c : Value) (i : Nat) (ts : Addr → Value → Option Addr → L2.TS) (D : Ends) : WX := fun cls d σ H =>
  PySem.W.exmOne K cls c = some true ∧ ∀ a, H a = none → ts a cls d (drop1 D i) (σ.set i (some (.ref a))) (upd H a (exk a cls d))
section
variable {X : Cx} {x n : Str} {c : Value} {i : Nat} {body more : List Stmt} {s0 : Stmt} {np p1 pos : Pos} {tb : WX → L2.TS} {ts : Addr → Value → Option Addr → L2.TS} {pins : List (Addr × Obj)} {D : Ends}
/-- no frame of ours is the exception -/
theorem not_frame {B h : Heap} {l : List Env} {o : Obj} {vs : Array Value} {a : Addr} (ff : h.FunFrames B l) (e : h.get? a = some o) (f : o.data = .fields vs) : a ∉ frs l := fun m => by
  obtain ⟨_, o2, e2, no⟩ := ff.mem m
  rw [e] at e2
  cases e2
  exact no _ f
/-- what an exception meets in the frame of the try -/
theorem met (hs : X.stack = X.env :: X.outer) (hf : X.env.frame = some X.env.locals) (hN : X.N.Nodup) (hi : X.N[i]? = some n) (hln : X.env.kindOf n = some .local) (hc : Names X x c) (ok : X.Ok)
    (hsu : ∀ (a : Addr) (cls : Value) (d : Option Addr) (pn : List (Addr × Obj)), PSs (X.suite a pn) (s0 :: more) (ts a cls d)) {u : Value} {s : Shared} {pn : List (Addr × Obj)} {xe : Value → Shared → Prop} (hpn : pn = X.pn ++ pins)
    (air : XE (X.tr pn xe) (wKeep X.K c i ts D) u s) :
    wpAny (model X.prog X.w) X.A (noteFrame u X.env) (fun _ s₂ => wpAny (model X.prog X.w) X.A (setFlight u none) (fun _ s₃ =>
      wpAny (model X.prog X.w) X.A (handleBy u X.env [.ExceptHandler (some (.Name x np)) (some n) (s0 :: more) p1]) (SP X pins D) X.xe s₃) X.xe s₂) X.xe s := by
  subst hpn
  obtain ⟨a, B, z, pins', σ, H, cls, d, rfl, I', nb, up, sky, na, os, ag, isC, w⟩ := air
  have I : Inv X pins σ H z := I'.ofTry ok
  have sky2 : Sky B (X.env :: X.outer) a (Zc cls d) X.env.locals s.heap := hs ▸ sky
  have hfr : X.A.frames = some (X.env :: X.outer) := hs ▸ ok.frames
  refine Sky.land Zc.steady hfr hf sky2 fun h1 f1 up1 => ?_
  obtain ⟨o1, v1, e1, z1, d1⟩ := f1.there
  have nfr : a ∉ frs (X.env :: X.outer) := not_frame f1.2.2.1 e1 d1
  have new : z.heap.get? a = none := by
    cases q : z.heap.get? a with
    | none => rfl
    | some o =>
      have t := nb a o q (hs ▸ nfr)
      rw [f1.2.1] at t
      cases t
  have catch1 : ∀ h', HandSPX.FlyingZ B (X.env :: X.outer) a (Zc cls d) h' → z.heap.UpToSlots h' → Inv X pins σ (upd H a (exk a cls d)) { s with heap := h' } := fun h' f' up' => by
    obtain ⟨o', v', e', z', d'⟩ := f'.there
    exact Inv.caught (s := { s with heap := h' }) I nb f'.1 up' os ag new na (exk_ok e' z' d')
  have I1 := catch1 h1 f1 (up.trans up1)
  refine wpAny_handleBy_cons (codeAny_handlers_test ?_) (fun q => nomatch q)
  have ty : PySem.W.Looks (model X.prog X.w) h1 (typeOf (.ref a)) cls := fun A Q E s k q => wpAny_typeOf_ref (k _ _ e1) (z1.1 ▸ q)
  have is_ := PySem.W.exm_one (M := model X.prog X.w) I1.kIn ty isC
  have name : ∀ {Q : Value → Shared → Prop} {E : Value → Shared → Prop}, Q c { s with heap := h1 } → wpAny (model X.prog X.w) (X.A.mark (some (.ref a))) (eval (.Name x np) X.env) Q E { s with heap := h1 } := fun {Q E} q => by
    have W1 := Inv.within I1 a
    rcases hc with ⟨hg, dbg, m | ⟨m, v, nn⟩⟩
    · exact ld_glob W1 hg m q dbg
    · exact ld_blt W1 hg m v q nn dbg
  refine name (is_.here (codeAny_handlers_suite_as (HandSPX.lands_againZ f1 fun h2 f2 up2 => ?_)))
  have I2 := catch1 h2 f2 ((up.trans up1).trans up2)
  refine store_ok (X := X.suite a (X.pn ++ pins)) (v := .ref a) (Inv.within I2 a) hN hi (.inl hln) rfl (fun s5 I5 => ?_) (.inr hln)
  refine wpAny_mono ((hsu a cls d (X.pn ++ pins)).run [] s5 _ _ (drop1 D i) I5 (w a na)) (fun f s6 sp => ?_) (fun _ _ no => no.elim)
  have close : ∀ {σ6 : L2.St} {H6 : Hp} {Q : Shared → Prop}, Inv (X.suite a (X.pn ++ pins)) [] σ6 H6 s6 → (∀ s7, Inv X pins (σ6.set i none) H6 s7 → Q s7) →
      wpAny (model X.prog X.w) X.A (do bindName X.env n .none; unbindBehindTheSuite X.env n p1) (fun _ s7 => Q s7) X.xe s6 := fun {σ6 H6 Q} I6 q => gone_ok (Inv.without I6 ok) hN hi hln q
  match f, sp with
  | .next, ⟨_, _, I6, q⟩ => exact close I6 fun s7 I7 => ⟨_, _, I7, q⟩
  | .brk, ⟨_, _, I6, q⟩ => exact close I6 fun s7 I7 => ⟨_, _, I7, q⟩
  | .cont, ⟨_, _, I6, q⟩ => exact close I6 fun s7 I7 => ⟨_, _, I7, q⟩
  | .ret _, ⟨_, _, _, I6, r, q⟩ => exact close I6 fun s7 I7 => ⟨_, _, _, I7, r, q⟩
/-- try: .. except x as n: .., the exception kept -/
theorem ps_keep (hs : X.stack = X.env :: X.outer) (hf : X.env.frame = some X.env.locals) (hN : X.N.Nodup) (hi : X.N[i]? = some n) (hln : X.env.kindOf n = some .local) (hc : Names X x c)
    (hb : ∀ (W : WX) (pn : List (Addr × Obj)) (xe : Value → Shared → Prop), Takes (X.tr pn xe) W → PSs (X.tr pn xe) body (tb W))
    (hsu : ∀ (a : Addr) (cls : Value) (d : Option Addr) (pn : List (Addr × Obj)), PSs (X.suite a pn) (s0 :: more) (ts a cls d)) :
    PS X (.Try body [.ExceptHandler (some (.Name x np)) (some n) (s0 :: more) p1] [] [] pos) (fun D σ H => tb (wKeep X.K c i ts D) D σ H) := by
  refine ⟨fun pins s σ H D I h => wpAny_Try_except ?_⟩
  have ok := I.ok
  refine wpAny_mono ((hb (wKeep X.K c i ts D) (X.pn ++ pins) _ fun u s' air => met hs hf hN hi hln hc ok hsu rfl air).run [] s σ H D (I.toTry _) h) (fun f s1 sp => ?_) (fun _ _ q => q)
  match f, sp with
  | .next, ⟨_, _, J, q⟩ => exact wpAny_execs_nil ⟨_, _, J.ofTry ok, q⟩
  | .brk, ⟨_, _, J, q⟩ => exact ⟨_, _, J.ofTry ok, q⟩
  | .cont, ⟨_, _, J, q⟩ => exact ⟨_, _, J.ofTry ok, q⟩
  | .ret _, ⟨_, _, _, J, r, q⟩ => exact ⟨_, _, _, J.ofTry ok, r, q⟩
end
end Ow

namespace Ow
open PySem PySem.Spec PyProof.Rows L2
/-- a kept exception of the class at C with these fields -/
def Kept (H : Hp) (a C : Addr) (fs : List (Str × V)) : Prop := ∃ d, H a = some (exk a (.ref C) (some d)) ∧ H d = some (.xd fs)
/-- one of a class without an own __init__ -/
def Kept0 (H : Hp) (a C : Addr) : Prop := H a = some (exk a (.ref C) none)
theorem exk_at {P : Program} {w : World} {H : Hp} {h : Heap} {a : Addr} {cls : Value} {d : Option Addr} (ok : HOk P w H h) (e : H a = some (exk a cls d)) : ∃ (o : Obj) (vs : Array Value), h.get? a = some o ∧ Zc cls d o ∧ o.data = .fields vs := by
  have q : ObjOk P w H h a (exk a cls d) := ok a _ e
  exact q.1
section
variable {X : Cx} {te : TE} {f : Str} {e : Expr}
theorem kept_inst {H : Hp} {h : Heap} {a C : Addr} {fs : List (Str × V)} (ok : HOk X.prog X.w H h) (k : Kept H a C fs) : ∃ (o od : Obj) (mA : Str → Option Value), PySem.W.InstAt h a o C (some od) ∧ (∀ f, PySem.W.lookIn f od = some (mA f)) ∧ ∀ f, RelO (fs.lookup f) (mA f) := by
  obtain ⟨d, ea, ed⟩ := k
  obtain ⟨o, vs, e1, z1, d1⟩ := exk_at ok ea
  have q : ObjOk X.prog X.w H h d (.xd fs) := ok d _ ed
  obtain ⟨mA, hns, hr⟩ := q
  obtain ⟨od, ho, hl⟩ := lookIn_ns hns
  exact ⟨o, od, mA, ⟨e1, z1.1, by unfold PySem.W.notCls; rw [d1] <;> rfl, by rw [z1.2]; exact ho⟩, hl, hr⟩
theorem kept0_inst {H : Hp} {h : Heap} {a C : Addr} (ok : HOk X.prog X.w H h) (k : Kept0 H a C) : ∃ o, PySem.W.InstAt h a o C none := by
  obtain ⟨o, vs, e1, z1, d1⟩ := exk_at ok k
  refine ⟨o, e1, z1.1, by unfold PySem.W.notCls; rw [d1] <;> rfl, ?_⟩
  rw [z1.2]
  trivial
/-- a kept exception's field -/
def tKf (K : PySem.W.Frag) (f : Str) (te : TE) : TE := fun σ H Q => te σ H fun x H1 => ∃ (a C : Addr) (fs : List (Str × V)) (v : V), x = .ref a ∧ Kept H1 a C fs ∧ XfC K C ∧ PySem.W.findIn K (.ref C) f = some none ∧ fs.lookup f = some v ∧ Q v H1
theorem pe_kf {pos : Pos} (he : PE X e te) (hb : attributeBase e f X.env (eval e X.env) = eval e X.env := by rfl) : PE X (.Attribute e f pos) (tKf X.K f te) := by
  refine ⟨fun pins s σ H Q I h => attr_of hb (thn (he.run pins s σ H _ I h) fun u s1 q => ?_)⟩
  obtain ⟨x, H1, I1, rx, a, C, fs, v, rfl, k, T, no, l, q⟩ := q
  obtain rfl : u = Value.ref a := rx
  obtain ⟨o, od, mA, J, hl, hr⟩ := kept_inst I1.hok k
  obtain ⟨u, hu, ru⟩ := RelO.some_of (v := v) (o := mA f) (l ▸ hr f)
  exact HandSPX.exc_get I1.kIn J T.ga T.gg T.exC (PySem.W.findObj_own T.hdC no rfl (by rw [hl, hu])) (handed_of ru) ⟨v, H1, I1.tok _, ru, q⟩
/-- isinstance of one -/
def rIsK (K : PySem.W.Frag) : List V → Hp → VK → Prop := fun xs H Q => ∃ (a C : Addr) (c : V) (cv : Value) (b : Bool), xs = [.ref a, c] ∧ ((∃ fs, Kept H a C fs) ∨ Kept0 H a C) ∧ ExcC K C ∧ (∀ u, RelV c u → u = cv) ∧ PySem.W.kitOne K (.ref C) cv = some b ∧ Q (.bl b) H
theorem call_isK : CallR X (.builtin "isinstance") (rIsK X.K) := by
  intro pins s σ H xs us Q I r h
  obtain ⟨a, C, c, cv, b, rfl, ha, T, hcv, e, q⟩ := h
  obtain ⟨u1, u2, rfl, r1, r2⟩ := vals2 r
  obtain rfl : u1 = Value.ref a := r1
  obtain rfl := hcv _ r2
  have there : (PySem.W.clsIn X.K C).isSome = true := by
    obtain ⟨cd, hc, _⟩ := PySem.W.any_some T.hd
    exact hc ▸ rfl
  rcases ha with ⟨fs, k⟩ | k
  · obtain ⟨o, od, mA, J, _⟩ := kept_inst I.hok k
    exact PySem.W.kia_one (PySem.W.kitx_exc there T.hg T.hk T.hs T.ha T.hn T.ht T.hm) I.kIn J e (fun z => nomatch z) fun tk => ⟨.bl b, H, I.tok tk, rfl, q⟩
  · obtain ⟨o, J⟩ := kept0_inst I.hok k
    exact PySem.W.kia_one (PySem.W.kitx_exc there T.hg T.hk T.hs T.ha T.hn T.ht T.hm) I.kIn J e (fun z => nomatch z) fun tk => ⟨.bl b, H, I.tok tk, rfl, q⟩
end
end Ow

/-! What has to come in a text, sign by sign. -/
namespace Ow
open PySem PySem.Spec PyProof.Rows L2
inductive Due | nm | kd | tm | sg | ts | c1 | cs | m1 | ms | nc | np | cl | gs | fi | da | de | eq | ea | az
  deriving DecidableEq
/-- what comes behind a sign where this is due, the next thing first -/
def beh : Due → Nat → Option (List Due)
  | .nm, c => if ltr c = true then some [] else none
  | .kd, c => if ltr c = true then some [] else if c = 40 then some [.gs, .kd, .kd, .cl] else none
  | .tm, c => if ltr c = true then some [] else if c = 40 then some [.sg] else if c = 64 then some [.nm] else none
  | .sg, c => if c = 94 then some [.nm, .kd, .tm, .cl] else if c = 47 ∨ c = 43 then some [.tm, .nm, .nm, .tm, .cl] else if c = 35 then some [.nm, .ts] else if c = 63 then some [.tm, .c1] else if c = 33 ∨ c = 38 ∨ c = 45 then some [.tm, .tm, .cl] else none
  | .ts, c => if c = 41 then some [] else if ltr c = true then some [.ts] else if c = 40 then some [.sg, .ts] else if c = 64 then some [.nm, .ts] else none
  | .c1, c => if c = 40 then some [.nm, .nc, .tm, .cl, .cs] else none
  | .cs, c => if c = 40 then some [.nm, .nc, .tm, .cl, .cs] else if c = 41 then some [] else none
  | .m1, c => if c = 40 then some [.nm, .np, .ms] else none
  | .ms, c => if c = 40 then some [.nm, .np, .ms] else if c = 41 then some [] else none
  | .nc, c => if ltr c = true then some [.nc] else if c = 58 then some [] else none
  | .np, c => if ltr c = true then some [.np] else if c = 41 then some [] else none
  | .cl, c => if c = 41 then some [] else none
  | .gs, c => if c = 62 ∨ c = 42 then some [] else none
  | .fi, c => if c = 40 then some [.eq] else none
  | .da, c => if c = 40 then some [.ea] else none
  | .de, c => if c = 40 then some [.az] else none
  | .eq, c => if c = 61 then some [.nm, .m1, .da] else none
  | .ea, c => if c = 61 then some [.nm, .m1, .da] else if c = 64 then some [.nm, .kd, .tm, .cl, .de] else none
  | .az, c => if c = 64 then some [.nm, .kd, .tm, .cl, .de] else none
def fin : List Due → Bool
  | [] => true
  | [.da] => true
  | [.de] => true
  | _ => false
/-- the first sign with which nothing goes on -/
def oddC : List Nat → Nat → Nat → List Due → Option Nat
  | [], p, _, st => if fin st = true then none else some p
  | c :: r, p, l, st => if ltr c = true ∧ 0 < l then (if l = 8 then some p else oddC r (p + 1) (l + 1) st)
      else if bl c = true then oddC r (p + 1) 0 st
      else match st with
        | [] => some p
        | d :: st' => match beh d c with
          | none => some p
          | some more => oddC r (p + 1) (if ltr c = true then 1 else 0) (more ++ st')
theorem odd_cons (c : Nat) (r : List Nat) (p l : Nat) (st : List Due) : oddC (c :: r) p l st = if ltr c = true ∧ 0 < l then (if l = 8 then some p else oddC r (p + 1) (l + 1) st)
      else if bl c = true then oddC r (p + 1) 0 st
      else match st with
        | [] => some p
        | d :: st' => match beh d c with
          | none => some p
          | some more => oddC r (p + 1) (if ltr c = true then 1 else 0) (more ++ st') := by
  rw [oddC.eq_def]
def Od (x : Str) (n : Nat) (st : List Due) : Option Nat := oddC (x.cps.toList.drop n) n 0 st
theorem odd_letters {t : List Nat} {st : List Due} (ht : headNo t) : ∀ {w : List Nat} {p l : Nat}, (∀ c ∈ w, ltr c = true) → 1 ≤ l → l ≤ 8 → oddC (w ++ t) p l st = if l + w.length ≤ 8 then oddC t (p + w.length) 0 st else some (p + (8 - l))
  | [], p, l, _, h1, h8 => by
    rw [List.nil_append, if_pos (by simpa using h8), List.length_nil, Nat.add_zero]
    cases t with
    | nil => rfl
    | cons c t =>
      have e : ltr c = false := ht c t rfl
      rw [odd_cons, odd_cons]
      simp only [e, Bool.false_eq_true, false_and, if_false]
  | c :: w, p, l, hw, h1, h8 => by
    have hc := hw c (List.mem_cons_self ..)
    rw [List.cons_append, odd_cons, if_pos ⟨hc, h1⟩]
    by_cases e : l = 8
    · subst e
      rw [if_pos rfl, if_neg (by rw [List.length_cons]; omega), Nat.sub_self, Nat.add_zero]
    · rw [if_neg e, odd_letters ht (fun d hd => hw d (List.mem_cons_of_mem _ hd)) (by omega) (by omega), List.length_cons]
      by_cases q : l + (w.length + 1) ≤ 8
      · rw [if_pos (by omega), if_pos q, Nat.add_assoc, Nat.add_comm 1]
      · rw [if_neg (by omega), if_neg q]
        congr 1
        omega
theorem odd_blanks {r : List Nat} {st : List Due} : ∀ {b : List Nat} {p l : Nat}, (∀ c ∈ b, bl c = true) → (l = 0 ∨ b ≠ []) → oddC (b ++ r) p l st = oddC r (p + b.length) 0 st
  | [], p, l, _, h => by
    rcases h with rfl | h
    · rfl
    · exact absurd rfl h
  | c :: b, p, l, hb, _ => by
    have hc := hb c (List.mem_cons_self ..)
    have nl : ltr c = false := bl_ltr hc
    rw [List.cons_append, odd_cons, if_neg (by simp [nl]), if_pos hc, odd_blanks (fun d hd => hb d (List.mem_cons_of_mem _ hd)) (.inl rfl), List.length_cons, Nat.add_assoc, Nat.add_comm 1]
section
variable {x : Str} {n c : Nat} {w : List Nat} {ws : List (List Nat)} {st : List Due}
theorem od_end (h : At x n []) : Od x n st = if fin st = true then none else some x.length := by
  obtain ⟨q, t, hD, ht⟩ := h.dr
  have hle := h.le
  unfold Od
  generalize hd : x.cps.toList.drop n = rest at hD
  cases hD
  have := odd_blanks (r := []) (st := st) (p := n) (l := 0) ht (.inl rfl)
  rw [List.append_nil] at this
  rw [this]
  have e : n + (x.cps.toList.drop n).length = x.length := by
    rw [List.length_drop]
    have : x.cps.toList.length = x.length := rfl
    omega
  rw [← hd, e]
  rfl
/-- to the next token -/
theorem od_skip (h : At x n (w :: ws)) : Od x n st = Od x (skipN x.cps.toList n) st := by
  obtain ⟨q, t, hD, ht⟩ := h.dr
  obtain ⟨c, w', rfl, hc⟩ := h.ne w (List.mem_cons_self ..)
  generalize hd : x.cps.toList.drop n = rest at hD
  cases hD with
  | @cons _ w b r t ws hb hs hD =>
    obtain ⟨e1, e2, e3⟩ := skip_at (r := w' ++ r) (by simpa using hd) hb hc
    unfold Od
    rw [e1, hd, odd_blanks hb (.inl rfl), ← List.drop_drop, hd, List.drop_left']
    rfl
theorem od_sign (h : At x n ([c] :: ws)) (nl : ltr c = false) : Od x n st = match st with
    | [] => some (skipN x.cps.toList n)
    | d :: st' => match beh d c with
      | none => some (skipN x.cps.toList n)
      | some more => Od x (skipN x.cps.toList n + 1) (more ++ st') := by
  rw [od_skip h]
  obtain ⟨c', w', e, hb, e2, hl, r, t, e3, hD, ht⟩ := h.head
  cases e
  unfold Od
  rw [← List.drop_drop, e3]
  show oddC (c :: r) _ _ _ = _
  rw [odd_cons, if_neg (by simp [nl]), if_neg (by simp [hb])]
  simp only [nl, Bool.false_eq_true, if_false]
  rfl
theorem od_word (h : At x n (w :: ws)) (hw : ∀ c ∈ w, ltr c = true) (e0 : w.head? = some c) : Od x n st = match st with
    | [] => some (skipN x.cps.toList n)
    | d :: st' => match beh d c with
      | none => some (skipN x.cps.toList n)
      | some more => if w.length ≤ 8 then Od x (skipN x.cps.toList n + w.length) (more ++ st') else some (skipN x.cps.toList n + 8) := by
  rw [od_skip h]
  obtain ⟨c', w', rfl, hb, e2, hl, r, t, e3, hD, ht⟩ := h.head
  obtain rfl : c' = c := Option.some.inj e0
  have hlast := last_letters hw (by simp)
  rw [hlast] at hD
  have hn := hD.head (fun w hw => (h.ne w (List.mem_cons_of_mem _ hw)).ne) (head_bl ht)
  unfold Od
  rw [← List.drop_drop, e3, List.drop_left']
  · rw [List.cons_append, odd_cons, if_neg (by simp), if_neg (by simp [hb])]
    have hc : ltr c' = true := hw c' (List.mem_cons_self ..)
    cases st with
    | nil => rfl
    | cons d st' =>
      simp only [hc, if_true]
      cases beh d c' with
      | none => rfl
      | some more =>
        simp only
        rw [odd_letters hn (fun d hd => hw d (List.mem_cons_of_mem _ hd)) (Nat.le_refl 1) (by decide), List.length_cons]
        by_cases q : w'.length + 1 ≤ 8
        · rw [if_pos (by omega), if_pos q, Nat.add_assoc, Nat.add_comm 1]
        · rw [if_neg (by omega), if_neg q]
  · rfl
end
end Ow

/-! Defs that may raise. -/
namespace Ow
open PySem PySem.Spec PyProof.Rows L2
structure CallX (P : Program) (w : World) (K : PySem.W.Frag) (mg : Str → Option Value) (base : Heap) (k : Nat) (x : Str) (ps : List Str) (sp : Sp) : Prop where
  ex : ∃ (f : Addr) (fd : FuncData), FnOk P w K mg base (L2.CX P w) k f fd ps sp ∧ mg x = some (.ref f) ∧ PySem.W.keepIn K (.ref f) = true ∧ L2.Binds K fd ps []
structure MethX (P : Program) (w : World) (K : PySem.W.Frag) (mg : Str → Option Value) (base : Heap) (k : Nat) (C : Addr) (m : Str) (ps : List Str) (sp : Sp) : Prop where
  ex : ∃ (f : Addr) (fd : FuncData), L2.Meth K C m f ∧ FnOk P w K mg base (L2.CX P w) k f fd ps sp ∧ L2.Binds K fd ps []
/-- a def at f that may raise, by whatever name -/
structure HeldX (P : Program) (w : World) (K : PySem.W.Frag) (mg : Str → Option Value) (base : Heap) (k : Nat) (f : Addr) (sp : Sp) : Prop where
  ex : ∃ (fd : FuncData) (ps : List Str), FnOk P w K mg base (L2.CX P w) k f fd ps sp ∧ PySem.W.keepIn K (.ref f) = true ∧ L2.Binds K fd ps []
section
variable {P : Program} {w : World} {K : PySem.W.Frag} {mg : Str → Option Value} {base : Heap} {N ps : List Str} {k j i : Nat} {sp sp' : Sp} {f C : Addr} {fd : FuncData} {x m qual : Str} {st : Stmt} {scope : Scope} {cd : Value} {A : Around} {outer : List Env} {s : Shared} {H : Hp} {E : XK}
theorem cx_takes : Takes (cxOf (L2.CX P w) P w K mg base N qual scope f cd A outer s H E) (fun cls d _ H => E cls d H) := takes_of rfl rfl rfl rfl
theorem cx_passes : Passes (L2.CX P w) (cxOf (L2.CX P w) P w K mg base N qual scope f cd A outer s H E) E := passes_call cx_takes fun _ _ _ _ h => h
theorem cx_own : PassesOwn (model P w) (cxOf (L2.CX P w) P w K mg base N qual scope f cd A outer s H E).A (cxOf (L2.CX P w) P w K mg base N qual scope f cd A outer s H E).env (cxOf (L2.CX P w) P w K mg base N qual scope f cd A outer s H E).xe := passes_of rfl
theorem DefF.okX (D : DefF K mg x st ps f fd) (S : FnScope N ps (defScope st)) (len : ∀ vs H Q E, sp vs H Q E → vs.length = ps.length)
    (hbody : ∀ (cdv : Value) (A : Around) (outer : List Env) (s : Shared) (H : Hp) (vs : List V) (Q : VK) (E : XK), Room k (A.deeper (envOfC x (defScope st) s.heap.objs.size f cdv)) → sp vs H Q E →
      ∃ t, PSs (cxOf (L2.CX P w) P w K mg base N x (defScope st) f cdv A outer s H E) (defBody st) t ∧ t { nx := fun _ H' => Q .non H', rt := Q } (start N vs) H) : FnOk P w K mg base (L2.CX P w) (k + 1) f fd ps sp :=
  D.F.okX S len fun cdv A outer s H vs Q E hr h => hbody cdv A outer s H vs Q E hr h
theorem MethAt.okX (D : MethAt K C m qual st ps) (S : FnScope N ps (defScope st)) (len : ∀ vs H Q E, sp vs H Q E → vs.length = ps.length)
    (hbody : ∀ (f : Addr) (cdv : Value) (A : Around) (outer : List Env) (s : Shared) (H : Hp) (vs : List V) (Q : VK) (E : XK), Room k (A.deeper (envOfC qual (defScope st) s.heap.objs.size f cdv)) → sp vs H Q E →
      ∃ t, PSs (cxOf (L2.CX P w) P w K mg base N qual (defScope st) f cdv A outer s H E) (defBody st) t ∧ t { nx := fun _ H' => Q .non H', rt := Q } (start N vs) H) : MethX P w K mg base (k + 1) C m ps sp := by
  obtain ⟨f, fd, hm, F, hb⟩ := D.ex
  exact ⟨f, fd, hm, F.okX S len fun cdv A outer s H vs Q E hr h => hbody f cdv A outer s H vs Q E hr h, hb⟩
theorem DefF.callX (D : DefF K mg x st ps f fd) (h : FnOk P w K mg base (L2.CX P w) k f fd ps sp) : CallX P w K mg base k x ps sp := ⟨f, fd, h, D.g, D.F.kp, D.b⟩
theorem DefF.heldX (D : DefF K mg x st ps f fd) (h : FnOk P w K mg base (L2.CX P w) k f fd ps sp) : HeldX P w K mg base k f sp := ⟨fd, ps, h, D.F.kp, D.b⟩
theorem MethX.imp (M : MethX P w K mg base k C m ps sp) (h : ∀ vs H Q E, sp' vs H Q E → sp vs H Q E) : MethX P w K mg base k C m ps sp' := by
  obtain ⟨f, fd, hm, F, hb⟩ := M.ex
  exact ⟨f, fd, hm, F.imp h, hb⟩
end
section
variable {X : Cx} {k j i : Nat} {x m : Str} {C : Addr} {ps : List Str} {sp : Sp} {pos apos p pos2 : Pos} {e o : Expr} {es : List Expr} {t : TA} {to te : TE} {pl : Sem Bool} {E : XK} {W : WX}
theorem pe_methX (M : MethX X.prog X.w X.K X.mg X.base k C m ps sp) (hx : Passes (L2.CX X.prog X.w) X E) (c : L2.Cls X.K C) (hr : Room j X.A) (hj : k ≤ j) (ho : PE X o to) (ha : PA X (e :: es) t)
    (he : starEach (e :: es) X.env = (false, eval e X.env) :: starEach es X.env := by rfl) (hpl : (backTo pos (starEach es X.env)).any (·.1) = false := by rfl)
    (ht : eval (.Call (.Attribute o m apos) (e :: es) [] pos) X.env = (do
      let ov ← eval o X.env
      standAt apos.atName
      let (f, first) ← holding [ov] (getMethod ov m pl)
      callWith pos f first (backTo pos (starEach (e :: es) X.env)) (backToKw pos (keywordEach [] X.env))) := by rfl) :
    PE X (.Call (.Attribute o m apos) (e :: es) [] pos) (tMeth C m sp [] E to t) := by
  obtain ⟨f, fd, hm, F, hb⟩ := M.ex
  exact pe_meth (pl := pl) ho c hm F (hr.mono hj) hb .nil hx ha he hpl ht
theorem pe_methX0 (M : MethX X.prog X.w X.K X.mg X.base k C m ps sp) (hx : Passes (L2.CX X.prog X.w) X E) (c : L2.Cls X.K C) (hr : Room j X.A) (hj : k ≤ j) (ho : PE X o to)
    (ht : eval (.Call (.Attribute o m apos) [] [] pos) X.env = (do
      let ov ← eval o X.env
      standAt apos.atName
      let (f, first) ← holding [ov] (getMethod ov m pl)
      callWith pos f first (backTo pos (starEach [] X.env)) (backToKw pos (keywordEach [] X.env))) := by rfl) :
    PE X (.Call (.Attribute o m apos) [] [] pos) (tMeth C m sp [] E to tNil) := by
  obtain ⟨f, fd, hm, F, hb⟩ := M.ex
  exact pe_meth0 (pl := pl) ho c hm F (hr.mono hj) hb .nil hx ht
/-- f(..), f a def that may raise; where it does, W goes on from this state -/
def tCallW (sp : Sp) (W : WX) (t : TA) : TE := fun σ H Q => t σ H fun vs H1 => sp vs H1 Q (fun cls d H' => W cls d σ H')
theorem pe_callX (M : CallX X.prog X.w X.K X.mg X.base k x ps sp) (tk : Takes X W) (hr : Room j X.A) (hj : k ≤ j) (hg : Gl X x) (ha : PA X (e :: es) t)
    (hdb : (x == ("__debug__" : Str)) = false := by decide) (he : starEach (e :: es) X.env = (false, eval e X.env) :: starEach es X.env := by rfl) (hpl : (backTo pos (starEach es X.env)).any (·.1) = false := by rfl) :
    PE X (.Call (.Name x p) (e :: es) [] pos) (tCallW sp W t) := by
  obtain ⟨f, fd, F, hm, hk, hb⟩ := M.ex
  exact pe_callS (E := fun σ cls d H' => W cls d σ H') F (hr.mono hj) hg hm hk hb (fun σ pins H s e s' I c => tk _ _ (XE.of_call I (fun cls d H' h => h) c)) ha hdb he hpl
/-- a call of what a slot holds, which may raise -/
def tCallY (P : Program) (w : World) (K : PySem.W.Frag) (mg : Str → Option Value) (base : Heap) (k : Nat) (E : XK) (i : Nat) (t : TA) : TE := fun σ H Q => ∃ f sp, σ[i]? = some (some (.ref f)) ∧ HeldX P w K mg base k f sp ∧ t σ H fun vs H1 => sp vs H1 Q E
theorem pe_callY (hr : Room j X.A) (hj : k ≤ j) (hx : Passes (L2.CX X.prog X.w) X E) (hN : X.N[i]? = some x) (hv : Vis X.env.scope x) (ha : PA X (e :: es) t)
    (hdb : (x == ("__debug__" : Str)) = false := by decide) (hcd : (x == ("__classdict__" : Str)) = false := by decide)
    (he : starEach (e :: es) X.env = (false, eval e X.env) :: starEach es X.env := by rfl) (hpl : (backTo pos (starEach es X.env)).any (·.1) = false := by rfl) : PE X (.Call (.Name x p) (e :: es) [] pos) (tCallY X.prog X.w X.K X.mg X.base k E i t) := by
  refine ⟨fun pins s σ H Q I h => ?_⟩
  obtain ⟨f, sp, hs, ⟨fd, ps, F, hk, hb⟩, ht⟩ := h
  refine (pe_callL (i := i) (f := f) (sp := sp) (dvs := []) (E := E) F (hr.mono hj) hN hv hk hb .nil hx ha hdb hcd he hpl).run pins s σ H Q I ⟨hs, ?_⟩
  have e0 : (fun (vs : List V) (H1 : Hp) => sp (vs ++ []) H1 Q E) = fun vs H1 => sp vs H1 Q E := by
    funext vs H1
    rw [List.append_nil]
  show t σ H (fun vs H1 => sp (vs ++ []) H1 Q E)
  rw [e0]
  exact ht
/-- what __init__ of a class with one field promises -/
def spAt (C : Addr) (f : Str) : Sp := fun vs H Q _ => ∃ (a : Addr) (v : V), vs = [.ref a, v] ∧ H a = some (exo a C none) ∧ ∀ dx, H dx = none → dx ≠ a → Q .non (upd (upd H dx (exd dx [(f, v)])) a (exo a C (some dx)))
structure OneF (P : Program) (w : World) (K : PySem.W.Frag) (mg : Str → Option Value) (base : Heap) (x : Str) (C : Addr) (f : Str) : Prop where
  ex : ∃ (fI : Addr) (fd : FuncData), OexC K C ∧ PySem.W.findIn K (.ref C) "__init__" = some (some (.ref fI)) ∧ PySem.W.typeIn K (.ref fI) = some (.type "function") ∧ FnOk P w K mg base CX0 2 fI fd ["self", f] (spAt C f) ∧ L2.Binds K fd ["self", f] [] ∧ mg x = some (.ref C)
/-- raise C(e) -/
abbrev tRz (C : Addr) (f : Str) (te : TE) (E : XK) : L2.TS := fun _ σ H => tMkO C (spAt C f) [] (tCons te tNil) σ H fun cls d H' => E cls d H'
theorem ps_rz {f : Str} (N : OneF X.prog X.w X.K X.mg X.base x C f) (hc : X.calm = true) (tk : Takes X (fun cls d _ H => E cls d H)) (hr : Room j X.A) (hj : 3 ≤ j) (hg : Gl X x) (he : PE X e te) (hdb : (x == ("__debug__" : Str)) = false := by decide)
    (h1 : starEach [e] X.env = (false, eval e X.env) :: starEach [] X.env := by rfl) (hpl : (backTo pos (starEach [] X.env)).any (·.1) = false := by rfl) :
    PS X (.Raise (some (.Call (.Name x p) [e] [] pos)) none pos2) (tRz C f te E) := by
  obtain ⟨fI, fd, T, iC, tI, F, hb, hm⟩ := N.ex
  exact ps_raise hc tk (pmk_oex (dvs := []) T iC tI F (hr.mono hj) hb .nil pass0 hg hm (pa_cons he pa_nil h1) hdb h1 hpl)
theorem del_upd {H : Hp} {a dx : Addr} {o o1 : HO} {oe : HO} (na : H a = none) (nd : dx ≠ a) : upd (del (upd (upd (upd H a o) dx o1) a oe) a) dx o1 = upd H dx o1 := by
  funext b
  by_cases e1 : b = dx
  · subst e1
    rw [upd_same, upd_same]
  · rw [upd_ne e1, upd_ne e1]
    by_cases e2 : b = a
    · subst e2
      rw [del_same, na]
    · rw [del_ne e2, upd_ne e2, upd_ne e1, upd_ne e2]
theorem del_upd2 {H : Hp} {a dx : Addr} {o o1 o2 : HO} {oe : HO} (na : H a = none) (nd : dx ≠ a) : upd (del (upd (upd (upd H a o) dx o1) a oe) a) dx o2 = upd H dx o2 := by
  funext b
  by_cases e1 : b = dx
  · subst e1
    rw [upd_same, upd_same]
  · rw [upd_ne e1, upd_ne e1]
    by_cases e2 : b = a
    · subst e2
      rw [del_same, na]
    · rw [del_ne e2, upd_ne e2, upd_ne e1, upd_ne e2]
/-- what is raised, told by the value of its field -/
theorem rz_at {C : Addr} {f : Str} {v : V} {H1 : Hp} (h : ∀ d, H1 d = none → E (.ref C) (some d) (upd H1 d (.xd [(f, v)]))) : ([v] : List V).length ≤ 1000 ∧ ∀ a, H1 a = none → spAt C f (.ref a :: ([v] ++ [])) (upd H1 a (exo a C none))
    (fun v H2 => v = .non ∧ ∃ (d : Addr) (fs : List (Str × V)), H2 a = some (exo a C (some d)) ∧ H2 d = some (exd d fs) ∧ H1 d = none ∧ E (.ref C) (some d) (upd (del H2 a) d (.xd fs))) (fun _ _ _ => False) := by
  refine ⟨by show 1 ≤ 1000; decide, fun a na => ⟨a, v, rfl, upd_same, fun dx nd ne => ⟨rfl, dx, [(f, v)], upd_same, ?_, ?_, ?_⟩⟩⟩
  · rw [upd_ne ne, upd_same]
  · rw [upd_ne ne] at nd
    exact nd
  · rw [del_upd2 na ne]
    rw [upd_ne ne] at nd
    exact h dx nd
end
end Ow

/-! What readers promise of any text. -/
namespace Ow
open PySem PySem.Spec PyProof.Rows L2
/-- a token: letters, or one other sign -/
def Tk1 (w : List Nat) : Prop := (w ≠ [] ∧ ∀ c ∈ w, ltr c = true) ∨ ∃ c, w = [c] ∧ ltr c = false
/-- how many brackets come to be open at once, at most -/
def nst : List (List Nat) → Nat
  | [] => 0
  | w :: r => if w = [40] then nst r + 1 else if w = [41] then nst r - 1 else nst r
theorem nst_open (r : List (List Nat)) : nst ([40] :: r) = nst r + 1 := rfl
theorem nst_close (r : List (List Nat)) : nst r ≤ nst ([41] :: r) + 1 := by
  show nst r ≤ (nst r - 1) + 1
  omega
theorem nst_other {w : List Nat} {r : List (List Nat)} (h1 : w ≠ [40]) (h2 : w ≠ [41]) : nst (w :: r) = nst r := by
  rw [nst, if_neg h1, if_neg h2]
theorem nst_word {w : List Nat} {r : List (List Nat)} (h : ∀ c ∈ w, ltr c = true) : nst (w :: r) = nst r := by
  refine nst_other ?_ ?_
  · rintro rfl
    exact absurd (h 40 (List.mem_cons_self ..)) (by decide +kernel)
  · rintro rfl
    exact absurd (h 41 (List.mem_cons_self ..)) (by decide +kernel)
structure RdS (C : Addr) (H : Hp) (r : Addr) (x : Str) (n : Nat) (ws : List (List Nat)) : Prop where
  rd : RdAt C H r x n
  xl : x.length ≤ 1000000
  A : At x n ws
  tk : ∀ w ∈ ws, Tk1 w
theorem RdS.same {C : Addr} {H H' : Hp} {r : Addr} {x : Str} {n : Nat} {ws : List (List Nat)} (s : Same H H') (h : RdS C H r x n ws) : RdS C H' r x n ws := ⟨h.rd.same s, h.xl, h.A, h.tk⟩
theorem RdS.put {C D : Addr} {H : Hp} {o : HO} {r : Addr} {x : Str} {n : Nat} {ws : List (List Nat)} (ne : D ≠ r) (h : RdS C H r x n ws) : RdS C (upd H D o) r x n ws := by
  obtain ⟨⟨dx, e⟩, a, b, c⟩ := h
  exact ⟨⟨dx, by rw [upd_ne ne.symm]; exact e⟩, a, b, c⟩
/-- an exception that tells this place flies -/
def Flies (C cN r : Addr) (H : Hp) (E : XK) (p : Nat) : Prop := ∀ (d : Addr) (H' : Hp), Kp r H H' → H' d = some (.xd [(("at" : Str), .int p)]) → E (.ref cN) (some d) H'
theorem Flies.kp {C cN r : Addr} {H H1 : Hp} {E : XK} {p : Nat} (h : Flies C cN r H E p) (k : Kp r H H1) : Flies C cN r H1 E p := fun d H' k' e => h d H' (k.trans k') e
theorem Flies.raise {C cN r : Addr} {H H1 : Hp} {E : XK} {p : Nat} (h : Flies C cN r H E p) (k : Kp r H H1) {d : Addr} (hd : H1 d = none) : E (.ref cN) (some d) (upd H1 d (.xd [(("at" : Str), .int p)])) := h d _ (k.lay hd) upd_same
theorem od_skip' {x : Str} {n : Nat} {ws : List (List Nat)} (h : At x n ws) (st : List Due) : Od x (skipN x.cps.toList n) st = Od x n st := by
  cases ws with
  | nil => rw [od_end h, od_end h.skip]
  | cons w ws => exact (od_skip h).symm
def spPeekX (C : Addr) : Sp := fun vs H Q _ => ∃ (r : Addr) (x : Str) (n : Nat) (ws : List (List Nat)), vs = [.ref r] ∧ RdS C H r x n ws ∧
  ∀ (n' : Nat) (H' : Hp), RdS C H' r x n' ws → skipN x.cps.toList n' = n' → (∀ st, Od x n st = Od x n' st) → Kp r H H' → Q (.str (headS ws)) H'
theorem skip_two {x : Str} {n : Nat} {ws : List (List Nat)} (h : At x n ws) : skipN x.cps.toList (skipN x.cps.toList n) = skipN x.cps.toList n := by
  cases ws with
  | nil => rw [h.skip.fin, h.fin]
  | cons w ws =>
    obtain ⟨c, w', rfl, hb, e2, _⟩ := h.head
    exact skip_stop e2 hb
theorem peekX {C : Addr} : ∀ vs H Q E, spPeekX C vs H Q E → spPeek C vs H Q E := fun vs H Q E ⟨r, x, n, ws, e, h, k⟩ =>
  ⟨r, x, n, e, h.rd, h.A.le, h.xl, fun H' h1 k1 => by
    rw [h.A.cut]
    exact k _ H' ⟨h1, h.xl, h.A.skip, h.tk⟩ (skip_two h.A) (fun st => (od_skip' h.A st).symm) k1⟩
def spTakeX (C cN : Addr) : Sp := fun vs H Q E => ∃ (r : Addr) (x z : Str) (n : Nat) (ws : List (List Nat)), vs = [.ref r, .str z] ∧ RdS C H r x n ws ∧ (∀ c ∈ z.cps.toList, ltr c = false) ∧
  (∀ (c : Nat) (ws' : List (List Nat)) (n' : Nat) (H' : Hp), ws = [c] :: ws' → c ∈ z.cps.toList → RdS C H' r x n' ws' → (∀ d st more, beh d c = some more → Od x n (d :: st) = Od x n' (more ++ st)) → Kp r H H' → Q (.str ⟨#[c]⟩) H') ∧
  ∀ p, (∀ d st, (ws = [] → fin (d :: st) = false) → (∀ c w ws', ws = (c :: w) :: ws' → c ∉ z.cps.toList → beh d c = none) → Od x n (d :: st) = some p) → Flies C cN r H E p
def spNameX (C cN : Addr) : Sp := fun vs H Q E => ∃ (r : Addr) (x : Str) (n : Nat) (ws : List (List Nat)), vs = [.ref r] ∧ RdS C H r x n ws ∧
  (∀ (z : Str) (ws' : List (List Nat)) (n' : Nat) (H' : Hp), ws = nmL z :: ws' → isNameD (.str z) = true → RdS C H' r x n' ws' → (∀ d st more, (∀ c, ltr c = true → beh d c = some more) → Od x n (d :: st) = Od x n' (more ++ st)) → Kp r H H' → Q (.str z) H') ∧
  ∀ p, (∀ d st, (ws = [] → fin (d :: st) = false) → (∀ c ws', ws = [c] :: ws' → ltr c = false → beh d c = none) → (∀ c, ltr c = true → ∃ more, beh d c = some more) → Od x n (d :: st) = some p) → Flies C cN r H E p
def spFinX (C cN : Addr) : Sp := fun vs H Q E => ∃ (r : Addr) (x : Str) (n : Nat) (ws : List (List Nat)), vs = [.ref r] ∧ RdS C H r x n ws ∧ (∀ H', ws = [] → Kp r H H' → Q .non H') ∧ ∀ p, ws ≠ [] → Od x n [] = some p → Flies C cN r H E p
/-- a reader of what is due -/
def RX (K : PySem.W.Frag) (C cN : Addr) (j : Nat) (D aft : List Due) (R : PyData → List (List Nat) → Prop) (F : List (List Nat) → Prop) : Sp := fun vs H Q E => ∃ (r : Addr) (x : Str) (n : Nat) (ws : List (List Nat)), vs = [.ref r] ∧ RdS C H r x n ws ∧ nst ws ≤ j ∧
  (∀ (v : V) (d : PyData) (tk ws' : List (List Nat)) (n' : Nat) (H' : Hp), Da K All H' v d → R d tk → ws = tk ++ ws' → F ws' → RdS C H' r x n' ws' → nst ws' ≤ nst ws → (∀ st, Od x n (D ++ st) = Od x n' (aft ++ st)) → Kp r H H' → Q v H') ∧
  ∀ p, (∀ st, Od x n (D ++ st) = some p) → Flies C cN r H E p
abbrev FTrue : List (List Nat) → Prop := fun _ => True
def FAt (c : Nat) : List (List Nat) → Prop := fun ws => ∃ ws', ws = [c] :: ws'
/-- a name read -/
def RNm : PyData → List (List Nat) → Prop := fun d tk => ∃ z : Str, isNameD (.str z) = true ∧ d = .str z ∧ tk = [nmL z]
/-- a kind read -/
inductive LK : PyData → List (List Nat) → Prop
  | name {z : Str} (h : isNameD (.str z) = true) : LK (.str z) [nmL z]
  | row {s : Nat} {a b : PyData} {ta tb : List (List Nat)} (hs : s = 62 ∨ s = 42) (ha : LK a ta) (hb : LK b tb) : LK (.tuple [.str ⟨#[s]⟩, a, b]) ([40] :: [s] :: (ta ++ (tb ++ [[41]])))

mutual
inductive LT : PyData → List (List Nat) → Prop
  | name {z : Str} (h : isNameD (.str z) = true) : LT (.str z) [nmL z]
  | df {z : Str} (h : isNameD (.str z) = true) : LT (.tuple [.str ⟨#[64]⟩, .str z]) [[64], nmL z]
  | row {s : Nat} {sl : List Str} {ds : List PyData} {tk : List (List Nat)} (hs : s ∈ termS) (hf : formOf ⟨#[s]⟩ = some sl) (h : LL sl ds tk) : LT (.tuple (.str ⟨#[s]⟩ :: ds)) ([40] :: [s] :: (tk ++ [[41]]))
inductive LL : List Str → List PyData → List (List Nat) → Prop
  | nil : LL [] [] []
  | cons {s : Str} {sl : List Str} {d : PyData} {ds : List PyData} {tk sk : List (List Nat)} (h : LS s d tk) (r : LL sl ds sk) : LL (s :: sl) (d :: ds) (tk ++ sk)
inductive LS : Str → PyData → List (List Nat) → Prop
  | name {z : Str} (h : isNameD (.str z) = true) : LS (sg "name") (.str z) [nmL z]
  | kind {d : PyData} {tk : List (List Nat)} (h : LK d tk) : LS (sg "kind") d tk
  | term {d : PyData} {tk : List (List Nat)} (h : LT d tk) : LS (sg "term") d tk
  | terms {ds : List PyData} {tk : List (List Nat)} (h : LTs ds tk) : LS (sg "terms") (.tuple ds) tk
  | cases {d : PyData} {ds : List PyData} {tk sk : List (List Nat)} (h : LC d tk) (r : LCs ds sk) : LS (sg "cases") (.tuple (d :: ds)) (tk ++ sk)
inductive LTs : List PyData → List (List Nat) → Prop
  | nil : LTs [] []
  | cons {d : PyData} {ds : List PyData} {tk sk : List (List Nat)} (h : LT d tk) (r : LTs ds sk) : LTs (d :: ds) (tk ++ sk)
inductive LC : PyData → List (List Nat) → Prop
  | mk {c : Str} {xs : List Str} {u : PyData} {uk : List (List Nat)} (hc : isNameD (.str c) = true) (hx : ∀ x ∈ xs, isNameD (.str x) = true) (h : LT u uk) : LC (.tuple [.str c, .tuple (xs.map strD), u]) ([40] :: nmL c :: (xs.map nmL ++ [58] :: (uk ++ [[41]])))
inductive LCs : List PyData → List (List Nat) → Prop
  | nil : LCs [] []
  | cons {d : PyData} {ds : List PyData} {tk sk : List (List Nat)} (h : LC d tk) (r : LCs ds sk) : LCs (d :: ds) (tk ++ sk)
end
def RTsX : PyData → List (List Nat) → Prop := fun d tk => ∃ ds, d = .tuple ds ∧ LTs ds tk
def RCsX : PyData → List (List Nat) → Prop := fun d tk => ∃ c ds t1 t2, d = .tuple (c :: ds) ∧ tk = t1 ++ t2 ∧ LC c t1 ∧ LCs ds t2
/-- one thing behind the other -/
inductive LRs (R : PyData → List (List Nat) → Prop) : List PyData → List (List Nat) → Prop
  | nil : LRs R [] []
  | cons {d : PyData} {ds : List PyData} {tk sk : List (List Nat)} (h : R d tk) (r : LRs R ds sk) : LRs R (d :: ds) (tk ++ sk)
theorem LRs.snoc {R : PyData → List (List Nat) → Prop} {d : PyData} {tk : List (List Nat)} (h : R d tk) : ∀ {ds : List PyData} {sk : List (List Nat)}, LRs R ds sk → LRs R (ds ++ [d]) (sk ++ tk)
  | _, _, .nil => by
    have := LRs.cons h (LRs.nil (R := R))
    rw [List.append_nil] at this
    exact this
  | _, _, .cons g r => by
    rw [List.append_assoc]
    exact .cons g (r.snoc h)
/-- read_until(reader, read, sign) where D is due, which stays so -/
def spUntX (K : PySem.W.Frag) (C cN f : Addr) (j : Nat) (D : Due) (R : PyData → List (List Nat) → Prop) (c : Nat) : Sp := fun vs H Q E => ∃ (r : Addr) (x : Str) (n : Nat) (ws : List (List Nat)), vs = [.ref r, .ref f, .str ⟨#[c]⟩] ∧ RdS C H r x n ws ∧ nst ws ≤ j ∧
  (∀ (t : Addr) (xs : List V) (ds : List PyData) (tk ws' : List (List Nat)) (n' : Nat) (H' : Hp), SqT K H' t xs → DaAll K All H' xs ds → LRs R ds tk → ws = tk ++ [c] :: ws' → RdS C H' r x n' ([c] :: ws') → nst ([c] :: ws') ≤ nst ws → (∀ st, Od x n (D :: st) = Od x n' (D :: st)) → Kp r H H' → Q (.ref t) H') ∧
  ∀ p, (∀ st, Od x n (D :: st) = some p) → Flies C cN r H E p
theorem RdS.tail {C : Addr} {H H' : Hp} {r : Addr} {x : Str} {n n' : Nat} {w : List Nat} {ws : List (List Nat)} (h : RdS C H r x n (w :: ws)) (h1 : RdAt C H' r x n') (hA : At x n' ws) : RdS C H' r x n' ws := ⟨h1, h.xl, hA, fun u hu => h.tk u (List.mem_cons_of_mem _ hu)⟩
theorem tk1_other {c : Nat} {w : List Nat} (h : Tk1 (c :: w)) (nl : ltr c = false) : w = [] := by
  rcases h with ⟨_, h⟩ | ⟨d, h, _⟩
  · rw [h c (List.mem_cons_self ..)] at nl
    cases nl
  · injection h
theorem tk1_word {c : Nat} {w : List Nat} (h : Tk1 (c :: w)) (l : ltr c = true) : ∀ d ∈ c :: w, ltr d = true := by
  rcases h with ⟨_, h⟩ | ⟨d, h, nl⟩
  · exact h
  · injection h with h
    subst h
    rw [l] at nl
    cases nl
/-- a first sign that can't come -/
theorem od_no {C : Addr} {H : Hp} {r : Addr} {x : Str} {n c : Nat} {w : List Nat} {ws : List (List Nat)} (h : RdS C H r x n ((c :: w) :: ws)) {d : Due} {st : List Due} (no : beh d c = none) : Od x n (d :: st) = some (skipN x.cps.toList n) := by
  cases hl : ltr c with
  | true =>
    rw [od_word h.A (tk1_word (h.tk _ (List.mem_cons_self ..)) hl) rfl]
    simp only [no]
  | false =>
    obtain rfl := tk1_other (h.tk _ (List.mem_cons_self ..)) hl
    rw [od_sign h.A hl]
    simp only [no]
theorem RdS.pos {C : Addr} {H : Hp} {r : Addr} {x : Str} {n : Nat} {ws : List (List Nat)} (h : RdS C H r x n ws) : ∃ dx, H r = some (.ins C dx (rdF x n)) := h.rd
theorem dr_len {q : Bool} {ws : List (List Nat)} {cs t : List Nat} (h : Dr q ws cs t) : (∀ w ∈ ws, w ≠ []) → ws.length ≤ cs.length := by
  induction h with
  | nil => exact fun _ => Nat.zero_le _
  | @cons p w b r t ws hb hs h ih =>
    intro hn
    have h1 := ih fun u hu => hn u (List.mem_cons_of_mem _ hu)
    have h2 : 1 ≤ w.length := by
      cases w with
      | nil => exact absurd rfl (hn _ (List.mem_cons_self ..))
      | cons _ _ => simp
    rw [List.length_cons, List.length_append, List.length_append]
    omega
theorem RdS.len {C : Addr} {H : Hp} {r : Addr} {x : Str} {n : Nat} {ws : List (List Nat)} (h : RdS C H r x n ws) : ws.length ≤ x.length := by
  obtain ⟨q, t, hD, _⟩ := h.A.dr
  have := dr_len hD fun w hw => (h.A.ne w hw).ne
  rw [List.length_drop] at this
  have e : x.cps.toList.length = x.length := rfl
  omega
end Ow

namespace Ow
open PySem PySem.Spec PyProof.Rows L2
theorem LRs.length {R : PyData → List (List Nat) → Prop} (hne : ∀ d tk, R d tk → tk ≠ []) : ∀ {ds : List PyData} {tk : List (List Nat)}, LRs R ds tk → ds.length ≤ tk.length
  | _, _, .nil => Nat.le_refl _
  | _, _, .cons (tk := tk) h r => by
    have := r.length hne
    have h2 : 1 ≤ tk.length := by
      cases tk with
      | nil => exact absurd rfl (hne _ _ h)
      | cons _ _ => simp
    rw [List.length_cons, List.length_append]
    omega
theorem lts_of : ∀ {ds : List PyData} {tk : List (List Nat)}, LRs LT ds tk → LTs ds tk
  | _, _, .nil => .nil
  | _, _, .cons h r => .cons h (lts_of r)
theorem lcs_of : ∀ {ds : List PyData} {tk : List (List Nat)}, LRs LC ds tk → LCs ds tk
  | _, _, .nil => .nil
  | _, _, .cons h r => .cons h (lcs_of r)
theorem lns_of : ∀ {ds : List PyData} {tk : List (List Nat)}, LRs RNm ds tk → ∃ xs : List Str, ds = xs.map strD ∧ tk = xs.map nmL ∧ ∀ z ∈ xs, isNameD (.str z) = true
  | _, _, .nil => ⟨[], rfl, rfl, fun _ h => nomatch h⟩
  | _, _, .cons ⟨z, hz, e1, e2⟩ r => by
    obtain ⟨xs, f1, f2, f3⟩ := lns_of r
    refine ⟨z :: xs, by rw [f1, e1]; rfl, by rw [f2, e2]; rfl, fun u hu => ?_⟩
    rcases List.mem_cons.mp hu with rfl | hu
    · exact hz
    · exact f3 u hu
theorem lt_ne : ∀ d tk, LT d tk → tk ≠ [] := fun d tk h => by cases h <;> simp
theorem lc_ne : ∀ d tk, LC d tk → tk ≠ [] := fun d tk h => by cases h; simp
theorem rn_ne : ∀ d tk, RNm d tk → tk ≠ [] := fun d tk ⟨z, _, _, e⟩ => by rw [e]; simp
section
variable {C : Addr} {H : Hp} {r : Addr} {x : Str} {n : Nat} {ws : List (List Nat)}
/-- what is due is looked at by the next sign alone -/
theorem od_same (h : RdS C H r x n ws) {D E : List Due} (hD : ∀ c w ws', ws = (c :: w) :: ws' → ∃ d D' e E', D = d :: D' ∧ E = e :: E' ∧ (∀ more, beh d c = some more → ∃ more', beh e c = some more' ∧ more ++ D' = more' ++ E') ∧ (beh d c = none → beh e c = none)) (hf : ws = [] → fin D = fin E) : Od x n D = Od x n E := by
  cases ws with
  | nil => rw [od_end h.A, od_end h.A, hf rfl]
  | cons w ws' =>
    obtain ⟨c, w', rfl, hb, e2, _⟩ := h.A.head
    obtain ⟨d, D', e, E', rfl, rfl, h1, h2⟩ := hD c w' ws' rfl
    cases hm : beh d c with
    | none => rw [od_no h hm, od_no h (h2 hm)]
    | some more =>
      obtain ⟨more', hm', hE⟩ := h1 more hm
      cases hl : ltr c with
      | true =>
        have hw := tk1_word (h.tk _ (List.mem_cons_self ..)) hl
        rw [od_word h.A hw rfl, od_word h.A hw rfl]
        simp only [hm, hm', hE]
      | false =>
        obtain rfl := tk1_other (h.tk _ (List.mem_cons_self ..)) hl
        rw [od_sign h.A hl, od_sign h.A hl]
        simp only [hm, hm', hE]
theorem dts (h : RdS C H r x n ws) (hn : ∀ ws', ws ≠ [41] :: ws') (st : List Due) : Od x n (.ts :: st) = Od x n ([.tm] ++ ([.ts] ++ st)) := by
  refine od_same h (fun c w ws' e => ⟨.ts, st, .tm, .ts :: st, rfl, rfl, ?_⟩) fun _ => rfl
  have n41 : c ≠ 41 := by
    rintro rfl
    obtain rfl := tk1_other (h.tk _ (by rw [e]; exact List.mem_cons_self ..)) s41.1
    exact hn _ e
  simp only [beh, if_neg n41]
  by_cases h1 : ltr c = true
  · simp [h1]
  · by_cases h2 : c = 40
    · subst h2
      simp [s40.1]
    · by_cases h3 : c = 64
      · subst h3
        simp [s64.1]
      · simp [h1, h2, h3]
theorem dnc (h : RdS C H r x n ws) (hn : ∀ ws', ws ≠ [58] :: ws') (st : List Due) : Od x n (.nc :: st) = Od x n ([.nm] ++ ([.nc] ++ st)) := by
  refine od_same h (fun c w ws' e => ⟨.nc, st, .nm, .nc :: st, rfl, rfl, ?_⟩) fun _ => rfl
  have n41 : c ≠ 58 := by
    rintro rfl
    obtain rfl := tk1_other (h.tk _ (by rw [e]; exact List.mem_cons_self ..)) s58.1
    exact hn _ e
  simp only [beh, if_neg n41]
  by_cases h1 : ltr c = true
  · simp [h1]
  · simp [h1]
theorem dnp (h : RdS C H r x n ws) (hn : ∀ ws', ws ≠ [41] :: ws') (st : List Due) : Od x n (.np :: st) = Od x n ([.nm] ++ ([.np] ++ st)) := by
  refine od_same h (fun c w ws' e => ⟨.np, st, .nm, .np :: st, rfl, rfl, ?_⟩) fun _ => rfl
  have n41 : c ≠ 41 := by
    rintro rfl
    obtain rfl := tk1_other (h.tk _ (by rw [e]; exact List.mem_cons_self ..)) s41.1
    exact hn _ e
  simp only [beh, if_neg n41]
  by_cases h1 : ltr c = true
  · simp [h1]
  · simp [h1]
theorem dcs (h : RdS C H r x n ws) (hn : ∀ ws', ws ≠ [41] :: ws') (st : List Due) : Od x n (.cs :: st) = Od x n ([.c1] ++ ([] ++ st)) := by
  refine od_same h (fun c w ws' e => ⟨.cs, st, .c1, st, rfl, rfl, ?_⟩) fun _ => rfl
  have n41 : c ≠ 41 := by
    rintro rfl
    obtain rfl := tk1_other (h.tk _ (by rw [e]; exact List.mem_cons_self ..)) s41.1
    exact hn _ e
  simp only [beh, if_neg n41]
  exact ⟨fun more hm => ⟨more, hm, rfl⟩, id⟩
theorem dms (h : RdS C H r x n ws) (hn : ∀ ws', ws ≠ [41] :: ws') (st : List Due) : Od x n (.ms :: st) = Od x n ([.m1] ++ ([] ++ st)) := by
  refine od_same h (fun c w ws' e => ⟨.ms, st, .m1, st, rfl, rfl, ?_⟩) fun _ => rfl
  have n41 : c ≠ 41 := by
    rintro rfl
    obtain rfl := tk1_other (h.tk _ (by rw [e]; exact List.mem_cons_self ..)) s41.1
    exact hn _ e
  simp only [beh, if_neg n41]
  exact ⟨fun more hm => ⟨more, hm, rfl⟩, id⟩
end
/-- what is due behind a term's sign, by its slots -/
inductive Good : List Str → List Due → Prop
  | cl : Good [] [.cl]
  | name {r : List Str} {c : List Due} (h : Good r c) : Good (sg "name" :: r) (.nm :: c)
  | kind {r : List Str} {c : List Due} (h : Good r c) : Good (sg "kind" :: r) (.kd :: c)
  | term {r : List Str} {c : List Due} (h : Good r c) : Good (sg "term" :: r) (.tm :: c)
  | terms : Good [sg "terms"] [.ts]
  | cases : Good [sg "cases"] [.c1]
theorem good_form {s : Nat} (h : s ∈ termS) : ∃ sl more, formOf ⟨#[s]⟩ = some sl ∧ beh .sg s = some more ∧ Good sl more := by
  have : s = 94 ∨ s = 33 ∨ s = 38 ∨ s = 47 ∨ s = 35 ∨ s = 63 ∨ s = 43 ∨ s = 45 := by
    have e : ∀ s ∈ termS, s = 94 ∨ s = 33 ∨ s = 38 ∨ s = 47 ∨ s = 35 ∨ s = 63 ∨ s = 43 ∨ s = 45 := by decide +kernel
    exact e s h
  rcases this with rfl | rfl | rfl | rfl | rfl | rfl | rfl | rfl
  · exact ⟨_, _, f_lam, by decide +kernel, .name (.kind (.term .cl))⟩
  · exact ⟨_, _, f_two (two_m3 (.inl rfl)), by decide +kernel, .term (.term .cl)⟩
  · exact ⟨_, _, f_two (two_m3 (.inr (.inl rfl))), by decide +kernel, .term (.term .cl)⟩
  · exact ⟨_, _, f_five (five_m2 (.inl rfl)), by decide +kernel, .term (.name (.name (.term .cl)))⟩
  · exact ⟨_, _, f_mk, by decide +kernel, .name .terms⟩
  · exact ⟨_, _, f_ch, by decide +kernel, .term .cases⟩
  · exact ⟨_, _, f_five (five_m2 (.inr rfl)), by decide +kernel, .term (.name (.name (.term .cl)))⟩
  · exact ⟨_, _, f_two (two_m3 (.inr (.inr rfl))), by decide +kernel, .term (.term .cl)⟩
end Ow

namespace Ow
open PySem PySem.Spec PyProof.Rows L2
def LMk : PyData → List (List Nat) → Prop := fun d tk => ∃ (c : Str) (xs : List Str), isNameD (.str c) = true ∧ (∀ x ∈ xs, isNameD (.str x) = true) ∧ d = .tuple [.str c, .tuple (xs.map strD)] ∧ tk = [40] :: nmL c :: (xs.map nmL ++ [[41]])
def LDt : PyData → List (List Nat) → Prop := fun d tk => ∃ (z : Str) (m : PyData) (ms : List PyData) (t1 t2 : List (List Nat)), isNameD (.str z) = true ∧ LMk m t1 ∧ LRs LMk ms t2 ∧ d = .tuple [.str z, .tuple (m :: ms)] ∧ tk = nmL z :: (t1 ++ t2)
def LDf : PyData → List (List Nat) → Prop := fun d tk => ∃ (z : Str) (k t : PyData) (t1 t2 : List (List Nat)), isNameD (.str z) = true ∧ LK k t1 ∧ LT t t2 ∧ d = .tuple [.str z, k, t] ∧ tk = nmL z :: (t1 ++ t2)
/-- a row of a program -/
def RowR (s : Nat) (R : PyData → List (List Nat) → Prop) : PyData → List (List Nat) → Prop := fun d tk => ∃ tk', R d tk' ∧ tk = [40] :: [s] :: (tk' ++ [[41]])
def LPr : PyData → List (List Nat) → Prop := fun d tk => ∃ (ds fs : List PyData) (t1 t2 : List (List Nat)), LRs (RowR 61 LDt) ds t1 ∧ LRs (RowR 64 LDf) fs t2 ∧ d = .tuple [.tuple ds, .tuple fs] ∧ tk = t1 ++ t2
theorem row_ne {s : Nat} {R : PyData → List (List Nat) → Prop} : ∀ d tk, RowR s R d tk → tk ≠ [] := fun d tk ⟨_, _, e⟩ => by rw [e]; simp
theorem lmk_ne : ∀ d tk, LMk d tk → tk ≠ [] := fun d tk ⟨_, _, _, _, _, e⟩ => by rw [e]; simp
def spRowsX (K : PySem.W.Frag) (C cN : Addr) (j : Nat) : Sp := fun vs H Q E => ∃ (r : Addr) (x : Str) (n : Nat) (ws : List (List Nat)), vs = [.ref r, .str "="] ∧ RdS C H r x n ws ∧ nst ws ≤ j ∧
  (∀ (v : V) (d : PyData) (n' : Nat) (H' : Hp), Da K All H' v d → LPr d ws → RdS C H' r x n' [] → Od x n [.fi] = none → Kp r H H' → Q v H') ∧ ∀ p, Od x n [.fi] = some p → Flies C cN r H E p
/-- a reader of a whole text -/
def RXW (K : PySem.W.Frag) (C cN : Addr) (j : Nat) (D : List Due) (R : PyData → List (List Nat) → Prop) : Sp := fun vs H Q E => ∃ (r : Addr) (x : Str) (n : Nat) (ws : List (List Nat)), vs = [.ref r] ∧ RdS C H r x n ws ∧ nst ws ≤ j ∧
  (∀ (v : V) (d : PyData) (tk ws' : List (List Nat)) (n' : Nat) (H' : Hp), Da K All H' v d → R d tk → ws = tk ++ ws' → RdS C H' r x n' ws' → Od x n D = Od x n' [] → Kp r H H' → Q v H') ∧ ∀ p, Od x n D = some p → Flies C cN r H E p
theorem RX.whole {K : PySem.W.Frag} {C cN : Addr} {j : Nat} {D : List Due} {R : PyData → List (List Nat) → Prop} {F : List (List Nat) → Prop} : ∀ vs H Q E, RXW K C cN j D R vs H Q E → RX K C cN j D [] R F vs H Q E := fun vs H Q E ⟨r, x, n, ws, e, hS, hj, kOk, kNo⟩ =>
  ⟨r, x, n, ws, e, hS, hj, fun v d tk ws' n' H' dv hd e1 _ hS1 _ hO k => kOk v d tk ws' n' H' dv hd e1 hS1 (by have := hO []; rwa [List.append_nil] at this) k, fun p hp => kNo p (by have := hp []; rwa [List.append_nil] at this)⟩
/-- how far a program is read -/
inductive PSt : List PyData → List PyData → Due → Str → Prop
  | fi : PSt [] [] .fi "="
  | da {d : PyData} {ds : List PyData} : PSt (ds ++ [d]) [] .da "=@"
  | de {d f : PyData} {ds fs : List PyData} : PSt (ds ++ [d]) (fs ++ [f]) .de "@"
def RowX (K : PySem.W.Frag) (C : Addr) (x : Str) (ws : List (List Nat)) (n0 : Nat) (r D E : Addr) (H : Hp) (m : Nat) (σ : L2.St) (H' : Hp) : Prop := ∃ (us vs : List V) (ds fs : List PyData) (t1 t2 ws1 : List (List Nat)) (cur : Due) (z : Str) (n1 : Nat),
  ws = t1 ++ (t2 ++ ws1) ∧ m = ws1.length ∧ PSt ds fs cur z ∧ σ = [some (.ref r), some (.str z), some (.ref D), some (.ref E)] ∧ H' D = some (.lst us) ∧ H' E = some (.lst vs) ∧ DaAll K All H' us ds ∧ DaAll K All H' vs fs ∧ LRs (RowR 61 LDt) ds t1 ∧ LRs (RowR 64 LDf) fs t2 ∧
  RdS C H' r x n1 ws1 ∧ nst ws1 ≤ nst ws ∧ Od x n0 [.fi] = Od x n1 [cur] ∧ Kp r H H'
/-- .. ahead of the bracket that closes a row -/
def RowM (K : PySem.W.Frag) (C : Addr) (x : Str) (ws : List (List Nat)) (n0 : Nat) (r D E : Addr) (H : Hp) (m : Nat) (σ : L2.St) (H' : Hp) : Prop := ∃ (us vs : List V) (ds fs : List PyData) (ws1 : List (List Nat)) (d0 cur : Due) (z : Str) (n1 : Nat),
  (∀ ws', ws1 = [41] :: ws' → ∃ t1 t2, LRs (RowR 61 LDt) ds t1 ∧ LRs (RowR 64 LDf) fs t2 ∧ ws = t1 ++ (t2 ++ ws')) ∧ ws1.length ≤ m ∧ PSt ds fs cur z ∧ σ = [some (.ref r), some (.str z), some (.ref D), some (.ref E)] ∧ H' D = some (.lst us) ∧ H' E = some (.lst vs) ∧ DaAll K All H' us ds ∧ DaAll K All H' vs fs ∧
  RdS C H' r x n1 ws1 ∧ nst ws1 + 1 ≤ nst ws ∧ Od x n0 [.fi] = Od x n1 [d0, cur] ∧ beh d0 41 = some [] ∧ ((∃ ws', ws1 = [41] :: ws') ∨ ∀ c, c ≠ 41 → beh d0 c = none) ∧ Kp r H H'
def nxt : Due → Due
  | .fi => .eq
  | .da => .ea
  | _ => .az
theorem hd_ne {ws : List (List Nat)} (hb : ∀ w ∈ ws, Tkn w) (h : ws ≠ []) : decide (V.str (headS ws) = V.str "") = false := by
  cases ws with
  | nil => exact absurd rfl h
  | cons w ws =>
    obtain ⟨c, w', rfl, _⟩ := hb w (List.mem_cons_self ..)
    exact sign_ne_empty c
theorem fin_two (d e : Due) : fin [d, e] = false := by cases d <;> rfl
theorem LRs.pos {R : PyData → List (List Nat) → Prop} {d : PyData} {ds : List PyData} {tk : List (List Nat)} (hne : ∀ d tk, R d tk → tk ≠ []) (h : LRs R (ds ++ [d]) tk) : tk ≠ [] := fun e => by
  have := h.length hne
  rw [e, List.length_append] at this
  simp at this
end Ow

/-! How large read things are. -/
namespace Ow
open PySem PySem.Spec PyProof.Rows L2
theorem lt_pos {d : PyData} {tk : List (List Nat)} (h : LT d tk) : 1 ≤ tk.length := by
  have := lt_ne _ _ h
  cases tk with
  | nil => exact absurd rfl this
  | cons _ _ => simp
theorem nm_fit {z : Str} (h : isNameD (.str z) = true) : Fit 104 0 (.str z) := by
  have := (nm_cases h).2.1
  refine (fit_name h).le ?_ (Nat.le_refl _)
  have e : (nmL z).length = z.length := rfl
  omega
theorem nms_fit : ∀ {xs : List Str}, (∀ x ∈ xs, isNameD (.str x) = true) → FitAll (106 * xs.length) 0 (xs.map strD)
  | [], _ => FitAll.nil
  | x :: xs, h => by
    have := FitAll.cons (nm_fit (h x (List.mem_cons_self ..))) (nms_fit fun y hy => h y (List.mem_cons_of_mem _ hy))
    refine this.le ?_ (Nat.le_refl _)
    rw [List.length_cons]
    omega
theorem LK.fit : ∀ {d : PyData} {tk : List (List Nat)}, LK d tk → ∃ n, n + 10 ≤ 120 * tk.length ∧ Fit n tk.length d
  | _, _, .name h => ⟨104, by simp, (nm_fit h).le (Nat.le_refl _) (Nat.zero_le _)⟩
  | _, _, .row (s := s) (ta := ta) (tb := tb) hs ha hb => by
    obtain ⟨n1, h1, f1⟩ := ha.fit
    obtain ⟨n2, h2, f2⟩ := hb.fit
    have hl : s < 128 := by rcases hs with rfl | rfl <;> decide
    refine ⟨_, ?_, (Fit.tup (m := ta.length + tb.length) (.cons ((fit_sgn hl).le (Nat.le_refl _) (Nat.zero_le _)) (.cons (f1.le (Nat.le_refl _) (by omega)) (.cons (f2.le (Nat.le_refl _) (by omega)) (FitAll.nil (n := 0)))))).le (Nat.le_refl _) ?_⟩
    · simp only [List.length_cons, List.length_append, List.length_nil]
      omega
    · simp only [List.length_cons, List.length_append, List.length_nil]
      omega
mutual
theorem LT.fit : ∀ {d : PyData} {tk : List (List Nat)}, LT d tk → ∃ n, n + 10 ≤ 120 * tk.length ∧ Fit n (2 * tk.length) d
  | _, _, .name h => ⟨104, by simp, (nm_fit h).le (Nat.le_refl _) (Nat.zero_le _)⟩
  | _, _, .df h => ⟨125, by simp only [List.length_cons, List.length_nil]; omega, (Fit.tup (m := 0) (.cons (fit_sgn (by decide)) (.cons (nm_fit h) (FitAll.nil (n := 0))))).le (by omega) (by simp)⟩
  | _, _, .row (s := s) (sl := sl) (tk := tk) hs hf h => by
    obtain ⟨n1, h1, f1⟩ := LL.fit h
    have := form_len hf
    refine ⟨_, ?_, (Fit.tup (m := 2 * tk.length + 1) (.cons ((fit_sgn (sT_small _ hs)).le (Nat.le_refl _) (Nat.zero_le _)) f1)).le (Nat.le_refl _) ?_⟩
    · simp only [List.length_cons, List.length_append, List.length_nil]
      omega
    · simp only [List.length_cons, List.length_append, List.length_nil]
      omega
theorem LL.fit : ∀ {sl : List Str} {ds : List PyData} {tk : List (List Nat)}, LL sl ds tk → ∃ n, n ≤ 120 * tk.length + 10 * sl.length ∧ FitAll n (2 * tk.length + 1) ds
  | _, _, _, .nil => ⟨0, Nat.zero_le _, FitAll.nil.le (Nat.le_refl _) (Nat.zero_le _)⟩
  | _, _, _, .cons (sl := sl) (tk := tk) (sk := sk) h r => by
    obtain ⟨n1, h1, f1⟩ := LS.fit h
    obtain ⟨n2, h2, f2⟩ := LL.fit r
    refine ⟨_, ?_, .cons (f1.le (Nat.le_refl _) ?_) (f2.le (Nat.le_refl _) ?_)⟩
    · simp only [List.length_cons, List.length_append]
      omega
    · rw [List.length_append]
      omega
    · rw [List.length_append]
      omega
theorem LS.fit : ∀ {s : Str} {d : PyData} {tk : List (List Nat)}, LS s d tk → ∃ n, n ≤ 120 * tk.length + 8 ∧ Fit n (2 * tk.length + 1) d
  | _, _, _, .name h => ⟨104, by simp, (nm_fit h).le (Nat.le_refl _) (Nat.zero_le _)⟩
  | _, _, _, .kind h => by
    obtain ⟨n, h1, f⟩ := h.fit
    exact ⟨n, by omega, f.le (Nat.le_refl _) (by omega)⟩
  | _, _, _, .term h => by
    obtain ⟨n, h1, f⟩ := LT.fit h
    exact ⟨n, by omega, f.le (Nat.le_refl _) (by omega)⟩
  | _, _, _, .terms h => by
    obtain ⟨n, h1, f⟩ := LTs.fit h
    exact ⟨_, by omega, Fit.tup f⟩
  | _, _, _, .cases (tk := tk) (sk := sk) h r => by
    obtain ⟨n1, h1, f1⟩ := LC.fit h
    obtain ⟨n2, h2, f2⟩ := LCs.fit r
    refine ⟨_, ?_, Fit.tup (m := 2 * (tk ++ sk).length) (.cons (f1.le (Nat.le_refl _) ?_) (f2.le (Nat.le_refl _) ?_))⟩
    · rw [List.length_append]
      omega
    · rw [List.length_append]
      omega
    · rw [List.length_append]
      omega
theorem LTs.fit : ∀ {ds : List PyData} {tk : List (List Nat)}, LTs ds tk → ∃ n, n ≤ 120 * tk.length ∧ FitAll n (2 * tk.length) ds
  | _, _, .nil => ⟨0, Nat.zero_le _, FitAll.nil⟩
  | _, _, .cons (tk := tk) (sk := sk) h r => by
    obtain ⟨n1, h1, f1⟩ := LT.fit h
    obtain ⟨n2, h2, f2⟩ := LTs.fit r
    refine ⟨_, ?_, .cons (f1.le (Nat.le_refl _) ?_) (f2.le (Nat.le_refl _) ?_)⟩
    · rw [List.length_append]
      omega
    · rw [List.length_append]
      omega
    · rw [List.length_append]
      omega
theorem LC.fit : ∀ {d : PyData} {tk : List (List Nat)}, LC d tk → ∃ n, n + 2 ≤ 120 * tk.length ∧ Fit n (2 * tk.length) d
  | _, _, .mk (xs := xs) (uk := uk) hc hx h => by
    obtain ⟨n1, h1, f1⟩ := LT.fit h
    refine ⟨_, ?_, (Fit.tup (m := 2 * uk.length + 1) (.cons ((nm_fit hc).le (Nat.le_refl _) (Nat.zero_le _)) (.cons ((Fit.tup (nms_fit hx)).le (Nat.le_refl _) (by omega)) (.cons (f1.le (Nat.le_refl _) (by omega)) (FitAll.nil (n := 0)))))).le (Nat.le_refl _) ?_⟩
    · simp only [List.length_cons, List.length_append, List.length_nil, List.length_map]
      omega
    · simp only [List.length_cons, List.length_append, List.length_nil, List.length_map]
      omega
theorem LCs.fit : ∀ {ds : List PyData} {tk : List (List Nat)}, LCs ds tk → ∃ n, n ≤ 120 * tk.length ∧ FitAll n (2 * tk.length) ds
  | _, _, .nil => ⟨0, Nat.zero_le _, FitAll.nil⟩
  | _, _, .cons (tk := tk) (sk := sk) h r => by
    obtain ⟨n1, h1, f1⟩ := LC.fit h
    obtain ⟨n2, h2, f2⟩ := LCs.fit r
    refine ⟨_, ?_, .cons (f1.le (Nat.le_refl _) ?_) (f2.le (Nat.le_refl _) ?_)⟩
    · rw [List.length_append]
      omega
    · rw [List.length_append]
      omega
    · rw [List.length_append]
      omega
end
theorem LRs.fit {R : PyData → List (List Nat) → Prop} (hR : ∀ d tk, R d tk → ∃ n, n + 2 ≤ 120 * tk.length ∧ Fit n (2 * tk.length) d) : ∀ {ds : List PyData} {tk : List (List Nat)}, LRs R ds tk → ∃ n, n ≤ 120 * tk.length ∧ FitAll n (2 * tk.length) ds
  | _, _, .nil => ⟨0, Nat.zero_le _, FitAll.nil⟩
  | _, _, .cons (tk := tk) (sk := sk) h r => by
    obtain ⟨n1, h1, f1⟩ := hR _ _ h
    obtain ⟨n2, h2, f2⟩ := r.fit hR
    refine ⟨_, ?_, .cons (f1.le (Nat.le_refl _) ?_) (f2.le (Nat.le_refl _) ?_)⟩
    · rw [List.length_append]
      omega
    · rw [List.length_append]
      omega
    · rw [List.length_append]
      omega
theorem lmk_fit : ∀ d tk, LMk d tk → ∃ n, n + 2 ≤ 120 * tk.length ∧ Fit n (2 * tk.length) d := by
  rintro d tk ⟨c, xs, hc, hx, rfl, rfl⟩
  refine ⟨_, ?_, (Fit.tup (m := 1) (.cons ((nm_fit hc).le (Nat.le_refl _) (Nat.zero_le _)) (.cons (Fit.tup (nms_fit hx)) (FitAll.nil (n := 0))))).le (Nat.le_refl _) ?_⟩
  · simp only [List.length_cons, List.length_append, List.length_nil, List.length_map]
    omega
  · simp only [List.length_cons, List.length_append, List.length_nil, List.length_map]
    omega
theorem ldt_fit : ∀ d tk, RowR 61 LDt d tk → ∃ n, n + 2 ≤ 120 * tk.length ∧ Fit n (2 * tk.length) d := by
  rintro d tk ⟨tk', ⟨z, m, ms, t1, t2, hz, hm, hr, rfl, rfl⟩, rfl⟩
  obtain ⟨n1, h1, f1⟩ := lmk_fit _ _ hm
  obtain ⟨n2, h2, f2⟩ := hr.fit lmk_fit
  refine ⟨_, ?_, (Fit.tup (m := 2 * t1.length + 2 * t2.length + 1) (.cons ((nm_fit hz).le (Nat.le_refl _) (Nat.zero_le _)) (.cons (Fit.tup (m := 2 * t1.length + 2 * t2.length) (.cons (f1.le (Nat.le_refl _) (by omega)) (f2.le (Nat.le_refl _) (by omega)))) (FitAll.nil (n := 0))))).le (Nat.le_refl _) ?_⟩
  · simp only [List.length_cons, List.length_append, List.length_nil]
    omega
  · simp only [List.length_cons, List.length_append, List.length_nil]
    omega
theorem ldf_fit : ∀ d tk, RowR 64 LDf d tk → ∃ n, n + 2 ≤ 120 * tk.length ∧ Fit n (2 * tk.length) d := by
  rintro d tk ⟨tk', ⟨z, k, t, t1, t2, hz, hk, ht, rfl, rfl⟩, rfl⟩
  obtain ⟨n1, h1, f1⟩ := hk.fit
  obtain ⟨n2, h2, f2⟩ := ht.fit
  refine ⟨_, ?_, (Fit.tup (m := t1.length + 2 * t2.length) (.cons ((nm_fit hz).le (Nat.le_refl _) (Nat.zero_le _)) (.cons (f1.le (Nat.le_refl _) (by omega)) (.cons (f2.le (Nat.le_refl _) (by omega)) (FitAll.nil (n := 0)))))).le (Nat.le_refl _) ?_⟩
  · simp only [List.length_cons, List.length_append, List.length_nil]
    omega
  · simp only [List.length_cons, List.length_append, List.length_nil]
    omega
theorem lpr_fit {d : PyData} {tk : List (List Nat)} (h : LPr d tk) : ∃ n, n ≤ 120 * tk.length + 20 ∧ Fit n (2 * tk.length + 2) d := by
  obtain ⟨ds, fs, t1, t2, h1, h2, rfl, rfl⟩ := h
  obtain ⟨n1, l1, f1⟩ := h1.fit ldt_fit
  obtain ⟨n2, l2, f2⟩ := h2.fit ldf_fit
  refine ⟨_, ?_, (Fit.tup (m := 2 * (t1 ++ t2).length + 1) (.cons ((Fit.tup f1).le (Nat.le_refl _) ?_) (.cons ((Fit.tup f2).le (Nat.le_refl _) ?_) (FitAll.nil (n := 0))))).le (Nat.le_refl _) (by omega)⟩
  · rw [List.length_append]
    omega
  · rw [List.length_append]
    omega
  · rw [List.length_append]
    omega
end Ow

namespace Ow
open PySem PySem.Spec PyProof.Rows L2
def Flew (cN : Addr) (H : Hp) (E : XK) (p : Nat) : Prop := ∀ (d : Addr) (H' : Hp), Same H H' → H' d = some (.xd [(("at" : Str), .int p)]) → E (.ref cN) (some d) H'
/-- what a text writes, or where it fails -/
def spReads (K : PySem.W.Frag) (cN : Addr) (j : Nat) (D : List Due) (R : PyData → List (List Nat) → Prop) (hD : PyData → Bool) (pre : List V) : Sp := fun vs H Q E => ∃ (x : Str) (ws : List (List Nat)), vs = .str x :: pre ∧ (x.length ≤ 1000000 ∧ ws.length ≤ 60000) ∧ At x 0 ws ∧ (∀ w ∈ ws, Tk1 w) ∧ nst ws ≤ j ∧
  (∀ (v : V) (d : PyData) (H' : Hp), Da K All H' v d → R d ws → hD d = true → Od x 0 D = none → Same H H' → Q v H') ∧
  ∀ p, (Od x 0 D = some p ∨ (Od x 0 D = none ∧ (∃ d, R d ws ∧ hD d = false) ∧ p = x.length)) → Flew cN H E p
def RFit (R : PyData → List (List Nat) → Prop) : Prop := ∀ d tk, R d tk → ∃ n, n ≤ 120 * tk.length + 20 ∧ ∃ m, Fit n m d
theorem lk_rfit : RFit LK := fun d tk h => by
  obtain ⟨n, h1, f⟩ := h.fit
  exact ⟨n, by omega, _, f⟩
theorem lt_rfit : RFit LT := fun d tk h => by
  obtain ⟨n, h1, f⟩ := h.fit
  exact ⟨n, by omega, _, f⟩
theorem lpr_rfit : RFit LPr := fun d tk h => by
  obtain ⟨n, h1, f⟩ := lpr_fit h
  exact ⟨n, h1, _, f⟩
end Ow

/-! What the law says of what has to come. -/
namespace Ow
open PySem PySem.Spec PyProof.Rows L2
def rUpd : V → List V → Hp → VK → Prop := fun x xs H Q => ∃ (a b : Addr) (kvs more : List (Key × V)), x = .ref a ∧ xs = [.ref b] ∧ H a = some (.dK kvs) ∧ H b = some (.dK more) ∧ a ≠ b ∧ kvs.length + more.length ≤ sizeLine ∧ Q .non (upd H a (.dK (mergeK kvs more)))
theorem mt_update {X : Cx} : MtR X "dict.update" rUpd := by
  intro pins s σ H x xs v us Q I rx rxs h
  obtain ⟨a, b, kvs, more, rfl, rfl, ha, hb, ne, hl, q⟩ := h
  cases rx
  cases rxs with
  | cons r1 rn =>
    cases rn
    cases r1
    obtain ⟨_, da, vs, ra, ea⟩ := dk_of I.hok ha
    obtain ⟨_, db, rs, rb, eb⟩ := dk_of I.hok hb
    have l1 := ra.length
    have l2 := rb.length
    refine call_meetsIn PySem.F.slot_dict_update ea.typeIs PySem.F.entry_dict_update (PySem.F.args_dict_update_2 _ _) (meets_dict_update (mixKind X.prog X.w) a b ne db) ⟨vs, rs, ea, eb, by omega, fun h' e' _ hs => ?_⟩
    have there : ∃ q, h'.get? a = some q := let ⟨q, _, _, hq, _⟩ := e'; ⟨q, hq⟩
    refine ⟨.non, _, d_write (t' := s.toks) I (by rw [ha]; exact True.intro) hs there (dk_new (Nat.le_trans (length_mergeK more kvs) hl) da (KV.merge rb ra) e'), rfl, q⟩
def dsS : Due → Str
  | .nm => "name" | .kd => "kind" | .tm => "term" | .sg => "sign" | .ts => "terms" | .c1 => "case" | .cs => "cases" | .m1 => "maker" | .ms => "makers" | .nc => "names:" | .np => "names)" | .cl => ")" | .gs => ">*" | .fi => "first" | .da => "datas" | .de => "defs" | .eq => "=" | .ea => "=@" | .az => "@"
/-- the due things as the law keeps them: the first one last -/
def dues (st : List Due) : List V := (st.reverse.map dsS).map V.str
def BehV (H : Hp) (o : Option (List Due)) (v : V) (H' : Hp) : Prop := match o with
  | none => v = .non
  | some more => ∃ l, v = .ref l ∧ H' l = some (.lst (dues more))
def spBeh (S : Due → Prop) : Sp := fun vs H Q _ => ∃ (d : Due) (c : Nat), vs = [.str (dsS d), .str ⟨#[c]⟩] ∧ S d ∧ ∀ (v : V) (H' : Hp), BehV H (beh d c) v H' → Same H H' → Q v H'
end Ow
namespace Ow
open PySem PySem.Spec PyProof.Rows L2
section
variable {K : PySem.W.Frag} {ta : TA} {B : L2.TT} {X : L2.TS} {D : Ends} {σ : L2.St} {H0 H : Hp} {top z : Str} {xs : List V}
theorem ifIn (pb b : Bool) (h0 : σ[0]? = some (some (.str top))) (ht : ∀ Q, Q xs H → ta σ H Q) (hl : xs.length ≤ 16000000) (hf : xs.all flatV = true) (hp : inV (.str top) xs = pb) (s : Same H0 H) (hB : pb = true → ∀ H' Qb, Same H0 H' → Qb b H' → B σ H' Qb)
    (kT : pb = true → b = true → ∀ H', Same H0 H' → X D σ H') (kF : (pb && b) = false → ∀ H', Same H0 H' → D.nx σ H') : tIfS (tAnd (tTest (tOp (rIn K false) (tVar 0) (tTup ta))) B) X tNext D σ H := by
  refine ⟨_, h0, ht _ ⟨le_line hl, fun p np => ?_⟩⟩
  have s1 : Same H0 (upd H p (.tup xs)) := s.trans (same_new np)
  refine ⟨p, xs, rfl, .inr (SqT.of upd_same), rfl, hf, _, rfl, ?_⟩
  show if (if false = true then !inV (.str top) xs else inV (.str top) xs) = true then _ else _
  rw [if_neg Bool.false_ne_true, hp]
  cases pb with
  | false => exact kF rfl _ s1
  | true =>
    refine hB rfl _ _ s1 ?_
    cases b with
    | false => exact kF rfl _ s1
    | true => exact kT rfl rfl _ s1
theorem ifEq (b : Bool) (h0 : σ[0]? = some (some (.str top))) (s : Same H0 H) (hB : top = z → ∀ Qb, Qb b H → B σ H Qb) (kT : top = z → b = true → X D σ H) (kF : (decide (top = z) && b) = false → D.nx σ H) : tIfS (tAnd (tTest (tOp rEq (tVar 0) (tC (.str z)))) B) X tNext D σ H := by
  refine ⟨_, h0, rfl, _, rfl, ?_⟩
  by_cases e : top = z
  · refine iteTx (decide_eq_true (by rw [e])) ?_
    refine hB e _ ?_
    cases b with
    | false => exact kF (by simp)
    | true => exact kT e rfl
  · refine iteFx (decide_eq_false fun q => e (V.str.inj q)) ?_
    exact kF (by simp [e])
theorem bVar {i : Nat} {c : Bool} (h : σ[i]? = some (some (.bl c))) : ∀ H' Qb, Same H0 H' → Qb c H' → tB (tVar i) σ H' Qb := fun H' Qb _ q => ⟨_, h, c, rfl, q⟩
theorem bEq {i a c : Nat} (h : σ[i]? = some (some (.str ⟨#[c]⟩))) : ∀ H' Qb, Same H0 H' → Qb (decide (c = a)) H' → tTest (tOp rEq (tVar i) (tC (.str ⟨#[a]⟩))) σ H' Qb := fun H' Qb _ q => ⟨_, h, rfl, _, rfl, by
  have e : decide (V.str ⟨#[c]⟩ = V.str ⟨#[a]⟩) = decide (c = a) := by
    by_cases z : c = a
    · rw [z, decide_eq_true rfl, decide_eq_true rfl]
    · rw [decide_eq_false z, decide_eq_false]
      intro q
      injection q with q
      exact z (Option.some.inj (congrArg (fun q : Str => q.cps[0]?) q))
  rw [e]
  exact q⟩
end
def sgK (c : Nat) : L2.Key := .inr ⟨#[c]⟩
theorem sgK_ne {a c : Nat} (h : a ≠ c) : sgK a ≠ sgK c := fun q => by
  injection q with q
  exact h (Option.some.inj (congrArg (fun q : Str => q.cps[0]?) q))
def val1 : List (Nat × V) → Nat → Option V
  | [], _ => none
  | p :: r, c => if p.1 = c then some p.2 else val1 r c
theorem val_sg (c : Nat) : ∀ kvs : List (Nat × V), valV (kvs.map fun p => (sgK p.1, p.2)) (sgK c) = val1 kvs c
  | [] => rfl
  | p :: r => by
    rw [List.map_cons, val1]
    by_cases h : p.1 = c
    · rw [if_pos h, valV_pos (by rw [h])]
    · rw [if_neg h, valV_neg (sgK_ne h), val_sg c r]
theorem put_sg (k : Nat) (v : V) (kvs : List (Nat × V)) (h : val1 kvs k = none) : putK (kvs.map fun p => (sgK p.1, p.2)) (sgK k) v = (kvs ++ [(k, v)]).map fun p => (sgK p.1, p.2) := by
  rw [putK_new v (by rw [val_sg]; exact h), List.map_append]
  rfl
def mp (kvs : List (Nat × V)) : List (L2.Key × V) := kvs.map fun p => (sgK p.1, p.2)
theorem mp_put (k : Nat) (v : V) (kvs : List (Nat × V)) (h : val1 kvs k = none) : putK (mp kvs) (sgK k) v = mp (kvs ++ [(k, v)]) := put_sg k v kvs h
theorem mp_val (c : Nat) (kvs : List (Nat × V)) : valV (mp kvs) (sgK c) = val1 kvs c := val_sg c kvs
theorem val1_app (c : Nat) : ∀ (a b : List (Nat × V)), val1 (a ++ b) c = match val1 a c with | some v => some v | none => val1 b c
  | [], b => rfl
  | p :: a, b => by
    rw [List.cons_append, val1, val1]
    by_cases h : p.1 = c
    · rw [if_pos h, if_pos h]
    · rw [if_neg h, if_neg h, val1_app c a b]
theorem val1_mem (c : Nat) : ∀ (a : List (Nat × V)), (c ∈ a.map (·.1) → ∃ v, val1 a c = some v ∧ (c, v) ∈ a) ∧ (c ∉ a.map (·.1) → val1 a c = none)
  | [] => ⟨fun h => (nomatch h), fun _ => rfl⟩
  | p :: a => by
    refine ⟨fun h => ?_, fun h => ?_⟩
    · by_cases e : p.1 = c
      · exact ⟨p.2, by rw [val1, if_pos e], by rw [← e]; exact List.mem_cons_self ..⟩
      · rw [List.map_cons] at h
        obtain ⟨v, h1, h2⟩ := (val1_mem c a).1 (by
          rcases List.mem_cons.mp h with h | h
          · exact absurd h.symm e
          · exact h)
        exact ⟨v, by rw [val1, if_neg e]; exact h1, List.mem_cons_of_mem _ h2⟩
    · rw [List.map_cons, List.mem_cons, not_or] at h
      rw [val1, if_neg (fun e => h.1 e.symm)]
      exact (val1_mem c a).2 h.2
section
variable {K : PySem.W.Frag} {ta : TA} {B : L2.TT} {σ : L2.St} {H0 H : Hp} {top z : Str} {xs : List V} {Qb : Bool → Hp → Prop}
theorem andIn (pb b : Bool) (h0 : σ[0]? = some (some (.str top))) (ht : ∀ Q, Q xs H → ta σ H Q) (hl : xs.length ≤ 16000000) (hf : xs.all flatV = true) (hp : inV (.str top) xs = pb) (s : Same H0 H) (hB : pb = true → ∀ H' Qb, Same H0 H' → Qb b H' → B σ H' Qb)
    (k : ∀ H', Same H0 H' → Qb (pb && b) H') : tAnd (tTest (tOp (rIn K false) (tVar 0) (tTup ta))) B σ H Qb := by
  refine ⟨_, h0, ht _ ⟨le_line hl, fun p np => ?_⟩⟩
  have s1 : Same H0 (upd H p (.tup xs)) := s.trans (same_new np)
  refine ⟨p, xs, rfl, .inr (SqT.of upd_same), rfl, hf, _, rfl, ?_⟩
  show if (if false = true then !inV (.str top) xs else inV (.str top) xs) = true then _ else _
  rw [if_neg Bool.false_ne_true, hp]
  cases pb with
  | false => exact k _ s1
  | true => exact hB rfl _ _ s1 (k _ s1)
theorem andEq (b : Bool) (h0 : σ[0]? = some (some (.str top))) (hB : top = z → ∀ Qb, Qb b H → B σ H Qb) (k : Qb (decide (top = z) && b) H) : tAnd (tTest (tOp rEq (tVar 0) (tC (.str z)))) B σ H Qb := by
  refine ⟨_, h0, rfl, _, rfl, ?_⟩
  by_cases e : top = z
  · refine iteTx (decide_eq_true (by rw [e])) ?_
    refine hB e _ ?_
    rw [decide_eq_true e] at k
    exact k
  · refine iteFx (decide_eq_false fun q => e (V.str.inj q)) ?_
    rw [decide_eq_false e] at k
    exact k
end
theorem tm_len {c : Nat} {more : List Due} (h : beh .tm c = some more) : more.length ≤ 1 := by
  simp only [beh] at h
  by_cases z1 : ltr c = true
  · rw [if_pos z1] at h
    cases h
    exact Nat.zero_le _
  · rw [if_neg z1] at h
    by_cases z2 : c = 40
    · rw [if_pos z2] at h
      cases h
      exact Nat.le_refl _
    · rw [if_neg z2] at h
      by_cases z3 : c = 64
      · rw [if_pos z3] at h
        cases h
        exact Nat.le_refl _
      · rw [if_neg z3] at h
        cases h
end Ow
namespace Ow
open PySem PySem.Spec PyProof.Rows L2
/-- what is asked of a text -/
inductive Wh (progB : PyData → Bool) : Str → List Due → (PyData → List (List Nat) → Prop) → (PyData → Bool) → Prop
  | kd : Wh progB "kind" [.kd] LK (kindW 6)
  | tm : Wh progB "term" [.tm] LT termD
  | pr : Wh progB "program" [.fi] LPr progB
def spTold (K : PySem.W.Frag) (progB : PyData → Bool) (j : Nat) : Sp := fun vs H Q _ => ∃ (what x : Str) (ws : List (List Nat)) (D : List Due) (R : PyData → List (List Nat) → Prop) (hD : PyData → Bool), vs = [.str what, .str x] ∧ Wh progB what D R hD ∧ (x.length ≤ 1000000 ∧ ws.length ≤ 60000) ∧ At x 0 ws ∧ (∀ w ∈ ws, Tk1 w) ∧ nst ws ≤ j ∧
  (∀ (v : V) (d : PyData) (q : Addr) (H' : Hp), Da K All H' v d → R d ws → hD d = true → Od x 0 D = none → Same H H' → SqT K H' q [.str "told", v] → Q (.ref q) H') ∧
  ∀ (p : Nat) (q : Addr) (H' : Hp), (Od x 0 D = some p ∨ (Od x 0 D = none ∧ (∃ d, R d ws ∧ hD d = false) ∧ p = x.length)) → Same H H' → SqT K H' q [.str "not", .int p] → Q (.ref q) H'
/-- what is to be known of the class of a text's refusal -/
structure NTx (K : PySem.W.Frag) (cO cN cK : Addr) : Prop where
  oe : PySem.W.exmOne K (.ref cN) (.ref cO) = some true
  nt : PySem.W.kitOne K (.ref cN) (.ref cN) = some true
  nk : PySem.W.kitOne K (.ref cN) (.ref cK) = some false
  ve : PySem.W.kitOne K (.ref cN) (.type "ValueError") = some true
  ex : ExcC K cN
  xf : XfC K cN
  na : PySem.W.findIn K (.ref cN) "at" = some none
end Ow

/-! The law's own reading, by tokens from the last one on. -/
namespace Ow
open PySem PySem.Spec PyProof.Rows L2
def bits (ts : List (List Nat)) : List V := ts.reverse.map vW
theorem bits_cons (w : List Nat) (ts : List (List Nat)) : bits (w :: ts) = bits ts ++ [vW w] := by
  rw [bits, List.reverse_cons, List.map_append]
  rfl
theorem bits_last (w : List Nat) (ts : List (List Nat)) : (bits (w :: ts))[(bits (w :: ts)).length - 1]? = some (vW w) ∧ (bits (w :: ts)).dropLast = bits ts ∧ atI (bits (w :: ts)) (-1) = some (vW w) := by
  rw [bits_cons]
  have h1 : (bits ts ++ [vW w])[(bits ts ++ [vW w]).length - 1]? = some (vW w) := by
    rw [List.length_append, List.length_singleton, Nat.add_sub_cancel, List.getElem?_append_right (Nat.le_refl _), Nat.sub_self]
    rfl
  refine ⟨h1, by rw [List.dropLast_concat], ?_⟩
  obtain ⟨y, h2, h3⟩ := at_last (xs := bits ts ++ [vW w]) (by simp)
  rw [h1] at h3
  rw [h2, Option.some.inj h3]
theorem vW_nm (z : Str) : vW (nmL z) = .str z := by
  show V.str ⟨z.cps.toList.toArray⟩ = .str z
  rw [Array.toArray_toList]
theorem vW_ne {w : List Nat} {c : Nat} (h : w ≠ [c]) : decide (vW w = V.str ⟨#[c]⟩) = false := decide_eq_false fun e => by
  have e1 : (⟨w.toArray⟩ : Str) = ⟨#[c]⟩ := V.str.inj e
  have e2 := congrArg (fun q : Str => q.cps.toList) e1
  exact h (by simpa using e2)
theorem nm_ne1 {z : Str} (h : isNameD (.str z) = true) {c : Nat} (nc : ltr c = false) : nmL z ≠ [c] := fun e => by
  have := (nm_cases h).2.2 c (by rw [e]; exact List.mem_cons_self ..)
  rw [nc] at this
  cases this
/-- read things are even in brackets -/
theorem nst_names {xs : List Str} (h : ∀ x ∈ xs, isNameD (.str x) = true) (rest : List (List Nat)) : nst (xs.map nmL ++ rest) = nst rest := by
  induction xs with
  | nil => rfl
  | cons x xs ih =>
    rw [List.map_cons, List.cons_append, nst_word (nm_cases (h x (List.mem_cons_self ..))).2.2]
    exact ih fun y hy => h y (List.mem_cons_of_mem _ hy)
theorem LK.even : ∀ {d : PyData} {tk : List (List Nat)}, LK d tk → ∀ rest, nst rest ≤ nst (tk ++ rest)
  | _, _, .name h, rest => by
    rw [List.singleton_append, nst_word (nm_cases h).2.2]
    exact Nat.le_refl _
  | _, _, .row (s := s) (ta := ta) (tb := tb) hs ha hb, rest => by
    have ns : [s] ≠ [40] ∧ [s] ≠ [41] := by rcases hs with rfl | rfl <;> decide
    have e : ([40] :: [s] :: (ta ++ (tb ++ [[41]]))) ++ rest = [40] :: [s] :: (ta ++ (tb ++ ([41] :: rest))) := by simp
    rw [e, nst_open, nst_other ns.1 ns.2]
    have h1 := ha.even (tb ++ ([41] :: rest))
    have h2 := hb.even ([41] :: rest)
    have h3 := nst_close rest
    omega
def spKindF (K : PySem.W.Frag) (j : Nat) : Sp := fun vs H Q _ => ∃ (b : Addr) (d : PyData) (tk rest : List (List Nat)), vs = [.ref b] ∧ H b = some (.lst (bits (tk ++ rest))) ∧ LK d tk ∧ nst (tk ++ rest) ≤ j ∧
  ∀ (v : V) (H' : Hp), Da K All H' v d → H' b = some (.lst (bits rest)) → Kp b H H' → Q v H'
def spNamesF (K : PySem.W.Frag) : Sp := fun vs H Q _ => ∃ (b : Addr) (xs : List Str) (c : Nat) (rest : List (List Nat)), vs = [.ref b, .str ⟨#[c]⟩] ∧ H b = some (.lst (bits (xs.map nmL ++ [c] :: rest))) ∧ (∀ x ∈ xs, isNameD (.str x) = true) ∧ ltr c = false ∧ xs.length ≤ 60000 ∧
  ∀ (v : V) (H' : Hp), Da K All H' v (.tuple (xs.map strD)) → H' b = some (.lst (bits rest)) → Kp b H H' → Q v H'
end Ow

namespace Ow
open PySem PySem.Spec PyProof.Rows L2
theorem term_sign {s : Nat} (h : s ∈ termS) : [s] ≠ [40] ∧ [s] ≠ [41] := by
  have : ∀ s ∈ termS, [s] ≠ [40] ∧ [s] ≠ [41] := by decide
  exact this s h
mutual
theorem LT.even : ∀ {d : PyData} {tk : List (List Nat)}, LT d tk → ∀ rest, nst rest ≤ nst (tk ++ rest)
  | _, _, .name h, rest => by
    rw [List.singleton_append, nst_word (nm_cases h).2.2]
    exact Nat.le_refl _
  | _, _, .df h, rest => by
    show nst rest ≤ nst ([64] :: nmL _ :: rest)
    rw [nst_other (by decide) (by decide), nst_word (nm_cases h).2.2]
    exact Nat.le_refl _
  | _, _, .row (s := s) (tk := tk) hs hf h, rest => by
    have e : ([40] :: [s] :: (tk ++ [[41]])) ++ rest = [40] :: [s] :: (tk ++ ([41] :: rest)) := by simp
    rw [e, nst_open, nst_other (term_sign hs).1 (term_sign hs).2]
    have h1 := LL.even h ([41] :: rest)
    have h3 := nst_close rest
    omega
theorem LL.even : ∀ {sl : List Str} {ds : List PyData} {tk : List (List Nat)}, LL sl ds tk → ∀ rest, nst rest ≤ nst (tk ++ rest)
  | _, _, _, .nil, rest => Nat.le_refl _
  | _, _, _, .cons (tk := tk) (sk := sk) h r, rest => by
    rw [List.append_assoc]
    exact Nat.le_trans (LL.even r rest) (LS.even h (sk ++ rest))
theorem LS.even : ∀ {s : Str} {d : PyData} {tk : List (List Nat)}, LS s d tk → ∀ rest, nst rest ≤ nst (tk ++ rest)
  | _, _, _, .name h, rest => by
    rw [List.singleton_append, nst_word (nm_cases h).2.2]
    exact Nat.le_refl _
  | _, _, _, .kind h, rest => h.even rest
  | _, _, _, .term h, rest => LT.even h rest
  | _, _, _, .terms h, rest => LTs.even h rest
  | _, _, _, .cases (sk := sk) h r, rest => by
    rw [List.append_assoc]
    exact Nat.le_trans (LCs.even r rest) (LC.even h (sk ++ rest))
theorem LTs.even : ∀ {ds : List PyData} {tk : List (List Nat)}, LTs ds tk → ∀ rest, nst rest ≤ nst (tk ++ rest)
  | _, _, .nil, rest => Nat.le_refl _
  | _, _, .cons (sk := sk) h r, rest => by
    rw [List.append_assoc]
    exact Nat.le_trans (LTs.even r rest) (LT.even h (sk ++ rest))
theorem LC.even : ∀ {d : PyData} {tk : List (List Nat)}, LC d tk → ∀ rest, nst rest ≤ nst (tk ++ rest)
  | _, _, .mk (c := c) (xs := xs) (uk := uk) hc hx h, rest => by
    have e : ([40] :: nmL c :: (xs.map nmL ++ [58] :: (uk ++ [[41]]))) ++ rest = [40] :: nmL c :: (xs.map nmL ++ ([58] :: (uk ++ ([41] :: rest)))) := by simp
    rw [e, nst_open, nst_word (nm_cases hc).2.2, nst_names hx, nst_other (by decide) (by decide)]
    have h1 := LT.even h ([41] :: rest)
    have h3 := nst_close rest
    omega
theorem LCs.even : ∀ {ds : List PyData} {tk : List (List Nat)}, LCs ds tk → ∀ rest, nst rest ≤ nst (tk ++ rest)
  | _, _, .nil, rest => Nat.le_refl _
  | _, _, .cons (sk := sk) h r, rest => by
    rw [List.append_assoc]
    exact Nat.le_trans (LCs.even r rest) (LC.even h (sk ++ rest))
end
theorem LS.inv {s : Str} {d : PyData} {tk : List (List Nat)} (h : LS s d tk) : (s = sg "name" ∧ ∃ z, isNameD (.str z) = true ∧ d = .str z ∧ tk = [nmL z]) ∨ (s = sg "kind" ∧ LK d tk) ∨ (s = sg "term" ∧ LT d tk) ∨ (s = sg "terms" ∧ ∃ ds, d = .tuple ds ∧ LTs ds tk) ∨
    (s = sg "cases" ∧ ∃ c ds t1 t2, d = .tuple (c :: ds) ∧ tk = t1 ++ t2 ∧ LC c t1 ∧ LCs ds t2) := by
  cases h with
  | name h => exact .inl ⟨rfl, _, h, rfl, rfl⟩
  | kind h => exact .inr (.inl ⟨rfl, h⟩)
  | term h => exact .inr (.inr (.inl ⟨rfl, h⟩))
  | terms h => exact .inr (.inr (.inr (.inl ⟨rfl, _, rfl, h⟩)))
  | cases h r => exact .inr (.inr (.inr (.inr ⟨rfl, _, _, _, _, rfl, rfl, h, r⟩)))
theorem LL.inv {s : Str} {sl : List Str} {ds : List PyData} {tk : List (List Nat)} (h : LL (s :: sl) ds tk) : ∃ d ds' t1 t2, ds = d :: ds' ∧ tk = t1 ++ t2 ∧ LS s d t1 ∧ LL sl ds' t2 := by
  cases h with
  | cons h r => exact ⟨_, _, _, _, rfl, rfl, h, r⟩
theorem LL.inv0 {ds : List PyData} {tk : List (List Nat)} (h : LL [] ds tk) : ds = [] ∧ tk = [] := by
  cases h
  exact ⟨rfl, rfl⟩
theorem LL.name {sl : List Str} {ds : List PyData} {tk : List (List Nat)} (h : LL (sg "name" :: sl) ds tk) : ∃ z ds' t2, isNameD (.str z) = true ∧ ds = .str z :: ds' ∧ tk = nmL z :: t2 ∧ LL sl ds' t2 := by
  obtain ⟨d, ds', t1, t2, rfl, rfl, h, r⟩ := h.inv
  rcases h.inv with ⟨_, z, hz, rfl, rfl⟩ | ⟨e, _⟩ | ⟨e, _⟩ | ⟨e, _⟩ | ⟨e, _⟩
  · exact ⟨z, ds', t2, hz, rfl, rfl, r⟩
  all_goals exact absurd e (by decide +kernel)
theorem LL.kind {sl : List Str} {ds : List PyData} {tk : List (List Nat)} (h : LL (sg "kind" :: sl) ds tk) : ∃ d ds' t1 t2, LK d t1 ∧ ds = d :: ds' ∧ tk = t1 ++ t2 ∧ LL sl ds' t2 := by
  obtain ⟨d, ds', t1, t2, rfl, rfl, h, r⟩ := h.inv
  rcases h.inv with ⟨e, _⟩ | ⟨_, h⟩ | ⟨e, _⟩ | ⟨e, _⟩ | ⟨e, _⟩
  · exact absurd e (by decide +kernel)
  · exact ⟨d, ds', t1, t2, h, rfl, rfl, r⟩
  all_goals exact absurd e (by decide +kernel)
theorem LL.term {sl : List Str} {ds : List PyData} {tk : List (List Nat)} (h : LL (sg "term" :: sl) ds tk) : ∃ d ds' t1 t2, LT d t1 ∧ ds = d :: ds' ∧ tk = t1 ++ t2 ∧ LL sl ds' t2 := by
  obtain ⟨d, ds', t1, t2, rfl, rfl, h, r⟩ := h.inv
  rcases h.inv with ⟨e, _⟩ | ⟨e, _⟩ | ⟨_, h⟩ | ⟨e, _⟩ | ⟨e, _⟩
  · exact absurd e (by decide +kernel)
  · exact absurd e (by decide +kernel)
  · exact ⟨d, ds', t1, t2, h, rfl, rfl, r⟩
  all_goals exact absurd e (by decide +kernel)
theorem LL.terms {sl : List Str} {ds : List PyData} {tk : List (List Nat)} (h : LL (sg "terms" :: sl) ds tk) : ∃ ts ds' t1 t2, LTs ts t1 ∧ ds = .tuple ts :: ds' ∧ tk = t1 ++ t2 ∧ LL sl ds' t2 := by
  obtain ⟨d, ds', t1, t2, rfl, rfl, h, r⟩ := h.inv
  rcases h.inv with ⟨e, _⟩ | ⟨e, _⟩ | ⟨e, _⟩ | ⟨_, ts, rfl, hts⟩ | ⟨e, _⟩
  · exact absurd e (by decide +kernel)
  · exact absurd e (by decide +kernel)
  · exact absurd e (by decide +kernel)
  · exact ⟨ts, ds', t1, t2, hts, rfl, rfl, r⟩
  · exact absurd e (by decide +kernel)
theorem LL.cases {sl : List Str} {ds : List PyData} {tk : List (List Nat)} (h : LL (sg "cases" :: sl) ds tk) : ∃ cs ds' t1 t2, LCs cs t1 ∧ ds = .tuple cs :: ds' ∧ tk = t1 ++ t2 ∧ LL sl ds' t2 := by
  obtain ⟨d, ds', t1, t2, rfl, rfl, h, r⟩ := h.inv
  rcases h.inv with ⟨e, _⟩ | ⟨e, _⟩ | ⟨e, _⟩ | ⟨e, _⟩ | ⟨_, c, cs, u1, u2, rfl, rfl, hc1, hr⟩
  · exact absurd e (by decide +kernel)
  · exact absurd e (by decide +kernel)
  · exact absurd e (by decide +kernel)
  · exact absurd e (by decide +kernel)
  · exact ⟨c :: cs, ds', u1 ++ u2, t2, .cons hc1 hr, rfl, rfl, r⟩
def spTermF (K : PySem.W.Frag) (j : Nat) : Sp := fun vs H Q _ => ∃ (b : Addr) (d : PyData) (tk rest : List (List Nat)), vs = [.ref b] ∧ H b = some (.lst (bits (tk ++ rest))) ∧ LT d tk ∧ nst (tk ++ rest) ≤ j ∧ tk.length ≤ 60000 ∧
  ∀ (v : V) (H' : Hp), Da K All H' v d → H' b = some (.lst (bits rest)) → Kp b H H' → Q v H'
/-- what is left of a term's slots as the law goes -/
inductive Lf : Nat → Nat → List Str → Prop
  | a0 : Lf 94 0 [sg "name", sg "kind", sg "term"] | a1 : Lf 94 1 [sg "kind", sg "term"] | a2 : Lf 94 2 [sg "term"] | a3 : Lf 94 3 [] | a4 : Lf 94 4 [] | a5 : Lf 94 5 [] | a6 : Lf 94 6 []
  | b0 : Lf 35 0 [sg "name", sg "terms"] | b1 : Lf 35 1 [sg "terms"] | b2 : Lf 35 2 [sg "terms"] | b3 : Lf 35 3 [] | b4 : Lf 35 4 [] | b5 : Lf 35 5 [] | b6 : Lf 35 6 []
  | c0 : Lf 63 0 [sg "term", sg "cases"] | c1 : Lf 63 1 [sg "term", sg "cases"] | c2 : Lf 63 2 [sg "term", sg "cases"] | c3 : Lf 63 3 [sg "cases"] | c4 : Lf 63 4 [] | c5 : Lf 63 5 [] | c6 : Lf 63 6 []
  | d0 {s : Nat} (h : s = 47 ∨ s = 43) : Lf s 0 [sg "term", sg "name", sg "name", sg "term"] | d1 {s : Nat} (h : s = 47 ∨ s = 43) : Lf s 1 [sg "term", sg "name", sg "name", sg "term"] | d2 {s : Nat} (h : s = 47 ∨ s = 43) : Lf s 2 [sg "term", sg "name", sg "name", sg "term"]
  | d3 {s : Nat} (h : s = 47 ∨ s = 43) : Lf s 3 [sg "name", sg "name", sg "term"] | d4 {s : Nat} (h : s = 47 ∨ s = 43) : Lf s 4 [sg "name", sg "name", sg "term"] | d5 {s : Nat} (h : s = 47 ∨ s = 43) : Lf s 5 [sg "term"] | d6 {s : Nat} (h : s = 47 ∨ s = 43) : Lf s 6 []
  | e0 {s : Nat} (h : s = 33 ∨ s = 38 ∨ s = 45) : Lf s 0 [sg "term", sg "term"] | e1 {s : Nat} (h : s = 33 ∨ s = 38 ∨ s = 45) : Lf s 1 [sg "term", sg "term"] | e2 {s : Nat} (h : s = 33 ∨ s = 38 ∨ s = 45) : Lf s 2 [sg "term", sg "term"]
  | e3 {s : Nat} (h : s = 33 ∨ s = 38 ∨ s = 45) : Lf s 3 [sg "term"] | e4 {s : Nat} (h : s = 33 ∨ s = 38 ∨ s = 45) : Lf s 4 [sg "term"] | e5 {s : Nat} (h : s = 33 ∨ s = 38 ∨ s = 45) : Lf s 5 [sg "term"] | e6 {s : Nat} (h : s = 33 ∨ s = 38 ∨ s = 45) : Lf s 6 []
def TStF (K : PySem.W.Frag) (b L : Addr) (H : Hp) (s j k : Nat) (ds : List PyData) (rest : List (List Nat)) (one : V) (σ : L2.St) (H' : Hp) : Prop := ∃ (us : List V) (ds1 ds2 : List PyData) (tk2 : List (List Nat)) (sl2 : List Str) (v4 v5 v6 v7 : Option V), Lf s k sl2 ∧ LL sl2 ds2 tk2 ∧ ds = ds1 ++ ds2 ∧
  σ = [some (.ref b), some one, some (.str ⟨#[s]⟩), some (.ref L), v4, v5, v6, v7] ∧ H' L = some (.lst us) ∧ DaAll K All H' us ds1 ∧ H' b = some (.lst (bits (tk2 ++ ([41] :: rest)))) ∧ nst (tk2 ++ ([41] :: rest)) ≤ j ∧ tk2.length ≤ 60000 ∧ Kp b H H' ∧ us.length ≤ 2 * k ∧ L ≠ b ∧ H L = none
theorem Lf.s1 {s : Nat} {sl : List Str} (h : Lf s 0 sl) : ((s = 94 ∨ s = 35) → ∃ sl', sl = sg "name" :: sl' ∧ Lf s 1 sl') ∧ (¬ (s = 94 ∨ s = 35) → Lf s 1 sl) := by
  cases h with
  | a0 => exact ⟨fun _ => ⟨_, rfl, .a1⟩, fun h => absurd (.inl rfl) h⟩
  | b0 => exact ⟨fun _ => ⟨_, rfl, .b1⟩, fun h => absurd (.inr rfl) h⟩
  | c0 => exact ⟨fun h => absurd h (by decide), fun _ => .c1⟩
  | d0 h => exact ⟨fun h' => by omega, fun _ => .d1 h⟩
  | e0 h => exact ⟨fun h' => by omega, fun _ => .e1 h⟩
theorem Lf.s2 {s : Nat} {sl : List Str} (h : Lf s 1 sl) : (s = 94 → ∃ sl', sl = sg "kind" :: sl' ∧ Lf s 2 sl') ∧ (¬ s = 94 → Lf s 2 sl) := by
  cases h with
  | a1 => exact ⟨fun _ => ⟨_, rfl, .a2⟩, fun h => absurd rfl h⟩
  | b1 => exact ⟨fun h => absurd h (by decide), fun _ => .b2⟩
  | c1 => exact ⟨fun h => absurd h (by decide), fun _ => .c2⟩
  | d1 h => exact ⟨fun h' => by omega, fun _ => .d2 h⟩
  | e1 h => exact ⟨fun h' => by omega, fun _ => .e2 h⟩
theorem Lf.s3 {s : Nat} {sl : List Str} (h : Lf s 2 sl) : (s = 35 → ∃ sl', sl = sg "terms" :: sl' ∧ Lf s 3 sl') ∧ (¬ s = 35 → ∃ sl', sl = sg "term" :: sl' ∧ Lf s 3 sl') := by
  cases h with
  | a2 => exact ⟨fun h => absurd h (by decide), fun _ => ⟨_, rfl, .a3⟩⟩
  | b2 => exact ⟨fun _ => ⟨_, rfl, .b3⟩, fun h => absurd rfl h⟩
  | c2 => exact ⟨fun h => absurd h (by decide), fun _ => ⟨_, rfl, .c3⟩⟩
  | d2 h => exact ⟨fun h' => by omega, fun _ => ⟨_, rfl, .d3 h⟩⟩
  | e2 h => exact ⟨fun h' => by omega, fun _ => ⟨_, rfl, .e3 h⟩⟩
theorem Lf.s4 {s : Nat} {sl : List Str} (h : Lf s 3 sl) : (s = 63 → ∃ sl', sl = sg "cases" :: sl' ∧ Lf s 4 sl') ∧ (¬ s = 63 → Lf s 4 sl) := by
  cases h with
  | a3 => exact ⟨fun h => absurd h (by decide), fun _ => .a4⟩
  | b3 => exact ⟨fun h => absurd h (by decide), fun _ => .b4⟩
  | c3 => exact ⟨fun _ => ⟨_, rfl, .c4⟩, fun h => absurd rfl h⟩
  | d3 h => exact ⟨fun h' => by omega, fun _ => .d4 h⟩
  | e3 h => exact ⟨fun h' => by omega, fun _ => .e4 h⟩
theorem Lf.s5 {s : Nat} {sl : List Str} (h : Lf s 4 sl) : ((s = 47 ∨ s = 43) → ∃ sl', sl = sg "name" :: sg "name" :: sl' ∧ Lf s 5 sl') ∧ (¬ (s = 47 ∨ s = 43) → Lf s 5 sl) := by
  cases h with
  | a4 => exact ⟨fun h => absurd h (by decide), fun _ => .a5⟩
  | b4 => exact ⟨fun h => absurd h (by decide), fun _ => .b5⟩
  | c4 => exact ⟨fun h => absurd h (by decide), fun _ => .c5⟩
  | d4 h => exact ⟨fun _ => ⟨_, rfl, .d5 h⟩, fun h' => absurd h h'⟩
  | e4 h => exact ⟨fun h' => by omega, fun _ => .e5 h⟩
theorem Lf.s6 {s : Nat} {sl : List Str} (h : Lf s 5 sl) : ((s = 47 ∨ s = 43 ∨ s = 33 ∨ s = 38 ∨ s = 45) → ∃ sl', sl = sg "term" :: sl' ∧ Lf s 6 sl') ∧ (¬ (s = 47 ∨ s = 43 ∨ s = 33 ∨ s = 38 ∨ s = 45) → Lf s 6 sl) := by
  cases h with
  | a5 => exact ⟨fun h => absurd h (by decide), fun _ => .a6⟩
  | b5 => exact ⟨fun h => absurd h (by decide), fun _ => .b6⟩
  | c5 => exact ⟨fun h => absurd h (by decide), fun _ => .c6⟩
  | d5 h => exact ⟨fun _ => ⟨_, rfl, .d6 h⟩, fun h' => absurd (by omega) h'⟩
  | e5 h => exact ⟨fun _ => ⟨_, rfl, .e6 h⟩, fun h' => absurd (by omega) h'⟩
theorem Lf.s7 {s : Nat} {sl : List Str} (h : Lf s 6 sl) : sl = [] := by cases h <;> rfl
theorem noT {H : Hp} {b : Addr} {xs : List V} (e : H b = some (.lst xs)) : NoTup H b := fun ys r => by
  rcases r with r | ⟨o, r⟩
  · rw [e] at r
    cases r
  · rw [e] at r
    cases r
/-- one thing more is read -/
theorem addF {K : PySem.W.Frag} {b L : Addr} {H H1 : Hp} {us : List V} {ds1 : List PyData} {v : V} {d : PyData} {bs : List V} (eL : H1 L = some (.lst us)) (gu : DaAll K All H1 us ds1) (dv : Da K All H1 v d) (eb : H1 b = some (.lst bs)) (k1 : Kp b H H1) (hL0 : H L = none) (n : L ≠ b) :
    (upd H1 L (.lst (us ++ [v]))) L = some (.lst (us ++ [v])) ∧ DaAll K All (upd H1 L (.lst (us ++ [v]))) (us ++ [v]) (ds1 ++ [d]) ∧ (upd H1 L (.lst (us ++ [v]))) b = some (.lst bs) ∧ Kp b H (upd H1 L (.lst (us ++ [v]))) :=
  ⟨upd_same, acc_da eL gu dv, by rw [upd_ne n.symm]; exact eb, k1.mut hL0⟩
theorem inV_of {s : Nat} {xs : List Nat} : inV (.str ⟨#[s]⟩) (xs.map fun c => V.str ⟨#[c]⟩) = decide (s ∈ xs) := by
  induction xs with
  | nil => rfl
  | cons c xs ih =>
    rw [List.map_cons]
    show (eqV _ _ || inV _ _) = _
    rw [ih]
    have e : eqV (.str ⟨#[c]⟩) (.str ⟨#[s]⟩) = decide (s = c) := by
      show decide ((⟨#[c]⟩ : Str) = ⟨#[s]⟩) = _
      by_cases z : s = c
      · rw [z, decide_eq_true rfl, decide_eq_true rfl]
      · rw [decide_eq_false z, decide_eq_false]
        intro q
        exact z (Option.some.inj (congrArg (fun q : Str => q.cps[0]?) q)).symm
    rw [e]
    by_cases z : s = c <;> simp [z]
theorem lt_hd {d : PyData} {tk : List (List Nat)} (h : LT d tk) : ∃ w tk', tk = w :: tk' ∧ w ≠ [41] := by
  cases h with
  | name hz => exact ⟨_, _, rfl, nm_ne1 hz s41.1⟩
  | df hz => exact ⟨_, _, rfl, by decide⟩
  | row hs hf h => exact ⟨_, _, rfl, by decide⟩
theorem LTs.count : ∀ {ds : List PyData} {tk : List (List Nat)}, LTs ds tk → ds.length ≤ tk.length
  | _, _, .nil => Nat.le_refl _
  | _, _, .cons h r => by
    have h1 := lt_pos h
    have h2 := LTs.count r
    rw [List.length_cons, List.length_append]
    omega
theorem LCs.count : ∀ {ds : List PyData} {tk : List (List Nat)}, LCs ds tk → ds.length ≤ tk.length
  | _, _, .nil => Nat.le_refl _
  | _, _, .cons (tk := tk) h r => by
    have h1 : 1 ≤ tk.length := by
      cases h with
      | mk => simp
    have h2 := LCs.count r
    rw [List.length_cons, List.length_append]
    omega
theorem LC.inv {d : PyData} {tk : List (List Nat)} (h : LC d tk) : ∃ (c : Str) (xs : List Str) (u : PyData) (uk : List (List Nat)), isNameD (.str c) = true ∧ (∀ x ∈ xs, isNameD (.str x) = true) ∧ LT u uk ∧ d = .tuple [.str c, .tuple (xs.map strD), u] ∧ tk = [40] :: nmL c :: (xs.map nmL ++ [58] :: (uk ++ [[41]])) := by
  cases h with
  | mk hc hx h => exact ⟨_, _, _, _, hc, hx, h, rfl, rfl⟩
end Ow

namespace Ow
open PySem PySem.Spec PyProof.Rows L2
theorem dp_words (K : PySem.W.Frag) (H : Hp) : ∀ xs : List Str, DpAll K H (xs.map V.str) (xs.map PyData.str)
  | [] => .nil
  | x :: xs => .cons (.str x) (dp_words K H xs)
theorem shaped_wordsAll : ∀ cs : List Str, (∀ x ∈ cs, PyData.strOk x = true) → PyData.canLayAll0 (cs.map PyData.str) = true ∧ PyData.depthAll (cs.map PyData.str) ≤ 1
  | [], _ => by simp [PyData.canLayAll0, PyData.depthAll]
  | c :: cs, hs => by
    obtain ⟨h1, h2⟩ := shaped_wordsAll cs fun y hy => hs y (List.mem_cons_of_mem _ hy)
    refine ⟨?_, ?_⟩
    · simp only [List.map_cons, PyData.canLayAll0, PyData.canLay0, h1, hs c (List.mem_cons_self ..), Bool.and_self]
    · simp only [List.map_cons, PyData.depthAll, PyData.depth]
      omega
theorem shaped_words (cs : List Str) (hs : ∀ x ∈ cs, PyData.strOk x = true) : SeqAt.shaped (.list (cs.map PyData.str)) = true := by
  obtain ⟨h1, h2⟩ := shaped_wordsAll cs hs
  have h3 : (PyData.list (cs.map PyData.str)).depth ≤ 64 := by
    simp only [PyData.depth]
    omega
  unfold SeqAt.shaped
  rw [decide_eq_true h3, Bool.and_true]
  simp only [PyData.canLay0]
  exact h1
theorem eqv_noWords (cs : List Str) : PyData.eqv (.list (cs.map PyData.str)) (.list []) = cs.isEmpty := by
  cases cs with
  | nil => simp [PyData.eqv, PyData.eqvAll]
  | cons c cs => simp [PyData.eqv, PyData.eqvAll]
def bitS (ts : List (List Nat)) : List Str := ts.reverse.map fun w => ⟨w.toArray⟩
theorem bits_str (ts : List (List Nat)) : bits ts = (bitS ts).map V.str := by
  unfold bits bitS
  rw [List.map_map]
  rfl
theorem bitS_empty (ts : List (List Nat)) : (bitS ts).isEmpty = ts.isEmpty := by
  cases ts with
  | nil => rfl
  | cons w ts =>
    show ((w :: ts).reverse.map _).isEmpty = false
    rw [List.reverse_cons, List.map_append]
    cases (ts.reverse.map fun w => (⟨w.toArray⟩ : Str)) <;> rfl
theorem LMk.inv {d : PyData} {tk : List (List Nat)} (h : LMk d tk) : ∃ (c : Str) (xs : List Str), isNameD (.str c) = true ∧ (∀ x ∈ xs, isNameD (.str x) = true) ∧ d = .tuple [.str c, .tuple (xs.map strD)] ∧ tk = [40] :: nmL c :: (xs.map nmL ++ [[41]]) := h
def spProgF (K : PySem.W.Frag) (j : Nat) : Sp := fun vs H Q _ => ∃ (b : Addr) (d : PyData) (tk : List (List Nat)), vs = [.ref b] ∧ H b = some (.lst (bits tk)) ∧ LPr d tk ∧ nst tk ≤ j + 1 ∧ tk.length ≤ 60000 ∧ (∀ w ∈ tk, PyData.strOk ⟨w.toArray⟩ = true) ∧
  ∀ (v : V) (H' : Hp), Da K All H' v d → Kp b H H' → Q v H'
theorem lmk_even : ∀ d tk, LMk d tk → ∀ rest, nst rest ≤ nst (tk ++ rest) := by
  rintro d tk ⟨c, xs, hc, hx, rfl, rfl⟩ rest
  have e : ([40] :: nmL c :: (xs.map nmL ++ [[41]])) ++ rest = [40] :: nmL c :: (xs.map nmL ++ ([41] :: rest)) := by simp
  rw [e, nst_open, nst_word (nm_cases hc).2.2, nst_names hx]
  exact nst_close rest
theorem LRs.even {R : PyData → List (List Nat) → Prop} (hR : ∀ d tk, R d tk → ∀ rest, nst rest ≤ nst (tk ++ rest)) : ∀ {ds : List PyData} {tk : List (List Nat)}, LRs R ds tk → ∀ rest, nst rest ≤ nst (tk ++ rest)
  | _, _, .nil, rest => Nat.le_refl _
  | _, _, .cons (sk := sk) h r, rest => by
    rw [List.append_assoc]
    exact Nat.le_trans (r.even hR rest) (hR _ _ h (sk ++ rest))
theorem ldt_even : ∀ d tk, RowR 61 LDt d tk → ∀ rest, nst rest ≤ nst (tk ++ rest) := by
  rintro d tk ⟨tk', ⟨z, m, ms, t1, t2, hz, hm, hr, rfl, rfl⟩, rfl⟩ rest
  have e : ([40] :: [61] :: ((nmL z :: (t1 ++ t2)) ++ [[41]])) ++ rest = [40] :: [61] :: nmL z :: (t1 ++ (t2 ++ ([41] :: rest))) := by simp
  rw [e, nst_open, nst_other (by decide) (by decide), nst_word (nm_cases hz).2.2]
  have h1 := lmk_even _ _ hm (t2 ++ ([41] :: rest))
  have h2 := hr.even lmk_even ([41] :: rest)
  have h3 := nst_close rest
  omega
theorem ldf_even : ∀ d tk, RowR 64 LDf d tk → ∀ rest, nst rest ≤ nst (tk ++ rest) := by
  rintro d tk ⟨tk', ⟨z, k, t, t1, t2, hz, hk, ht, rfl, rfl⟩, rfl⟩ rest
  have e : ([40] :: [64] :: ((nmL z :: (t1 ++ t2)) ++ [[41]])) ++ rest = [40] :: [64] :: nmL z :: (t1 ++ (t2 ++ ([41] :: rest))) := by simp
  rw [e, nst_open, nst_other (by decide) (by decide), nst_word (nm_cases hz).2.2]
  have h1 := hk.even (t2 ++ ([41] :: rest))
  have h2 := ht.even ([41] :: rest)
  have h3 := nst_close rest
  omega
def PFt (K : PySem.W.Frag) (b D F : Addr) (H : Hp) (j m : Nat) (ds fs : List PyData) (pre : List (List Nat)) (σ : L2.St) (H' : Hp) : Prop := ∃ (us vs : List V) (ds0 ds1 fs0 fs1 : List PyData) (t1 t2 : List (List Nat)) (v3 v4 v5 v6 v7 : Option V), ds = ds0 ++ ds1 ∧ fs = fs0 ++ fs1 ∧ ds1.length + fs1.length ≤ m ∧
  σ = [some (.ref b), some (.ref D), some (.ref F), v3, v4, v5, v6, v7] ∧ H' D = some (.lst us) ∧ H' F = some (.lst vs) ∧ DaAll K All H' us ds0 ∧ DaAll K All H' vs fs0 ∧ LRs (RowR 61 LDt) ds1 t1 ∧ LRs (RowR 64 LDf) fs1 t2 ∧ H' b = some (.lst (bits (pre ++ (t1 ++ t2)))) ∧ nst (t1 ++ t2) ≤ j + 1 ∧
  (t1 ++ t2).length ≤ 60000 ∧ (∀ w ∈ t1 ++ t2, PyData.strOk ⟨w.toArray⟩ = true) ∧ Kp b H H'
theorem bits_ok {ts : List (List Nat)} (h : ∀ w ∈ ts, PyData.strOk ⟨w.toArray⟩ = true) : ∀ x ∈ bitS ts, PyData.strOk x = true := fun x hx => by
  obtain ⟨w, hw, rfl⟩ := List.mem_map.mp hx
  exact h w (List.mem_reverse.mp hw)
end Ow

namespace Ow
open PySem PySem.Spec PyProof.Rows L2
/-- x in a tuple whose items are data -/
def rInDT (K : PySem.W.Frag) : R2 := fun x y H Q => ∃ d ds, Dp K H x d ∧ Dp K H y (.tuple ds) ∧ SeqAt.shaped d = true ∧ SeqAt.shaped (.tuple ds) = true ∧ Q (.bl (ds.any fun z => PyData.eqv z d)) H
theorem op_inDT {X : Cx} (hu : X.A.units + 65 < cLine) : OpR X (compareOp .In) (rInDT X.K) := by
  rintro pins s σ H x y v u Q I rx ry ⟨d, ds, hd, he, sd, se, q⟩
  obtain ⟨as, r1⟩ := Dp.reads I d x v hd rx
  obtain ⟨bs, r2⟩ := Dp.reads I (.tuple ds) y u he ry
  exact SeqAt.in_tuple_reads r2 r1 (SeqAt.canLay_of_shaped se) (SeqAt.canLay_of_shaped sd) (room_in_shaped sd hu) ⟨.bl _, H, I, rfl, q⟩
def dueS (st : List Due) : List Str := st.reverse.map dsS
theorem due_ok (d : Due) : PyData.strOk (dsS d) = true := by cases d <;> decide +kernel
theorem dueS_ok (st : List Due) : ∀ x ∈ dueS st, PyData.strOk x = true := fun x hx => by
  obtain ⟨d, _, rfl⟩ := List.mem_map.mp hx
  exact due_ok d
abbrev finsD : List PyData := [.list [], .list [.str "datas"], .list [.str "defs"]]
theorem fin_eq (st : List Due) : (finsD.any fun z => PyData.eqv z (.list ((dueS st).map PyData.str))) = fin st := by
  match st with
  | [] => rfl
  | [d] => cases d <;> rfl
  | a :: b :: r =>
    have e : ∃ x y l, dueS (a :: b :: r) = x :: y :: l := by
      unfold dueS
      rw [List.reverse_cons, List.reverse_cons, List.append_assoc, List.map_append]
      cases h : r.reverse.map dsS with
      | nil => exact ⟨_, _, _, rfl⟩
      | cons x l =>
        cases l with
        | nil => exact ⟨_, _, _, rfl⟩
        | cons y l => exact ⟨_, _, _, rfl⟩
    obtain ⟨x, y, l, e⟩ := e
    have f : fin (a :: b :: r) = false := by cases a <;> rfl
    rw [e, f]
    simp [finsD, PyData.eqv, PyData.eqvAll]
theorem shaped_fins : SeqAt.shaped (.tuple finsD) = true := by decide +kernel
def spOdd (K : PySem.W.Frag) : Sp := fun vs H Q _ => ∃ (x : Str) (d : Due), vs = [.str x, .str (dsS d)] ∧ x.length ≤ 1000000 ∧ ∀ H', Same H H' → Q (match Od x 0 [d] with | none => .non | some p => .int p) H'
theorem od_zero (x : Str) (d : Due) : Od x 0 [d] = oddC x.cps.toList 0 0 [d] := rfl
theorem beh_len {d : Due} {c : Nat} {more : List Due} (h : beh d c = some more) : more.length ≤ 5 := by
  cases d <;> simp only [beh] at h <;> (repeat' split at h) <;> first | (cases h; simp) | (cases h)
end Ow
namespace Ow
open PySem PySem.Spec PyProof.Rows L2
theorem dues_cons (e : Due) (r : List Due) : dues (e :: r) = dues r ++ [.str (dsS e)] := by
  unfold dues
  rw [List.reverse_cons, List.map_append, List.map_append]
  rfl
theorem dues_str (st : List Due) : dues st = (dueS st).map V.str := rfl
theorem dues_app (a b : List Due) : dues b ++ dues a = dues (a ++ b) := by
  unfold dues
  rw [List.reverse_append, List.map_append, List.map_append]
theorem dues_len (st : List Due) : (dues st).length = st.length := by
  unfold dues
  rw [List.length_map, List.length_map, List.length_reverse]
theorem cut_init (xs : List V) (y : V) : cutV (xs ++ [y]) none (some (-1)) = xs := by
  have h2 : HT.sIx (xs ++ [y]).length (xs ++ [y]).length (some (-1)) = xs.length := by
    rw [List.length_append, List.length_singleton]
    unfold HT.sIx
    simp
    try omega
  unfold cutV
  rw [h2]
  show ((xs ++ [y]).drop 0).take (xs.length - 0) = xs
  rw [List.drop_zero, Nat.sub_zero, List.take_left']
  rfl
theorem last_at (xs : List V) (y : V) : atI (xs ++ [y]) (-1) = some y := by
  obtain ⟨z, h2, h3⟩ := at_last (xs := xs ++ [y]) (by simp)
  rw [h2]
  rw [List.length_append, List.length_singleton, Nat.add_sub_cancel, List.getElem?_append_right (Nat.le_refl _), Nat.sub_self] at h3
  exact congrArg some (Option.some.inj h3).symm
theorem dueS_empty (st : List Due) : (dueS st).isEmpty = st.isEmpty := by
  cases st with
  | nil => rfl
  | cons d st =>
    show ((d :: st).reverse.map dsS).isEmpty = false
    rw [List.reverse_cons, List.map_append]
    cases (st.reverse.map dsS) <;> rfl
end Ow

namespace Ow
open PySem PySem.Spec PyProof.Rows L2
def toksX (x : Str) : List (List Nat) := (x.cps.toList.foldl tstep ([], false)).1
def spDueL (K : PySem.W.Frag) (progB : PyData → Bool) (j : Nat) : Sp := fun vs H Q _ => ∃ (what x : Str) (D : List Due) (R : PyData → List (List Nat) → Prop) (hD : PyData → Bool), vs = [.str what, .str x] ∧ Wh progB what D R hD ∧ x.length ≤ 1000000 ∧ (toksX x).length ≤ 60000 ∧ nst (toksX x) ≤ j ∧ (∀ w ∈ toksX x, PyData.strOk ⟨w.toArray⟩ = true) ∧
  (∀ p (q : Addr) (H' : Hp), Od x 0 D = some p → Same H H' → SqT K H' q [.str "not", .int (p : Int)] → Q (.ref q) H') ∧
  (Od x 0 D = none → ∃ d, R d (toksX x) ∧ (∀ (v : V) (q : Addr) (H' : Hp), hD d = true → Da K All H' v d → Same H H' → SqT K H' q [.str "told", v] → Q (.ref q) H') ∧
    ∀ (q : Addr) (H' : Hp), hD d = false → Same H H' → SqT K H' q [.str "not", .int (x.length : Int)] → Q (.ref q) H')
theorem bits_rev (ts : List (List Nat)) : (ts.map vW).reverse = bits ts := by
  unfold bits
  rw [List.map_reverse]
end Ow

/-! Brackets sign by sign. -/
namespace Ow
open PySem PySem.Spec PyProof.Rows L2
def nc : List Nat → Nat
  | [] => 0
  | c :: r => if c = 40 then nc r + 1 else if c = 41 then nc r - 1 else nc r
theorem nc_step (c : Nat) (r : List Nat) : nc (c :: r) ≤ nc r + 1 ∧ nc r ≤ nc (c :: r) + 1 := by
  rw [nc]
  by_cases h1 : c = 40
  · rw [if_pos h1]
    omega
  · rw [if_neg h1]
    by_cases h2 : c = 41
    · rw [if_pos h2]
      omega
    · rw [if_neg h2]
      omega
theorem nc_lip {L L' : List Nat} {k : Nat} (h : nc L ≤ nc L' + k) : ∀ A : List Nat, nc (A ++ L) ≤ nc (A ++ L') + k
  | [] => h
  | c :: A => by
    have ih := nc_lip h A
    rw [List.cons_append, List.cons_append, nc, nc]
    by_cases h1 : c = 40
    · rw [if_pos h1, if_pos h1]
      omega
    · rw [if_neg h1, if_neg h1]
      by_cases h2 : c = 41
      · rw [if_pos h2, if_pos h2]
        omega
      · rw [if_neg h2, if_neg h2]
        exact ih
theorem nc_put (B : List Nat) : ∀ M : List Nat, nc (M ++ B) ≤ nc B + M.length ∧ nc B ≤ nc (M ++ B) + M.length
  | [] => ⟨by simp, by simp⟩
  | c :: M => by
    have ih := nc_put B M
    have h := nc_step c (M ++ B)
    rw [List.cons_append, List.length_cons]
    omega
theorem nc_front (B : List Nat) : ∀ A : List Nat, nc A ≤ nc (A ++ B)
  | [] => Nat.zero_le _
  | c :: A => by
    have ih := nc_front B A
    rw [List.cons_append, nc, nc]
    by_cases h1 : c = 40
    · rw [if_pos h1, if_pos h1]
      omega
    · rw [if_neg h1, if_neg h1]
      by_cases h2 : c = 41
      · rw [if_pos h2, if_pos h2]
        omega
      · rw [if_neg h2, if_neg h2]
        exact ih
/-- how many signs are no blanks -/
def nb (l : List Nat) : Nat := l.countP fun c => !bl c
theorem nb_app (a b : List Nat) : nb (a ++ b) = nb a + nb b := List.countP_append
theorem nb_le (a : List Nat) : nb a ≤ a.length := List.countP_le_length
theorem nb_blanks {b : List Nat} (h : ∀ c ∈ b, bl c = true) : nb b = 0 := List.countP_eq_zero.mpr fun c hc => by simp [h c hc]
/-- a text otherwise at one place -/
structure Bent (x y : Str) : Prop where
  len : y.length ≤ x.length + 9
  small : (∀ c ∈ x.cps.toList, c < 128) → ∀ c ∈ y.cps.toList, c < 128
  nc : nc y.cps.toList ≤ nc x.cps.toList + 10
  nb : nb y.cps.toList ≤ nb x.cps.toList + 9
def spBent : Sp := fun vs H Q _ => ∃ (p c : Addr) (x : Str), vs = [.ref p, .str x] ∧ Pen H p c ∧ x.length ≤ 999000 ∧ ∀ (y : Str) (H' : Hp), Bent x y → Pen H' p c → Kp p H H' → Q (.str y) H'
/-- a stretch put in, or out -/
theorem bent_of {x y : Str} {A N M B : List Nat} (ex : x.cps.toList = A ++ (N ++ B)) (ey : y.cps.toList = A ++ (M ++ B)) (hN : N.length ≤ 9 ∨ (M = [] ∧ B = [])) (hM : M.length ≤ 9) (hs : (∀ c ∈ x.cps.toList, c < 128) → ∀ c ∈ M, c < 128) (hd : M.length + N.length ≤ 10 ∨ (M = [] ∧ B = [])) : Bent x y := by
  have lx : x.length = A.length + (N.length + B.length) := by
    have := congrArg List.length ex
    rw [List.length_append, List.length_append] at this
    exact this
  have ly : y.length = A.length + (M.length + B.length) := by
    have := congrArg List.length ey
    rw [List.length_append, List.length_append] at this
    exact this
  refine ⟨by omega, fun h c hc => ?_, ?_, ?_⟩
  · rw [ey] at hc
    rcases List.mem_append.mp hc with hc | hc
    · exact h c (by rw [ex]; exact List.mem_append_left _ hc)
    · rcases List.mem_append.mp hc with hc | hc
      · exact hs h c hc
      · exact h c (by rw [ex]; exact List.mem_append_right _ (List.mem_append_right _ hc))
  · rw [ex, ey]
    rcases hd with hd | ⟨rfl, rfl⟩
    · refine nc_lip ?_ A
      have h1 := (nc_put B M).1
      have h2 := (nc_put B N).2
      omega
    · have h := nc_front N A
      simp only [List.append_nil]
      omega
  · rw [ex, ey, nb_app, nb_app, nb_app, nb_app]
    have := nb_le M
    omega
end Ow
namespace Ow
open PySem PySem.Spec PyProof.Rows L2
theorem cut_to (x : Str) (s : Nat) (h : s ≤ x.length) : cutS x none (some (s : Int)) = ⟨(x.cps.toList.take s).toArray⟩ := by
  unfold cutS
  rw [HT.sIx_nat, HT.sIx_none, Nat.min_eq_left h, List.drop_zero, Nat.sub_zero]
theorem cut_from (x : Str) (s : Nat) (h : s ≤ x.length) : cutS x (some (s : Int)) none = ⟨(x.cps.toList.drop s).toArray⟩ := by
  unfold cutS
  rw [HT.sIx_nat, HT.sIx_none, Nat.min_eq_left h]
  congr 2
  exact List.take_of_length_le (by rw [List.length_drop]; exact Nat.le_refl _)
theorem cut_past (x : Str) (s : Nat) (h : x.length ≤ s) : cutS x (some (s : Int)) none = "" := by
  unfold cutS
  rw [HT.sIx_nat, HT.sIx_none, Nat.min_eq_right h, Nat.sub_self, List.take_zero]
  rfl
theorem cat_cps (a b : Str) : (a ++ b).cps.toList = a.cps.toList ++ b.cps.toList := by
  show (a.cps ++ b.cps).toList = _
  rw [Array.toList_append]
theorem drop_split (x : Str) (s k : Nat) : ∃ N, x.cps.toList.drop s = N ++ x.cps.toList.drop (s + k) ∧ N.length ≤ k ∧ N = (x.cps.toList.drop s).take k := by
  refine ⟨(x.cps.toList.drop s).take k, ?_, ?_, rfl⟩
  · rw [← List.drop_drop, List.take_append_drop]
  · rw [List.length_take]
    omega
end Ow

/-! The tokens of any text. -/
namespace Ow
open PySem PySem.Spec PyProof.Rows L2
theorem tfold_true {ws : List (List Nat)} {cs : List Nat} (h : headNo cs) : (cs.foldl tstep (ws, true)).1 = (cs.foldl tstep (ws, false)).1 := by
  cases cs with
  | nil => rfl
  | cons c r =>
    have hc : ltr c = false := h c r rfl
    rw [List.foldl_cons, List.foldl_cons]
    congr 2
    unfold tstep
    rw [hc]
    rfl
/-- what is to be known of the tokens of these signs -/
structure Tok (cs : List Nat) (tk : List (List Nat)) : Prop where
  dr : ∀ p, (p = true → headNo cs) → ∃ t, Dr p tk cs t ∧ ∀ c ∈ t, bl c = true
  tk1 : ∀ w ∈ tk, Tk1 w
  ne : ∀ w ∈ tk, Tkn w
  ns : nst tk = nc cs
  len : tk.length ≤ cs.length
  sub : ∀ w ∈ tk, ∀ c ∈ w, c ∈ cs
theorem nc_letters {r : List Nat} : ∀ {w : List Nat}, (∀ c ∈ w, ltr c = true) → nc (w ++ r) = nc r
  | [], _ => rfl
  | c :: w, h => by
    have hc := h c (List.mem_cons_self ..)
    have n40 : c ≠ 40 := fun z => by rw [z, s40.1] at hc; cases hc
    have n41 : c ≠ 41 := fun z => by rw [z, s41.1] at hc; cases hc
    rw [List.cons_append, nc, if_neg n40, if_neg n41]
    exact nc_letters fun d hd => h d (List.mem_cons_of_mem _ hd)
theorem span_letters : ∀ cs : List Nat, ∃ w r, cs = w ++ r ∧ (∀ c ∈ w, ltr c = true) ∧ headNo r
  | [] => ⟨[], [], rfl, fun _ h => (nomatch h), fun _ _ h => (nomatch h)⟩
  | c :: cs => by
    cases hc : ltr c with
    | true =>
      obtain ⟨w, r, e, h1, h2⟩ := span_letters cs
      refine ⟨c :: w, r, by rw [e]; rfl, fun d hd => ?_, h2⟩
      rcases List.mem_cons.mp hd with rfl | hd
      · exact hc
      · exact h1 d hd
    | false => exact ⟨[], c :: cs, rfl, fun _ h => (nomatch h), fun d t e => by injection e with e1 _; rw [← e1]; exact hc⟩
theorem tok_all : ∀ (n : Nat) (cs : List Nat), cs.length ≤ n → ∀ ws, ∃ tk, (cs.foldl tstep (ws, false)).1 = ws ++ tk ∧ Tok cs tk
  | _, [], _, ws => ⟨[], by rw [List.append_nil]; rfl, fun p _ => ⟨[], .nil, fun _ h => nomatch h⟩, fun _ h => (nomatch h), fun _ h => (nomatch h), rfl, Nat.le_refl _, fun _ h => nomatch h⟩
  | 0, c :: cs, h, _ => absurd h (by simp)
  | n + 1, c :: cs, h, ws => by
    rw [List.length_cons] at h
    cases hb : bl c with
    | true =>
      have nl : ltr c = false := bl_ltr hb
      obtain ⟨tk, e, T⟩ := tok_all n cs (by omega) ws
      have e1 : tstep (ws, false) c = (ws, false) := by
        unfold tstep
        rw [nl, hb]
        rfl
      have nc1 : nc (c :: cs) = nc cs := by
        have n40 : c ≠ 40 := fun z => by rw [z, s40.2] at hb; cases hb
        have n41 : c ≠ 41 := fun z => by rw [z, s41.2] at hb; cases hb
        rw [nc, if_neg n40, if_neg n41]
      refine ⟨tk, by rw [List.foldl_cons, e1, e], fun p _ => ?_, T.tk1, T.ne, by rw [T.ns, nc1], by have := T.len; rw [List.length_cons]; omega, fun w hw d hd => List.mem_cons_of_mem _ (T.sub w hw d hd)⟩
      obtain ⟨t, hD, ht⟩ := T.dr false (fun z => nomatch z)
      cases hD with
      | nil =>
        refine ⟨c :: cs, .nil, fun d hd => ?_⟩
        rcases List.mem_cons.mp hd with rfl | hd
        · exact hb
        · exact ht d hd
      | @cons _ w b r _ ws' hb2 hs2 hD =>
        refine ⟨t, ?_, ht⟩
        have : Dr p (w :: ws') ((c :: b) ++ (w ++ r)) t := Dr.cons (fun d hd => by
          rcases List.mem_cons.mp hd with rfl | hd
          · exact hb
          · exact hb2 d hd) (fun _ _ => by simp) hD
        exact this
    | false =>
      cases hl : ltr c with
      | false =>
        obtain ⟨tk, e, T⟩ := tok_all n cs (by omega) (ws ++ [[c]])
        have e1 : tstep (ws, false) c = (ws ++ [[c]], false) := by rw [tstep_new (by rw [hl]; rfl) hb, hl]
        refine ⟨[c] :: tk, by rw [List.foldl_cons, e1, e, List.append_assoc]; rfl, fun p _ => ?_, fun w hw => ?_, fun w hw => ?_, ?_, by have := T.len; rw [List.length_cons, List.length_cons]; omega, fun w hw d hd => ?_⟩
        · obtain ⟨t, hD, ht⟩ := T.dr (lastL [c]) (fun z => by
            have : lastL [c] = ltr c := rfl
            rw [this, hl] at z
            cases z)
          exact ⟨t, Dr.cons (b := []) (fun _ h => nomatch h) (fun _ z => by
            have : firstL [c] = ltr c := rfl
            rw [this, hl] at z
            cases z) hD, ht⟩
        · rcases List.mem_cons.mp hw with rfl | hw
          · exact .inr ⟨c, rfl, hl⟩
          · exact T.tk1 w hw
        · rcases List.mem_cons.mp hw with rfl | hw
          · exact ⟨c, [], rfl, hb⟩
          · exact T.ne w hw
        · rw [nst, nc, T.ns]
          by_cases h1 : c = 40
          · rw [if_pos h1, if_pos (by rw [h1])]
          · rw [if_neg h1, if_neg (fun z => h1 (by injection z))]
            by_cases h2 : c = 41
            · rw [if_pos h2, if_pos (by rw [h2])]
            · rw [if_neg h2, if_neg (fun z => h2 (by injection z))]
        · rcases List.mem_cons.mp hw with rfl | hw
          · rw [List.mem_singleton.mp hd]
            exact List.mem_cons_self ..
          · exact List.mem_cons_of_mem _ (T.sub w hw d hd)
      | true =>
        obtain ⟨w, r, rfl, hw, hr⟩ := span_letters cs
        have hcw : ∀ d ∈ c :: w, ltr d = true := fun d hd => by
          rcases List.mem_cons.mp hd with rfl | hd
          · exact hl
          · exact hw d hd
        rw [List.length_append] at h
        obtain ⟨tk, e, T⟩ := tok_all n r (by omega) (ws ++ [c :: w])
        have e1 : tstep (ws, false) c = (ws ++ [[c]], true) := by rw [tstep_new (by simp) hb, hl]
        refine ⟨(c :: w) :: tk, ?_, fun p hp => ?_, fun u hu => ?_, fun u hu => ?_, ?_, by have := T.len; simp only [List.length_cons, List.length_append]; omega, fun u hu d hd => ?_⟩
        · rw [List.foldl_cons, e1, List.foldl_append, tfold_name hw]
          show (r.foldl tstep (ws ++ [c :: w], true)).1 = _
          rw [tfold_true hr, e, List.append_assoc]
          rfl
        · obtain ⟨t, hD, ht⟩ := T.dr (lastL (c :: w)) (fun _ => hr)
          refine ⟨t, ?_, ht⟩
          have : Dr p ((c :: w) :: tk) ([] ++ ((c :: w) ++ r)) t := Dr.cons (fun _ h => nomatch h) (fun hp' _ => by
            have := hp hp' c _ rfl
            rw [hl] at this
            cases this) hD
          exact this
        · rcases List.mem_cons.mp hu with rfl | hu
          · exact .inl ⟨by simp, hcw⟩
          · exact T.tk1 u hu
        · rcases List.mem_cons.mp hu with rfl | hu
          · exact ⟨c, w, rfl, hb⟩
          · exact T.ne u hu
        · rw [nst_word hcw, T.ns]
          exact (nc_letters (r := r) hcw).symm
        · rcases List.mem_cons.mp hu with rfl | hu
          · show d ∈ (c :: w) ++ r
            exact List.mem_append_left _ hd
          · show d ∈ (c :: w) ++ r
            exact List.mem_append_right _ (T.sub u hu d hd)
theorem tok_text (x : Str) : Tok x.cps.toList (toksX x) := by
  obtain ⟨tk, e, T⟩ := tok_all x.cps.toList.length x.cps.toList (Nat.le_refl _) []
  rw [List.nil_append] at e
  unfold toksX
  rw [e]
  exact T
theorem at_text (x : Str) : At x 0 (toksX x) := by
  obtain ⟨t, hD, ht⟩ := (tok_text x).dr false (fun z => nomatch z)
  exact At.start hD (tok_text x).ne ht
theorem toksX_len (x : Str) : (toksX x).length ≤ x.length := (tok_text x).len
theorem toksX_ok {x : Str} (h : ∀ c ∈ x.cps.toList, c < 128) : ∀ w ∈ toksX x, PyData.strOk ⟨w.toArray⟩ = true := fun w hw => by
  unfold PyData.strOk
  rw [Array.all_eq_true_iff_forall_mem]
  intro c hc
  have := h c ((tok_text x).sub w hw c (by simpa using hc))
  exact decide_eq_true (by omega)
end Ow

/-! How deep read things are. -/
namespace Ow
open PySem PySem.Spec PyProof.Rows L2
theorem nst_front (b : List (List Nat)) : ∀ a : List (List Nat), nst a ≤ nst (a ++ b)
  | [] => Nat.zero_le _
  | w :: a => by
    have ih := nst_front b a
    rw [List.cons_append, nst, nst]
    by_cases h1 : w = [40]
    · rw [if_pos h1, if_pos h1]
      omega
    · rw [if_neg h1, if_neg h1]
      by_cases h2 : w = [41]
      · rw [if_pos h2, if_pos h2]
        omega
      · rw [if_neg h2, if_neg h2]
        exact ih
theorem dp_tup (ds : List PyData) : (PyData.tuple ds).depth = PyData.depthAll ds + 1 := by
  rw [PyData.depth]
theorem dp_cons (d : PyData) (ds : List PyData) : PyData.depthAll (d :: ds) = max d.depth (PyData.depthAll ds) := by
  rw [PyData.depthAll]
theorem dp_nil : PyData.depthAll [] = 0 := by rw [PyData.depthAll]
theorem dp_str (x : Str) : (PyData.str x).depth = 0 := by rw [PyData.depth]
theorem dp_nms : ∀ xs : List Str, PyData.depthAll (xs.map strD) = 0
  | [] => dp_nil
  | x :: xs => by
    rw [List.map_cons, dp_cons, dp_nms xs]
    show max (PyData.str x).depth 0 = 0
    rw [dp_str]
    rfl
theorem LK.deep : ∀ {d : PyData} {tk : List (List Nat)}, LK d tk → d.depth ≤ nst tk
  | _, _, .name h => by
    rw [dp_str]
    exact Nat.zero_le _
  | _, _, .row (s := s) (ta := ta) (tb := tb) hs ha hb => by
    have ns : [s] ≠ [40] ∧ [s] ≠ [41] := by rcases hs with rfl | rfl <;> decide
    have h1 := ha.deep
    have h2 := hb.deep
    have h3 := nst_front (tb ++ [[41]]) ta
    have h4 := nst_front [[41]] tb
    have h5 := ha.even (tb ++ [[41]])
    rw [dp_tup, dp_cons, dp_cons, dp_cons, dp_nil, dp_str, nst_open, nst_other ns.1 ns.2]
    omega
mutual
theorem LT.deep : ∀ {d : PyData} {tk : List (List Nat)}, LT d tk → d.depth ≤ 3 * nst tk + 1
  | _, _, .name h => by
    rw [dp_str]
    exact Nat.zero_le _
  | _, _, .df h => by
    rw [dp_tup, dp_cons, dp_cons, dp_nil, dp_str, dp_str]
    simp
  | _, _, .row (s := s) (tk := tk) hs hf h => by
    have h1 := LL.deep h
    have h3 := nst_front [[41]] tk
    rw [dp_tup, dp_cons, dp_str, nst_open, nst_other (term_sign hs).1 (term_sign hs).2]
    omega
theorem LL.deep : ∀ {sl : List Str} {ds : List PyData} {tk : List (List Nat)}, LL sl ds tk → PyData.depthAll ds ≤ 3 * nst tk + 2
  | _, _, _, .nil => by
    rw [dp_nil]
    exact Nat.zero_le _
  | _, _, _, .cons (tk := tk) (sk := sk) h r => by
    have h1 := LS.deep h
    have h2 := LL.deep r
    have h3 := nst_front sk tk
    have h4 := LS.even h sk
    rw [dp_cons]
    omega
theorem LS.deep : ∀ {s : Str} {d : PyData} {tk : List (List Nat)}, LS s d tk → d.depth ≤ 3 * nst tk + 2
  | _, _, _, .name h => by
    rw [dp_str]
    exact Nat.zero_le _
  | _, _, _, .kind h => by
    have := h.deep
    omega
  | _, _, _, .term h => by
    have := LT.deep h
    omega
  | _, _, _, .terms h => by
    have := LTs.deep h
    rw [dp_tup]
    omega
  | _, _, _, .cases (tk := tk) (sk := sk) h r => by
    have h1 := LC.deep h
    have h2 := LCs.deep r
    have h3 := nst_front sk tk
    have h4 := LC.even h sk
    rw [dp_tup, dp_cons]
    omega
theorem LTs.deep : ∀ {ds : List PyData} {tk : List (List Nat)}, LTs ds tk → PyData.depthAll ds ≤ 3 * nst tk + 1
  | _, _, .nil => by
    rw [dp_nil]
    exact Nat.zero_le _
  | _, _, .cons (tk := tk) (sk := sk) h r => by
    have h1 := LT.deep h
    have h2 := LTs.deep r
    have h3 := nst_front sk tk
    have h4 := LT.even h sk
    rw [dp_cons]
    omega
theorem LC.deep : ∀ {d : PyData} {tk : List (List Nat)}, LC d tk → d.depth ≤ 3 * nst tk + 1
  | _, _, .mk (c := c) (xs := xs) (uk := uk) hc hx h => by
    have h1 := LT.deep h
    have h3 := nst_front [[41]] uk
    rw [dp_tup, dp_cons, dp_cons, dp_cons, dp_nil, dp_str, dp_tup, dp_nms, nst_open, nst_word (nm_cases hc).2.2, nst_names hx, nst_other (by decide) (by decide)]
    omega
theorem LCs.deep : ∀ {ds : List PyData} {tk : List (List Nat)}, LCs ds tk → PyData.depthAll ds ≤ 3 * nst tk + 1
  | _, _, .nil => by
    rw [dp_nil]
    exact Nat.zero_le _
  | _, _, .cons (tk := tk) (sk := sk) h r => by
    have h1 := LC.deep h
    have h2 := LCs.deep r
    have h3 := nst_front sk tk
    have h4 := LC.even h sk
    rw [dp_cons]
    omega
end
theorem LRs.deep {R : PyData → List (List Nat) → Prop} {k : Nat} (hR : ∀ d tk, R d tk → d.depth ≤ 3 * nst tk + k) (hE : ∀ d tk, R d tk → ∀ rest, nst rest ≤ nst (tk ++ rest)) : ∀ {ds : List PyData} {tk : List (List Nat)}, LRs R ds tk → PyData.depthAll ds ≤ 3 * nst tk + k
  | _, _, .nil => by
    rw [dp_nil]
    exact Nat.zero_le _
  | _, _, .cons (tk := tk) (sk := sk) h r => by
    have h1 := hR _ _ h
    have h2 := r.deep hR hE
    have h3 := nst_front sk tk
    have h4 := hE _ _ h sk
    rw [dp_cons]
    omega
theorem lmk_deep : ∀ d tk, LMk d tk → d.depth ≤ 3 * nst tk + 2 := by
  rintro d tk ⟨c, xs, hc, hx, rfl, rfl⟩
  rw [dp_tup, dp_cons, dp_cons, dp_nil, dp_str, dp_tup, dp_nms]
  omega
theorem ldt_deep : ∀ d tk, RowR 61 LDt d tk → d.depth ≤ 3 * nst tk + 4 := by
  rintro d tk ⟨tk', ⟨z, m, ms, t1, t2, hz, hm, hr, rfl, rfl⟩, rfl⟩
  have h1 := lmk_deep _ _ hm
  have h2 := hr.deep lmk_deep lmk_even
  have e : ([40] :: [61] :: ((nmL z :: (t1 ++ t2)) ++ [[41]])) = [40] :: [61] :: nmL z :: (t1 ++ (t2 ++ [[41]])) := by simp
  have h3 := nst_front (t2 ++ [[41]]) t1
  have h4 := nst_front [[41]] t2
  have h5 := lmk_even _ _ hm (t2 ++ [[41]])
  rw [e, nst_open, nst_other (by decide) (by decide), nst_word (nm_cases hz).2.2, dp_tup, dp_cons, dp_cons, dp_nil, dp_str, dp_tup, dp_cons]
  omega
theorem ldf_deep : ∀ d tk, RowR 64 LDf d tk → d.depth ≤ 3 * nst tk + 4 := by
  rintro d tk ⟨tk', ⟨z, k, t, t1, t2, hz, hk, ht, rfl, rfl⟩, rfl⟩
  have h1 := hk.deep
  have h2 := ht.deep
  have e : ([40] :: [64] :: ((nmL z :: (t1 ++ t2)) ++ [[41]])) = [40] :: [64] :: nmL z :: (t1 ++ (t2 ++ [[41]])) := by simp
  have h3 := nst_front (t2 ++ [[41]]) t1
  have h4 := nst_front [[41]] t2
  have h5 := hk.even (t2 ++ [[41]])
  rw [e, nst_open, nst_other (by decide) (by decide), nst_word (nm_cases hz).2.2, dp_tup, dp_cons, dp_cons, dp_cons, dp_nil, dp_str]
  omega
theorem lpr_deep {d : PyData} {tk : List (List Nat)} (h : LPr d tk) : d.depth ≤ 3 * nst tk + 6 := by
  obtain ⟨ds, fs, t1, t2, h1, h2, rfl, rfl⟩ := h
  have q1 := h1.deep ldt_deep ldt_even
  have q2 := h2.deep ldf_deep ldf_even
  have q3 := nst_front t2 t1
  have q4 := h1.even ldt_even t2
  rw [dp_tup, dp_cons, dp_cons, dp_nil, dp_tup, dp_tup]
  omega
/-- all that is read: small and not deep -/
theorem wh_fit {progB : PyData → Bool} {what : Str} {D : List Due} {R : PyData → List (List Nat) → Prop} {hD : PyData → Bool} (hW : Wh progB what D R hD) {d : PyData} {tk : List (List Nat)} (h : R d tk) : ∃ n, n ≤ 120 * tk.length + 20 ∧ Fit n (3 * nst tk + 6) d := by
  cases hW with
  | kd =>
    obtain ⟨n, h1, m, f⟩ := lk_rfit d tk h
    exact ⟨n, h1, f.sh, f.wt, Nat.le_trans (LK.deep h) (by omega)⟩
  | tm =>
    obtain ⟨n, h1, m, f⟩ := lt_rfit d tk h
    exact ⟨n, h1, f.sh, f.wt, Nat.le_trans (LT.deep h) (by omega)⟩
  | pr =>
    obtain ⟨n, h1, m, f⟩ := lpr_rfit d tk h
    exact ⟨n, h1, f.sh, f.wt, lpr_deep h⟩
end Ow

/-! How many brackets drawn texts open at once. -/
namespace Ow
open PySem PySem.Spec PyProof.Rows L2
/-- even in brackets, at most k open at once -/
def Un (k : Nat) (a : List (List Nat)) : Prop := ∀ b, nst (a ++ b) ≤ max k (nst b)
theorem Un.nil {k : Nat} : Un k [] := fun b => Nat.le_max_right _ _
theorem Un.le {k k' : Nat} {a : List (List Nat)} (h : Un k a) (l : k ≤ k') : Un k' a := fun b => Nat.le_trans (h b) (by omega)
theorem Un.app {k : Nat} {a b : List (List Nat)} (h1 : Un k a) (h2 : Un k b) : Un k (a ++ b) := fun c => by
  rw [List.append_assoc]
  have q1 := h1 (b ++ c)
  have q2 := h2 c
  omega
theorem Un.cons {k : Nat} {w : List Nat} {a : List (List Nat)} (n1 : w ≠ [40]) (n2 : w ≠ [41]) (h : Un k a) : Un k (w :: a) := fun b => by
  rw [List.cons_append, nst_other n1 n2]
  exact h b
theorem Un.word {k : Nat} {w : List Nat} {a : List (List Nat)} (hw : ∀ c ∈ w, ltr c = true) (h : Un k a) : Un k (w :: a) := fun b => by
  rw [List.cons_append, nst_word hw]
  exact h b
theorem Un.row {k : Nat} {a : List (List Nat)} (h : Un k a) : Un (k + 1) ([40] :: (a ++ [[41]])) := fun b => by
  have e : ([40] :: (a ++ [[41]])) ++ b = [40] :: (a ++ ([41] :: b)) := by simp
  have q := h ([41] :: b)
  have z : nst ([41] :: b) = nst b - 1 := rfl
  rw [e, nst_open]
  omega
theorem Un.nms {k : Nat} {xs : List Str} (h : ∀ x ∈ xs, isNameD (.str x) = true) : Un k (xs.map nmL) := fun b => by
  rw [nst_names h]
  exact Nat.le_max_right _ _
theorem Un.nm {k : Nat} {x : Str} (h : isNameD (.str x) = true) {a : List (List Nat)} (ha : Un k a) : Un k (nmL x :: a) := ha.word (nm_cases h).2.2
theorem Un.most {k : Nat} {a : List (List Nat)} (h : Un k a) : nst a ≤ k := by
  have := h []
  rw [List.append_nil] at this
  exact Nat.le_trans this (Nat.le_of_eq (Nat.max_eq_left (Nat.zero_le k)))
theorem sg2 {s : Str} (h : s ∈ signs2) : s.cps.toList ≠ [40] ∧ s.cps.toList ≠ [41] := by
  have : ∀ s ∈ signs2, s.cps.toList ≠ [40] ∧ s.cps.toList ≠ [41] := by decide +kernel
  exact this s h
theorem toks_un : ∀ {k : Nat} {d : PyData}, kindW k d = true → Un k (toks k d)
  | 0, _, h => by cases h
  | k + 1, d, h => by
    rcases kind_cases h with ⟨x, rfl⟩ | ⟨m, s, a, b, e, rfl, hs, ha, hb⟩
    · have hx : isNameD (.str x) = true := by
        have q := h
        unfold kindW at q
        exact q
      exact Un.nm hx Un.nil
    · obtain rfl : k = m := by omega
      have ha' := toks_un ha
      have hb' := toks_un hb
      have z : Un (k + 1) ([40] :: ((s.cps.toList :: (toks k a ++ toks k b)) ++ [[41]])) := Un.row (Un.cons (sg2 hs).1 (sg2 hs).2 (ha'.app hb'))
      have e2 : toks (k + 1) (.tuple [.str s, a, b]) = [40] :: ((s.cps.toList :: (toks k a ++ toks k b)) ++ [[41]]) := by
        show [40] :: s.cps.toList :: (toks k a ++ (toks k b ++ [[41]])) = _
        simp
      rw [e2]
      exact z
mutual
theorem TT.un : ∀ {n : Nat} {d : PyData} {tx : List Nat} {tk : List (List Nat)} {m : Nat}, TT n d tx tk m → Un (2 * n + 7) tk
  | _, _, _, _, _, .name h => Un.nm h Un.nil
  | _, _, _, _, _, .df h => Un.cons (by decide) (by decide) (Un.nm h Un.nil)
  | _, _, _, _, _, .lam (n := n) (x := x) (k := k) (tk := tk) h hk ht => by
    have z : Un (2 * n + 7 + 1) ([40] :: (([94] :: nmL x :: (toks 6 k ++ tk)) ++ [[41]])) := Un.row (Un.cons (by decide) (by decide) (Un.nm h (((toks_un hk).le (by omega)).app (TT.un ht))))
    have e : [40] :: [94] :: nmL x :: (toks 6 k ++ (tk ++ [[41]])) = [40] :: (([94] :: nmL x :: (toks 6 k ++ tk)) ++ [[41]]) := by simp
    rw [e]
    exact z.le (by omega)
  | _, _, _, _, _, .two (n := n) (s := s) (tk := tk) (uk := uk) hs ht hu => by
    have ns := term_sign (two_mem hs)
    have z : Un (2 * n + 7 + 1) ([40] :: (([s] :: (tk ++ uk)) ++ [[41]])) := Un.row (Un.cons ns.1 ns.2 ((TT.un ht).app (TT.un hu)))
    have e : [40] :: [s] :: (tk ++ (uk ++ [[41]])) = [40] :: (([s] :: (tk ++ uk)) ++ [[41]]) := by simp
    rw [e]
    exact z.le (by omega)
  | _, _, _, _, _, .five (n := n) (s := s) (x := x) (y := y) (tk := tk) (uk := uk) hs hx hy hne ht hu => by
    have ns := term_sign (five_mem hs)
    have z : Un (2 * n + 7 + 1) ([40] :: (([s] :: (tk ++ (nmL x :: nmL y :: uk))) ++ [[41]])) := Un.row (Un.cons ns.1 ns.2 ((TT.un ht).app (Un.nm hx (Un.nm hy (TT.un hu)))))
    have e : [40] :: [s] :: (tk ++ (nmL x :: nmL y :: (uk ++ [[41]]))) = [40] :: (([s] :: (tk ++ (nmL x :: nmL y :: uk))) ++ [[41]]) := by simp
    rw [e]
    exact z.le (by omega)
  | _, _, _, _, _, .mk (n := n) (c := c) (tk := tk) h hl ha => by
    have z : Un (2 * n + 7 + 1) ([40] :: (([35] :: nmL c :: tk) ++ [[41]])) := Un.row (Un.cons (by decide) (by decide) (Un.nm h (TS.un ha)))
    have e : [40] :: [35] :: nmL c :: (tk ++ [[41]]) = [40] :: (([35] :: nmL c :: tk) ++ [[41]]) := by simp
    rw [e]
    exact z.le (by omega)
  | _, _, _, _, _, .ch (n := n) (tk := tk) (ck := ck) ht h1 h6 ha => by
    have z : Un (2 * n + 8 + 1) ([40] :: (([63] :: (tk ++ ck)) ++ [[41]])) := Un.row (Un.cons (by decide) (by decide) (((TT.un ht).le (by omega)).app (TC.un ha)))
    have e : [40] :: [63] :: (tk ++ (ck ++ [[41]])) = [40] :: (([63] :: (tk ++ ck)) ++ [[41]]) := by simp
    rw [e]
    exact z.le (by omega)
theorem TS.un : ∀ {n : Nat} {ds : List PyData} {tx : List Nat} {tk : List (List Nat)} {m : Nat}, TS n ds tx tk m → Un (2 * n + 7) tk
  | _, _, _, _, _, .nil => Un.nil
  | _, _, _, _, _, .cons h r => (TT.un h).app (TS.un r)
theorem TC.un : ∀ {n : Nat} {ds : List PyData} {tx : List Nat} {tk : List (List Nat)} {m : Nat}, TC n ds tx tk m → Un (2 * n + 8) tk
  | _, _, _, _, _, .nil => Un.nil
  | _, _, _, _, _, .cons (n := n) (c := c) (xs := xs) (uk := uk) (ck := ck) hc hl hx hu h r => by
    have z : Un (2 * n + 7 + 1) ([40] :: ((nmL c :: (xs.map nmL ++ [58] :: uk)) ++ [[41]])) := Un.row (Un.nm hc ((Un.nms hx).app (Un.cons (by decide) (by decide) (TT.un h))))
    have e : [40] :: nmL c :: (xs.map nmL ++ [58] :: (uk ++ [41] :: ck)) = ([40] :: ((nmL c :: (xs.map nmL ++ [58] :: uk)) ++ [[41]])) ++ ck := by simp
    rw [e]
    exact (z.le (by omega)).app (TC.un r)
end
end Ow

/-! The signs of drawn texts, their brackets. -/
namespace Ow
open PySem PySem.Spec PyProof.Rows L2
def Asc (l : List Nat) : Prop := ∀ c ∈ l, c < 128
theorem Asc.nil : Asc [] := fun c h => nomatch h
theorem Asc.cons {c : Nat} {l : List Nat} (h : c < 128) (g : Asc l) : Asc (c :: l) := fun d hd => by
  rcases List.mem_cons.mp hd with rfl | hd
  · exact h
  · exact g d hd
theorem Asc.app {a b : List Nat} (h : Asc a) (g : Asc b) : Asc (a ++ b) := fun c hc => (List.mem_append.mp hc).elim (h c) (g c)
theorem Asc.name {x : Str} (h : isNameD (.str x) = true) : Asc (nmL x) := fun c hc => by
  have := ltr_small ((nm_cases h).2.2 c hc)
  omega
theorem Asc.names : ∀ {xs : List Str}, (∀ x ∈ xs, isNameD (.str x) = true) → Asc (blN xs)
  | [], _ => .nil
  | x :: xs, h => by
    show Asc (32 :: (nmL x) ++ blN xs)
    exact (Asc.cons (by decide) (.name (h x (List.mem_cons_self ..)))).app (Asc.names fun y hy => h y (List.mem_cons_of_mem _ hy))
theorem Asc.kind : ∀ {j : Nat} {d : PyData}, kindW j d = true → Asc (ktL j d)
  | 0, _, h => by cases h
  | j + 1, d, h => by
    rcases kd_cases h with ⟨z, rfl, _⟩ | ⟨s, a, b, rfl, hs, _, ha, hb⟩
    · exact .name h
    · rw [kt_tup]
      show Asc (40 :: ([s] ++ 32 :: (ktL j a ++ 32 :: (ktL j b ++ [41]))))
      exact .cons (by decide) (.cons (by omega) (.cons (by decide) ((Asc.kind ha).app (.cons (by decide) ((Asc.kind hb).app (.cons (by decide) .nil))))))
theorem sTA : ∀ s ∈ termS, s < 128 := by decide
mutual
theorem TT.asc : ∀ {n : Nat} {d : PyData} {tx : List Nat} {tk : List (List Nat)} {m : Nat}, TT n d tx tk m → Asc tx
  | _, _, _, _, _, .name h => .name h
  | _, _, _, _, _, .df h => .cons (by decide) (.name h)
  | _, _, _, _, _, .lam h hk ht => .cons (by decide) (.cons (by decide) (.cons (by decide) ((Asc.name h).app (.cons (by decide) ((Asc.kind hk).app (.cons (by decide) ((TT.asc ht).app (.cons (by decide) .nil))))))))
  | _, _, _, _, _, .two hs ht hu => .cons (by decide) (.cons (sTA _ (two_mem hs)) (.cons (by decide) ((TT.asc ht).app (.cons (by decide) ((TT.asc hu).app (.cons (by decide) .nil))))))
  | _, _, _, _, _, .five hs hx hy _ ht hu => .cons (by decide) (.cons (sTA _ (five_mem hs)) (.cons (by decide) ((TT.asc ht).app (.cons (by decide) ((Asc.name hx).app (.cons (by decide) ((Asc.name hy).app (.cons (by decide) ((TT.asc hu).app (.cons (by decide) .nil))))))))))
  | _, _, _, _, _, .mk h _ ha => .cons (by decide) (.cons (by decide) (.cons (by decide) ((Asc.name h).app ((TS.asc ha).app (.cons (by decide) .nil)))))
  | _, _, _, _, _, .ch ht _ _ ha => .cons (by decide) (.cons (by decide) (.cons (by decide) ((TT.asc ht).app ((TC.asc ha).app (.cons (by decide) .nil)))))
theorem TS.asc : ∀ {n : Nat} {d : List PyData} {tx : List Nat} {tk : List (List Nat)} {m : Nat}, TS n d tx tk m → Asc tx
  | _, _, _, _, _, .nil => .nil
  | _, _, _, _, _, .cons h r => .cons (by decide) ((TT.asc h).app (TS.asc r))
theorem TC.asc : ∀ {n : Nat} {d : List PyData} {tx : List Nat} {tk : List (List Nat)} {m : Nat}, TC n d tx tk m → Asc tx
  | _, _, _, _, _, .nil => .nil
  | _, _, _, _, _, .cons hc _ hx _ h r => .cons (by decide) (.cons (by decide) ((Asc.name hc).app ((Asc.names hx).app (.cons (by decide) (.cons (by decide) (.cons (by decide) ((TT.asc h).app (.cons (by decide) (TC.asc r)))))))))
end
theorem Asc.flat {α : Type} {f : α → List Nat} : ∀ {xs : List α}, (∀ x ∈ xs, Asc (f x)) → Asc (xs.flatMap f)
  | [], _ => .nil
  | x :: xs, h => by
    rw [List.flatMap_cons]
    exact (h x (List.mem_cons_self ..)).app (Asc.flat fun y hy => h y (List.mem_cons_of_mem _ hy))
theorem asc_mk {m : MkT} (h : MkOk m) : Asc (mkTx m) := .cons (by decide) ((Asc.name h.nm).app ((Asc.names h.all).app (.cons (by decide) .nil)))
theorem asc_dt {p : DtT} (h : DtOk p) : Asc (dtTx p) := .cons (by decide) (.cons (by decide) (.cons (by decide) ((Asc.name h.nm).app ((Asc.flat fun m hm => .cons (by decide) (asc_mk (h.all m hm))).app (.cons (by decide) .nil)))))
theorem asc_df {w : DfW} (h : w.Ok) : Asc (dfTx w) := .cons (by decide) (.cons (by decide) (.cons (by decide) ((Asc.name h.nm).app (.cons (by decide) ((Asc.kind h.kd).app (.cons (by decide) (h.tt.asc.app (.cons (by decide) .nil))))))))
theorem asc_rows {ps : List DtT} {ws : List DfW} (hp : ∀ p ∈ ps, DtOk p) (hw : ∀ w ∈ ws, w.Ok) : ∀ r ∈ rowsTx ps ws, Asc r := fun r hr => by
  rcases List.mem_append.mp hr with hr | hr
  · obtain ⟨p, h, rfl⟩ := List.mem_map.mp hr
    exact asc_dt (hp p h)
  · obtain ⟨w, h, rfl⟩ := List.mem_map.mp hr
    exact asc_df (hw w h)
end Ow

/-! Drawn texts: dressed or not, the same brackets, no other signs than blanks; how many brackets of them are open at once. -/
namespace Ow
open PySem PySem.Spec PyProof.Rows L2
theorem nc_put0 {c : Nat} (h1 : c ≠ 40) (h2 : c ≠ 41) (r : List Nat) : nc (c :: r) = nc r := by
  show (if c = 40 then nc r + 1 else if c = 41 then nc r - 1 else nc r) = _
  rw [if_neg h1, if_neg h2]
theorem nc_same {r r' : List Nat} (h : nc r = nc r') : ∀ w : List Nat, nc (w ++ r) = nc (w ++ r')
  | [] => h
  | c :: w => by
    have e := nc_same h w
    show (if c = 40 then nc (w ++ r) + 1 else if c = 41 then nc (w ++ r) - 1 else nc (w ++ r)) = (if c = 40 then nc (w ++ r') + 1 else if c = 41 then nc (w ++ r') - 1 else nc (w ++ r'))
    rw [e]
theorem bl_codes {c : Nat} (h : bl c = true) : c < 128 ∧ c ≠ 40 ∧ c ≠ 41 := by
  have m := of_decide_eq_true h
  have e : ∀ c ∈ blanks.cps.toList, c < 128 ∧ c ≠ 40 ∧ c ≠ 41 := by decide +kernel
  exact e c m
theorem nc_blanks {r : List Nat} : ∀ {b : List Nat}, (∀ c ∈ b, bl c = true) → nc (b ++ r) = nc r
  | [], _ => rfl
  | c :: b, h => by
    have hc := bl_codes (h c (List.mem_cons_self ..))
    rw [List.cons_append, nc_put0 hc.2.1 hc.2.2, nc_blanks fun d hd => h d (List.mem_cons_of_mem _ hd)]
theorem Dr.nc {p : Bool} {ws : List (List Nat)} {r t : List Nat} (h : Dr p ws r t) : Ow.nc r = Ow.nc (ws.flatten ++ t) := by
  induction h with
  | nil => rfl
  | cons hb hs h ih =>
    rw [nc_blanks hb, List.flatten_cons, List.append_assoc]
    exact nc_same ih _
theorem Dr.sub {p : Bool} {ws : List (List Nat)} {r t : List Nat} (h : Dr p ws r t) : ∀ c, (∃ w ∈ ws, c ∈ w) → c ∈ r := by
  induction h with
  | nil => exact fun c ⟨w, hw, _⟩ => nomatch hw
  | cons hb hs h ih =>
    rintro c ⟨w, hw, hc⟩
    rcases List.mem_cons.mp hw with rfl | hw
    · exact List.mem_append_right _ (List.mem_append_left _ hc)
    · exact List.mem_append_right _ (List.mem_append_right _ (ih c ⟨w, hw, hc⟩))
theorem Dr.asc {p : Bool} {ws : List (List Nat)} {r t : List Nat} (h : Dr p ws r t) : (∀ w ∈ ws, Asc w) → Asc t → Asc r := by
  induction h with
  | nil => exact fun _ ht => ht
  | cons hb hs h ih =>
    exact fun hw ht => Asc.app (fun c hc => (bl_codes (hb c hc)).1) (Asc.app (hw _ (List.mem_cons_self ..)) (ih (fun w h => hw w (List.mem_cons_of_mem _ h)) ht))
theorem blank_asc {t : List Nat} (h : ∀ c ∈ t, bl c = true) : Asc t := fun c hc => (bl_codes (h c hc)).1
/-- what a text tells of any other text of the same tokens -/
theorem dr_like {ws : List (List Nat)} {r r' t t' : List Nat} (h : Dr false ws r t) (h' : Dr false ws r' t') (ht : ∀ c ∈ t, bl c = true) (ht' : ∀ c ∈ t', bl c = true) : nc r' = nc r ∧ (Asc r → Asc r') := by
  refine ⟨?_, fun a => h'.asc (fun w hw c hc => a c (h.sub c ⟨w, hw, hc⟩)) (blank_asc ht')⟩
  have e : ∀ {u : List Nat}, (∀ c ∈ u, bl c = true) → nc u = nc [] := fun {u} hu => by
    have := nc_blanks (r := []) hu
    rwa [List.append_nil] at this
  rw [h.nc, h'.nc]
  exact nc_same ((e ht').trans (e ht).symm) _
/-! ### open at once -/
def Ub (k : Nat) (a : List Nat) : Prop := ∀ b, nc (a ++ b) ≤ max k (nc b)
theorem Ub.nil {k : Nat} : Ub k [] := fun b => Nat.le_max_right _ _
theorem Ub.le {k k' : Nat} {a : List Nat} (h : Ub k a) (l : k ≤ k') : Ub k' a := fun b => Nat.le_trans (h b) (by omega)
theorem Ub.app {k : Nat} {a b : List Nat} (h1 : Ub k a) (h2 : Ub k b) : Ub k (a ++ b) := fun c => by
  rw [List.append_assoc]
  have := h1 (b ++ c)
  have := h2 c
  omega
theorem Ub.cons {k c : Nat} {a : List Nat} (n1 : c ≠ 40) (n2 : c ≠ 41) (h : Ub k a) : Ub k (c :: a) := fun b => by
  rw [List.cons_append, nc_put0 n1 n2]
  exact h b
theorem Ub.row {k : Nat} {a c : List Nat} (h : Ub k a) (e : c = 40 :: (a ++ [41])) : Ub (k + 1) c := fun b => by
  subst e
  have e2 : (40 :: (a ++ [41])) ++ b = 40 :: (a ++ (41 :: b)) := by simp
  have e3 : nc (41 :: b) = nc b - 1 := rfl
  have e4 : nc (40 :: (a ++ (41 :: b))) = nc (a ++ (41 :: b)) + 1 := rfl
  have := h (41 :: b)
  rw [e2, e4]
  omega
theorem Ub.name {k : Nat} {x : Str} (h : isNameD (.str x) = true) : Ub k (nmL x) := fun b => by
  rw [nc_letters (nm_cases h).2.2]
  exact Nat.le_max_right _ _
theorem Ub.names {k : Nat} : ∀ {xs : List Str}, (∀ x ∈ xs, isNameD (.str x) = true) → Ub k (blN xs)
  | [], _ => .nil
  | x :: xs, h => by
    show Ub k (32 :: (nmL x) ++ blN xs)
    exact (Ub.cons (by decide) (by decide) (.name (h x (List.mem_cons_self ..)))).app (Ub.names fun y hy => h y (List.mem_cons_of_mem _ hy))
theorem Ub.most {k : Nat} {a : List Nat} (h : Ub k a) : nc a ≤ k := by
  have := h []
  rw [List.append_nil] at this
  have e : nc [] = 0 := rfl
  omega
theorem Ub.kind : ∀ {j : Nat} {d : PyData}, kindW j d = true → Ub j (ktL j d)
  | 0, _, h => by cases h
  | j + 1, d, h => by
    rcases kd_cases h with ⟨z, rfl, _⟩ | ⟨s, a, b, rfl, hs, _, ha, hb⟩
    · exact .name h
    · rw [kt_tup]
      exact Ub.row (a := [s] ++ 32 :: (ktL j a ++ 32 :: ktL j b)) (.cons (by omega) (by omega) (.cons (by decide) (by decide) ((Ub.kind ha).app (.cons (by decide) (by decide) (Ub.kind hb))))) (by simp)
theorem sTB : ∀ s ∈ termS, s ≠ 40 ∧ s ≠ 41 := by decide
mutual
theorem TT.ub : ∀ {n : Nat} {d : PyData} {tx : List Nat} {tk : List (List Nat)} {m : Nat}, TT n d tx tk m → Ub (2 * n + 7) tx
  | _, _, _, _, _, .name h => .name h
  | _, _, _, _, _, .df h => .cons (by decide) (by decide) (.name h)
  | _, _, _, _, _, .lam (n := n) (x := x) (k := k) (tx := tx) h hk ht => Ub.le (Ub.row (k := 2 * n + 7) (a := 94 :: 32 :: (nmL x ++ 32 :: (ktL 6 k ++ 32 :: tx))) (.cons (by decide) (by decide) (.cons (by decide) (by decide) ((Ub.name h).app (.cons (by decide) (by decide) (((Ub.kind hk).le (by omega)).app (.cons (by decide) (by decide) (TT.ub ht))))))) (by simp)) (by omega)
  | _, _, _, _, _, .two (n := n) (s := s) (tx := tx) (ux := ux) hs ht hu => Ub.le (Ub.row (k := 2 * n + 7) (a := s :: 32 :: (tx ++ 32 :: ux)) (.cons (sTB _ (two_mem hs)).1 (sTB _ (two_mem hs)).2 (.cons (by decide) (by decide) ((TT.ub ht).app (.cons (by decide) (by decide) (TT.ub hu))))) (by simp)) (by omega)
  | _, _, _, _, _, .five (n := n) (s := s) (x := x) (y := y) (tx := tx) (ux := ux) hs hx hy _ ht hu => Ub.le (Ub.row (k := 2 * n + 7) (a := s :: 32 :: (tx ++ 32 :: (nmL x ++ 32 :: (nmL y ++ 32 :: ux)))) (.cons (sTB _ (five_mem hs)).1 (sTB _ (five_mem hs)).2 (.cons (by decide) (by decide) ((TT.ub ht).app (.cons (by decide) (by decide) ((Ub.name hx).app (.cons (by decide) (by decide) ((Ub.name hy).app (.cons (by decide) (by decide) (TT.ub hu))))))))) (by simp)) (by omega)
  | _, _, _, _, _, .mk (n := n) (c := c) (tx := tx) h _ ha => Ub.le (Ub.row (k := 2 * n + 7) (a := 35 :: 32 :: (nmL c ++ tx)) (.cons (by decide) (by decide) (.cons (by decide) (by decide) ((Ub.name h).app (TS.ub ha)))) (by simp)) (by omega)
  | _, _, _, _, _, .ch (n := n) (tx := tx) (cx := cx) ht _ _ ha => Ub.le (Ub.row (k := 2 * n + 8) (a := 63 :: 32 :: (tx ++ cx)) (.cons (by decide) (by decide) (.cons (by decide) (by decide) (((TT.ub ht).le (by omega)).app (TC.ub ha)))) (by simp)) (by omega)
theorem TS.ub : ∀ {n : Nat} {d : List PyData} {tx : List Nat} {tk : List (List Nat)} {m : Nat}, TS n d tx tk m → Ub (2 * n + 7) tx
  | _, _, _, _, _, .nil => .nil
  | _, _, _, _, _, .cons h r => .cons (by decide) (by decide) ((TT.ub h).app (TS.ub r))
theorem TC.ub : ∀ {n : Nat} {d : List PyData} {tx : List Nat} {tk : List (List Nat)} {m : Nat}, TC n d tx tk m → Ub (2 * n + 8) tx
  | _, _, _, _, _, .nil => .nil
  | _, _, _, _, _, .cons (n := n) (c := c) (xs := xs) (ux := ux) (cx := cx) hc _ hx _ h r => by
    have z : Ub (2 * n + 7 + 1) (40 :: ((nmL c ++ (blN xs ++ 32 :: 58 :: 32 :: ux)) ++ [41])) := Ub.row ((Ub.name hc).app ((Ub.names hx).app (.cons (by decide) (by decide) (.cons (by decide) (by decide) (.cons (by decide) (by decide) (TT.ub h)))))) rfl
    have e : 32 :: 40 :: (nmL c ++ (blN xs ++ 32 :: 58 :: 32 :: (ux ++ 41 :: cx))) = 32 :: ((40 :: ((nmL c ++ (blN xs ++ 32 :: 58 :: 32 :: ux)) ++ [41])) ++ cx) := by simp
    rw [e]
    exact .cons (by decide) (by decide) (z.app (TC.ub r))
end
theorem Ub.flat {α : Type} {k : Nat} {f : α → List Nat} : ∀ {xs : List α}, (∀ x ∈ xs, Ub k (f x)) → Ub k (xs.flatMap f)
  | [], _ => .nil
  | x :: xs, h => by
    rw [List.flatMap_cons]
    exact (h x (List.mem_cons_self ..)).app (Ub.flat fun y hy => h y (List.mem_cons_of_mem _ hy))
theorem ub_mk {m : MkT} (h : MkOk m) : Ub 1 (mkTx m) := Ub.row (k := 0) (a := nmL m.1 ++ blN m.2) ((Ub.name h.nm).app (Ub.names h.all)) (by unfold mkTx; simp)
theorem ub_dt {p : DtT} (h : DtOk p) : Ub 2 (dtTx p) := Ub.row (k := 1) (a := 61 :: 32 :: (nmL p.1 ++ p.2.flatMap (fun m => 32 :: mkTx m))) (.cons (by decide) (by decide) (.cons (by decide) (by decide) ((Ub.name h.nm).app (Ub.flat fun m hm => .cons (by decide) (by decide) (ub_mk (h.all m hm)))))) (by unfold dtTx; simp)
theorem ub_df {w : DfW} (h : w.Ok) : Ub 14 (dfTx w) := Ub.row (k := 13) (a := 64 :: 32 :: (nmL w.f ++ 32 :: (ktL 6 w.k ++ 32 :: w.tx))) (.cons (by decide) (by decide) (.cons (by decide) (by decide) ((Ub.name h.nm).app (.cons (by decide) (by decide) (((Ub.kind h.kd).le (by decide)).app (.cons (by decide) (by decide) h.tt.ub)))))) (by unfold dfTx; simp)
theorem ub_rows {ps : List DtT} {ws : List DfW} (hp : ∀ p ∈ ps, DtOk p) (hw : ∀ w ∈ ws, w.Ok) : ∀ r ∈ rowsTx ps ws, Ub 14 r := fun r hr => by
  rcases List.mem_append.mp hr with hr | hr
  · obtain ⟨p, h, rfl⟩ := List.mem_map.mp hr
    exact (ub_dt (hp p h)).le (by decide)
  · obtain ⟨w, h, rfl⟩ := List.mem_map.mp hr
    exact ub_df (hw w h)
theorem ub_join {k : Nat} {s : List Nat} (hs : Ub k s) : ∀ {rs : List (List Nat)}, (∀ r ∈ rs, Ub k r) → Ub k (joinL s rs)
  | [], _ => .nil
  | r :: rs, h => (h r (List.mem_cons_self ..)).app (Ub.flat fun y hy => hs.app (h y (List.mem_cons_of_mem _ hy)))
theorem asc_join {s : List Nat} (hs : Asc s) : ∀ {rs : List (List Nat)}, (∀ r ∈ rs, Asc r) → Asc (joinL s rs)
  | [], _ => .nil
  | r :: rs, h => (h r (List.mem_cons_self ..)).app (Asc.flat fun y hy => hs.app (h y (List.mem_cons_of_mem _ hy)))
end Ow

/-! How many signs of a text are no blanks: dressed or not, the same; no fewer than its tokens. -/
namespace Ow
open PySem PySem.Spec PyProof.Rows L2
theorem Dr.nb {p : Bool} {ws : List (List Nat)} {r t : List Nat} (h : Dr p ws r t) : Ow.nb r = Ow.nb ws.flatten + Ow.nb t := by
  induction h with
  | nil => simp [Ow.nb]
  | cons hb hs h ih =>
    rw [nb_app, nb_app, List.flatten_cons, nb_app, nb_blanks hb, ih]
    omega
theorem dr_nb {ws : List (List Nat)} {r r' t t' : List Nat} (h : Dr false ws r t) (h' : Dr false ws r' t') (ht : ∀ c ∈ t, bl c = true) (ht' : ∀ c ∈ t', bl c = true) : nb r' = nb r := by
  rw [h.nb, h'.nb, nb_blanks ht, nb_blanks ht']
theorem nb_cons {c : Nat} {l : List Nat} (h : bl c = false) : nb (c :: l) = nb l + 1 := by
  unfold nb
  rw [List.countP_cons, h]
  rfl
/-- each token holds a sign that is no blank -/
theorem tk_nb {w : List Nat} (h : Tkn w) : 1 ≤ nb w := by
  obtain ⟨c, w', rfl, hc⟩ := h
  rw [nb_cons hc]
  omega
theorem flat_nb : ∀ {ws : List (List Nat)}, (∀ w ∈ ws, 1 ≤ nb w) → ws.length ≤ nb ws.flatten
  | [], _ => Nat.zero_le _
  | w :: ws, h => by
    have a := h w (List.mem_cons_self ..)
    have b := flat_nb (ws := ws) fun u hu => h u (List.mem_cons_of_mem _ hu)
    rw [List.flatten_cons, nb_app, List.length_cons]
    omega
theorem toksX_nb (x : Str) : (toksX x).length ≤ nb x.cps.toList := by
  obtain ⟨t, hD, ht⟩ := (tok_text x).dr false (fun z => nomatch z)
  rw [hD.nb]
  have := flat_nb (ws := toksX x) fun w hw => tk_nb ((tok_text x).ne w hw)
  omega
theorem toksX_nc (x : Str) : nst (toksX x) = nc x.cps.toList := (tok_text x).ns
end Ow

/-! Levels of readers; a text that is drawn, dressed, bent. -/
namespace Ow
open PySem PySem.Spec PyProof.Rows L2
theorem RX.le {K : PySem.W.Frag} {C cN : Addr} {i j : Nat} {D aft : List Due} {R : PyData → List (List Nat) → Prop} {F : List (List Nat) → Prop} (h : i ≤ j) : ∀ vs H Q E, RX K C cN i D aft R F vs H Q E → RX K C cN j D aft R F vs H Q E := fun vs H Q E ⟨r, x, n, ws, e, hS, hj, kOk, kNo⟩ => ⟨r, x, n, ws, e, hS, Nat.le_trans hj h, kOk, kNo⟩
theorem spKindF_le {K : PySem.W.Frag} {i j : Nat} (h : i ≤ j) : ∀ vs H Q E, spKindF K i vs H Q E → spKindF K j vs H Q E := fun vs H Q E ⟨b, d, tk, rest, e, hb, hk, hj, kk⟩ => ⟨b, d, tk, rest, e, hb, hk, Nat.le_trans hj h, kk⟩
theorem spTermF_le {K : PySem.W.Frag} {i j : Nat} (h : i ≤ j) : ∀ vs H Q E, spTermF K i vs H Q E → spTermF K j vs H Q E := fun vs H Q E ⟨b, d, tk, rest, e, hb, hk, hj, kk⟩ => ⟨b, d, tk, rest, e, hb, hk, Nat.le_trans hj h, kk⟩
section
variable {P : Program} {w : World} {K : PySem.W.Frag} {mg : Str → Option Value} {base : Heap} {N ps : List Str} {k j : Nat} {sp sp' : Sp} {f : Addr} {fd : FuncData} {x : Str} {st : Stmt}
theorem DefF.noneX (D : DefF K mg x st ps f fd) (S : FnScope N ps (defScope st)) : FnOk P w K mg base (L2.CX P w) 1 f fd ps (fun _ _ _ _ => False) :=
  D.okX S (fun _ _ _ _ h => h.elim) fun _ _ _ _ _ _ _ _ _ h => h.elim
theorem HeldX.imp (h : HeldX P w K mg base k f sp) (hj : k ≤ j) (i : ∀ vs H Q E, sp' vs H Q E → sp vs H Q E) : HeldX P w K mg base j f sp' := by
  obtain ⟨fd, ps, F, a, b⟩ := h.ex
  exact ⟨fd, ps, (F.mono hj).imp i, a, b⟩
theorem CallX.up (h : CallX P w K mg base k x ps sp) (hj : k ≤ j) (i : ∀ vs H Q E, sp' vs H Q E → sp vs H Q E) : CallX P w K mg base j x ps sp' := by
  obtain ⟨f, fd, F, a, b, c⟩ := h.ex
  exact ⟨f, fd, (F.mono hj).imp i, a, b, c⟩
end
theorem spKind8 {K : PySem.W.Frag} : ∀ vs H Q E, spOf8 K (kindW 6) vs H Q E → spKind K vs H Q E := fun vs H Q E ⟨N, v, d, n, m, e, hd, hf, hn, k⟩ => ⟨N, v, d, n, m, e, hd, hf, Nat.le_trans hn (by decide), k⟩
theorem spOf816 {K : PySem.W.Frag} {f : PyData → Bool} : ∀ vs H Q E, spOf8 K f vs H Q E → spOf K f vs H Q E := fun vs H Q E ⟨N, v, d, n, m, e, hd, hf, hn, k⟩ => ⟨N, v, d, n, m, e, hd, hf, Nat.le_trans hn (by decide), k⟩
theorem spProgF_up {K : PySem.W.Frag} {j : Nat} : ∀ vs H Q E, spProgF K j vs H Q E → spProgF K j vs H Q E := fun _ _ _ _ h => h
theorem sp_id {sp : Sp} : ∀ vs H Q E, sp vs H Q E → sp vs H Q E := fun _ _ _ _ h => h
/-- a text that is drawn, bent at most b times -/
structure Txt10 (b : Nat) (x : Str) : Prop where
  len : x.length ≤ 990000 + 9 * b
  asc : Asc x.cps.toList
  nc : nc x.cps.toList ≤ 15 + 10 * b
  nb : nb x.cps.toList ≤ 32000 + 9 * b
theorem Txt10.bent {b : Nat} {x y : Str} (h : Txt10 b x) (g : Bent x y) : Txt10 (b + 1) y := by
  have a1 := g.len; have a2 := h.len; have b1 := g.nc; have b2 := h.nc; have c1 := g.nb; have c2 := h.nb
  exact ⟨by omega, g.small h.asc, by omega, by omega⟩
/-- drawn: its words, its signs, its brackets -/
structure Drawn10 (tx : List Nat) (tk : List (List Nat)) : Prop where
  q : Tq false tx tk
  ne : tk ≠ []
  asc : Asc tx
  ub : Ub 15 tx
  len : tx.length ≤ 32000
theorem Drawn10.txt {tx : List Nat} {tk : List (List Nat)} (h : Drawn10 tx tk) : Txt10 0 ⟨tx.toArray⟩ := by
  have e : (⟨tx.toArray⟩ : Str).cps.toList = tx := List.toList_toArray
  have l := h.len
  refine ⟨?_, by rw [e]; exact h.asc, by rw [e]; exact h.ub.most, ?_⟩
  · show tx.toArray.size ≤ _
    rw [List.size_toArray]
    omega
  · rw [e]
    exact Nat.le_trans (nb_le tx) (by omega)
theorem Drawn10.dressed {tx : List Nat} {tk : List (List Nat)} (h : Drawn10 tx tk) {y : Str} {t : List Nat} (hy : Dr false tk y.cps.toList t) (ht : ∀ c ∈ t, bl c = true) (ly : y.length ≤ 990000) : Txt10 0 y := by
  have hd := tq_text h.q
  obtain ⟨h1, h2⟩ := dr_like hd hy (fun c hc => nomatch hc) ht
  have h3 := dr_nb hd hy (fun c hc => nomatch hc) ht
  have l := h.len
  refine ⟨by omega, h2 h.asc, by rw [h1]; exact h.ub.most, ?_⟩
  rw [h3]
  exact Nat.le_trans (nb_le tx) (by omega)
theorem kind_ne {j : Nat} {d : PyData} (h : kindW j d = true) : toks j d ≠ [] := by
  cases j with
  | zero => cases h
  | succ j =>
    rcases kd_cases h with ⟨z, rfl, _⟩ | ⟨s, a, b, rfl, _⟩
    · intro e; cases e
    · intro e; cases e
theorem drawn_kind {d : PyData} (h : kindW 7 d = true) : Drawn10 (ktL 7 d) (toks 7 d) := by
  have := kt_len h
  exact ⟨Tq.kind h, kind_ne h, Asc.kind h, (Ub.kind h).le (by decide), by omega⟩
theorem drawn_term {d : PyData} {tx : List Nat} {tk : List (List Nat)} {m : Nat} (h : TT 3 d tx tk m) (l : tx.length ≤ bX 2) : Drawn10 tx tk := by
  have b2 : bX 2 = 4490 := rfl
  obtain ⟨hq, hn⟩ := h.tq
  exact ⟨hq, hn, h.asc, h.ub.le (by decide), by omega⟩
theorem drawn_prog {ps : List DtT} {ws : List DfW} (h : ProgW ps ws) (l : sumL (rowsTx ps ws) ≤ 15000) : Drawn10 (joinL [10] (rowsTx ps ws)) (rowsTk ps ws) := by
  have p6 := h.p6
  have w16 := h.w16
  have hrl : (rowsTx ps ws).length = ps.length + ws.length := by
    unfold rowsTx
    rw [List.length_append, List.length_map, List.length_map]
  have jl := joinL_len [10] (rowsTx ps ws)
  have e : ([10] : List Nat).length = 1 := rfl
  rw [e] at jl
  refine ⟨tq_prog (.inr ⟨10, rfl, by decide +kernel⟩) h.p1 h.pok h.wok, rows_ne h.p1, asc_join (.cons (by decide) .nil) (asc_rows h.pok h.wok), (ub_join (.cons (by decide) (by decide) .nil) (fun r hr => (ub_rows h.pok h.wok r hr).le (by decide))), by omega⟩
theorem fit_nat (n : Nat) (h : n ≤ 1000000) : Fit 100 0 (.int (n : Int)) := by
  have e : (n : Int).natAbs = n := Int.natAbs_natCast n
  have l : n.log2 < 20 := by
    by_cases z : n = 0
    · subst z
      decide
    · exact (Nat.log2_lt z).mpr (by omega)
  refine ⟨?_, ?_, by rw [PyData.depth]; exact Nat.le_refl _⟩
  · rw [PyData.showable, e]
    exact decide_eq_true (by omega)
  · rw [Ow.wt]
    have q : (toString (n : Int)).length ≤ 20 + 1 := int_text_length_le (by decide) (by rw [e]; exact l)
    show (Str.ofString (toString (n : Int))).length ≤ 100
    rw [PySem.ofString_length]
    omega
end Ow

/-! Own instances: len of one, != of two. -/
namespace Ow
open PySem PySem.Spec PyProof.Rows L2
/-- a def of a class, run one step farther in -/
theorem run_in1 {X : Cx} {CX : CXT} {k : Nat} {f : Addr} {fd : FuncData} {ps : List Str} {sp : Sp} {E : XK} {pins : List (Addr × Obj)} {σ : L2.St} {H : Hp} {s : Shared} {Q : VK} {us : List Value} {vs : List V} {A : Around} (sb : Sub X k A)
    (F : FnOk X.prog X.w X.K X.mg X.base CX k f fd ps sp) (hb : L2.Binds X.K fd ps []) (hx : Passes CX X E) (I : Inv X pins σ H s) (r : Vals vs us) (h : sp vs H Q E) {Qv : Value → Shared → Prop}
    (fin : ∀ (u : Value) (s' : Shared) (v : V) (H' : Hp), Inv X pins σ H' s' → RelV v u → Q v H' → Qv u s') : wpAny (model X.prog X.w) A (call (.ref f) us) Qv X.xe s := by
  have e0 : Env0 X.prog X.w X.K X.mg X.base A X.stack s H := by
    have e := I.env0
    refine ⟨?_, e.mod, e.bs, e.bsz, e.funs, e.frf, e.hok, e.bare⟩
    rw [sb.fr]
    exact e.frames
  have hl : us.length = ps.length := r.length.symm.trans (F.len _ _ _ _ h)
  have hbd : BindsTo s fd ⟨us, []⟩ (ps.zip us) := by
    have := hb s us I.kIn (by simpa using hl)
    simpa using this
  refine wpAny_call (codeAny_mono (F.run A X.stack s H ⟨us, []⟩ us vs Q E sb.room e0 hbd r h) fun z s' hq => ?_)
  cases z with
  | error e => exact hx pins σ H s e s' I hq
  | ok fl =>
    cases fl with
    | ret u =>
      obtain ⟨v, H', I', rv, q⟩ := I.after hq
      exact fin u s' v H' I' rv q
    | next => exact False.elim hq
    | brk => exact False.elim hq
    | cont => exact False.elim hq
section
variable {X : Cx} {CX : CXT} {k j : Nat} {f C : Addr} {fd : FuncData} {ps : List Str} {sp : Sp} {E : XK}
/-- len(x), x an own instance -/
def rLenO (C : Addr) (sp : Sp) (E : XK) : List V → Hp → VK → Prop := fun xs H Q => ∃ (a dx : Addr) (fs : List (Str × V)), xs = [.ref a] ∧ H a = some (.ins C dx fs) ∧ sp [.ref a] H (fun v H' => ∃ n : Nat, v = .int n ∧ n < 2 ^ 62 ∧ Q (.int n) H') E
theorem call_lenO (F : FnOk X.prog X.w X.K X.mg X.base CX k f fd ps sp) (hb : L2.Binds X.K fd ps []) (hx : Passes CX X E) (hs : PySem.W.findIn X.K (.ref C) "__len__" = some (some (.ref f))) (hf : PySem.W.isFn X.K (.ref f) = true) (hr : Room (k + 1) X.A) : CallR X (.builtin "len") (rLenO C sp E) := by
  intro pins s σ H xs us Q I r h
  obtain ⟨a, dx, fs, rfl, ha, hsp⟩ := h
  obtain ⟨u, rfl, r1⟩ := vals1 r
  obtain rfl : u = Value.ref a := r1
  obtain ⟨mA, J, _⟩ := ins_get I.hok ha
  obtain ⟨od, J, _⟩ := J.look
  obtain ⟨m, hF⟩ := I.fr
  have sb : Sub X (k + 1) X.A := ⟨hr, rfl⟩
  refine PySem.W.len_K hF I.ok.mod.kin J hs hf (run_in1 (us := [Value.ref a]) (vs := [V.ref a]) sb.in1 F hb hx I (.cons rfl .nil) hsp fun v s' z H' I' rv q => ?_)
  obtain ⟨n, rfl, hn, q⟩ := q
  obtain ⟨t, rfl⟩ := rv
  exact ⟨⟨by omega, by omega⟩, ⟨.int n, H', I'.tok _, ⟨_, rfl⟩, q⟩⟩
/-- what a class without an own __ne__ says -/
structure NeC (K : PySem.W.Frag) (C f : Addr) : Prop where
  ne : PySem.W.findIn K (.ref C) "__ne__" = some (some (.builtin "object.__ne__"))
  eq : PySem.W.findIn K (.ref C) "__eq__" = some (some (.ref f))
  fn : PySem.W.isFn K (.ref f) = true
  cls : ∃ nm q N bs bm hdct sn sub ab col dd k0 k1 k2 k3 k5 newId, K.lookup C = some (excClassObj nm q C N bs bm hdct sn sub ab col dd k0 k1 k2 k3 k5 newId) ∧ bm.contains (.type "object") = true
/-- x != y of two own instances of the class -/
def rNeO (C : Addr) (sp : Sp) (E : XK) : R2 := fun x y H Q => ∃ (a b dx dy : Addr) (fs gs : List (Str × V)), x = .ref a ∧ y = .ref b ∧ H a = some (.ins C dx fs) ∧ H b = some (.ins C dy gs) ∧ sp [.ref a, .ref b] H (fun v H' => ∃ r : Bool, v = .bl r ∧ Q (.bl (!r)) H') E
theorem ne_body {f C a b : Addr} {A : Around} {s : Shared} {ox : Obj} {od : Option Obj} {Qf : Fin → Shared → Prop} {E : Value → Shared → Prop} (N : NeC X.K C f) (hK : X.K.In s.heap) (J : PySem.W.InstAt s.heap a ox C od) (hu : A.units < cLine)
    (h : wpAny (model X.prog X.w) A (call (.ref f) [.ref a, .ref b]) (fun v s' => ∃ r, v = .bool r ∧ Qf (.done (.ret (.bool (!r)))) s') E s) : wpAny (model X.prog X.w) A (Builtin.«object.__ne__» ⟨[.ref a, .ref b], []⟩) Qf E s := by
  unfold Builtin.«object.__ne__»
  repeat (first
    | with_reducible refine wpAny_cRoomFor hu ?_
    | (refine wpAny_bind (m := callSpecialIfBound? (.ref a) (Str.ofString "__eq__") [.ref b]) (PySem.W.ifBound_K hK J N.eq N.fn (wpAny_mono h (fun v s' hv => ?_) fun _ _ e => e))
       obtain ⟨r, rfl, hq⟩ := hv)
    | exact hq
    | exact wpAny_pure hq
    | (refine wpAny_bind (m := truthy (.bool _)) (wpAny_truthy_bool ?_))
    | wp_step)
theorem ne_try {f C a b : Addr} {A : Around} {s : Shared} {ox : Obj} {od : Option Obj} {Q : Option Value → Shared → Prop} {E : Value → Shared → Prop} (N : NeC X.K C f) (hK : X.K.In s.heap) (J : PySem.W.InstAt s.heap a ox C od) (hu : A.in1.units < cLine)
    (h : wpAny (model X.prog X.w) A.in1 (call (.ref f) [.ref a, .ref b]) (fun v s' => ∃ r, v = .bool r ∧ Q (some (.bool (!r))) s') E s) : wpAny (model X.prog X.w) A (tryCompare (.ref a) "__ne__" (.ref b)) Q E s := by
  obtain ⟨nm, q, Nn, bs, bm, hdct, sn, sub, ab, col, dd, k0, k1, k2, k3, k5, newId, hC, hbm⟩ := N.cls
  have S := PySem.F.cmp_object.ne
  obtain ⟨hp, g, d, t, os⟩ := s
  obtain ⟨jx, jc, _, _⟩ := id J
  have hCC := hK _ _ hC
  simp only [tryCompare]
  refine wpAny_bind ?_
  simp only [callSpecialIfBound?, bindSpecialIfBound?]
  refine wpAny_holding (wpAny_bind (wpAny_bind (wpAny_bind (J.type.here ((PySem.W.looks_findIn hK N.ne).here ?_)))))
  simp only [S.bind]
  refine wpAny_bind (wpAny_askSetting (wpAny_ite ?_))
  have one : wpAny (model X.prog X.w) A (call (.builtin "object.__ne__") [.ref a, .ref b]) (fun v s' => ∃ r, v = .bool r ∧ Q (some (.bool r)) s') E ⟨hp, g, d, t, os⟩ := by
    refine wpAny_call (codeAny_call_builtin S.plain PySem.F.cmpEntry_ne (wpAny_check_slot_inst PySem.F.cmpKind_ne PySem.F.cmpSplit_ne (PySem.F.cmpArgs_ne _ _) hbm jx jc hCC (ne_body N hK J hu (wpAny_mono h (fun v s' hv => ?_) fun _ _ e => e))))
    obtain ⟨r, rfl, hq⟩ := hv
    exact ⟨r, rfl, _, rfl, hq⟩
  have fin : ∀ {Q' : Option Value → Shared → Prop}, (∀ r s', Q (some (.bool r)) s' → Q' (some (.bool r)) s') → wpAny (model X.prog X.w) A (call (.builtin "object.__ne__") ([.ref a] ++ [.ref b]) >>= fun v => pure (some v)) Q' E ⟨hp, g, d, t, os⟩ := fun k => by
    refine wpAny_bind (wpAny_mono one (fun v s' hv => ?_) fun _ _ e => e)
    obtain ⟨r, rfl, hq⟩ := hv
    exact wpAny_pure (k r s' hq)
  split
  · exact wpAny_bind (wpAny_pure (wpAny_pure (fin fun r s' q => by first | exact q | exact wpAny_pure q)))
  · exact wpAny_tryCatch (wpAny_bind (wpAny_pure (wpAny_pure (fin fun r s' q => by first | exact q | exact wpAny_pure q))))
theorem ne_rich {f C a b : Addr} {A : Around} {s : Shared} {ox oy : Obj} {od oe : Option Obj} {Q : Value → Shared → Prop} {E : Value → Shared → Prop} (N : NeC X.K C f) (hK : X.K.In s.heap) (J : PySem.W.InstAt s.heap a ox C od) (J' : PySem.W.InstAt s.heap b oy C oe) (h0 : A.units < cLine) (hu : A.in1.units < cLine)
    (h : wpAny (model X.prog X.w) A.in1 (call (.ref f) [.ref a, .ref b]) (fun v s' => ∃ r, v = .bool r ∧ Q (.bool (!r)) s') E s) : wpAny (model X.prog X.w) A (compareOp .NotEq (.ref a) (.ref b)) Q E s := by
  have go := ne_try (Q := fun r s' => ∃ t, r = some (.bool t) ∧ Q (.bool t) s') N hK J hu (wpAny_mono h (fun v s' ⟨r, e, q⟩ => ⟨r, e, _, rfl, q⟩) fun _ _ e => e)
  unfold compareOp richCompare
  simp only [oneThing_ref]
  refine wpAny_holding (wpAny_bind (wpAny_cRoomFor h0 ?_))
  rw [cmpInfo_NotEq]
  dsimp only
  refine wpAny_bind (J.type.here (wpAny_bind (J'.type.here ?_)))
  rw [show (Value.ref C != Value.ref C) = false from by simp]
  simp only [Bool.false_eq_true, if_false]
  refine wpAny_bind (wpAny_pure ?_)
  simp only [Bool.false_eq_true, if_false]
  refine wpAny_bind (wpAny_mono go (fun r s' hr => ?_) fun _ _ e => e)
  obtain ⟨t, rfl, hq⟩ := hr
  exact wpAny_pure hq
theorem op_neO {f C : Addr} {fd : FuncData} {ps : List Str} {k : Nat} {CX : CXT} {sp : Sp} {E : XK} (N : NeC X.K C f) (F : FnOk X.prog X.w X.K X.mg X.base CX k f fd ps sp) (hb : L2.Binds X.K fd ps []) (hx : Passes CX X E) (hr : Room (k + 2) X.A) : OpR X (compareOp .NotEq) (rNeO C sp E) := by
  intro pins s σ H x y v u Q I rx ry h
  obtain ⟨a, b, dx, dy, fs, gs, rfl, rfl, ha, hb', hsp⟩ := h
  obtain rfl : v = Value.ref a := rx
  obtain rfl : u = Value.ref b := ry
  obtain ⟨mA, J, _⟩ := ins_get I.hok ha
  obtain ⟨od, J, _⟩ := J.look
  obtain ⟨mB, J', _⟩ := ins_get I.hok hb'
  obtain ⟨oe, J', _⟩ := J'.look
  have sb : Sub X (k + 1) X.A := ⟨hr.mono (by omega), rfl⟩
  have h1 : X.A.in1.units < cLine := (show Room (k + 1) X.A.in1 from hr.in1).units0
  refine ne_rich N I.kIn J J' hr.units0 h1 (run_in1 (us := [Value.ref a, Value.ref b]) (vs := [V.ref a, V.ref b]) sb.in1 F hb hx I (.cons rfl (.cons rfl .nil)) hsp fun w s' z H' I' rv q => ?_)
  obtain ⟨r, rfl, q⟩ := q
  cases rv
  exact ⟨r, rfl, .bl _, H', I', rfl, q⟩
end
end Ow

/-! Dict comprehensions whatever the keys are (numbers, texts, tuples of these). -/
namespace Ow
open PySem PySem.Spec PyProof.Rows L2
/-- a dict's entry stored by a comprehension -/
theorem put_dict {X : Cx} {pins : List (Addr × Obj)} {σ : L2.St} {H H' : Hp} {s : Shared} {E : Value → Shared → Prop} {D : Addr} {y v : V} {u r : Value} {Q : Unit → Shared → Prop} (hu : X.A.units < cLine) (I : Inv X pins σ H s) (g : DPut H D y v H') (ry : RelV y u) (rv : RelV v r)
    (h : ∀ s', Inv X pins σ H' s' → Q () s') : wpAny (model X.prog X.w) X.A (dictSet D u r) Q E s := by
  rcases g with ⟨kvs, k, e, rfl, l, rfl⟩ | ⟨kvs, k, b, e, rfl, eb, l, rfl⟩
  · exact d_dictSet I e l ry rv h
  · cases (show u = Value.ref b from ry)
    obtain ⟨z, hd, xs, rel, dd⟩ := dt_of I.hok e
    have hz : xs.length ≤ sizeLine := Nat.le_trans (Nat.le_of_eq (Paired.length rel).symm) z
    have hl : (putK kvs k v).length ≤ sizeLine := Nat.le_trans (length_putK kvs k v) (by omega)
    refine wpAny_dictSet_heap (hsz := hz) hu (key_of I.hok eb) dd fun h' dd' hs => h _ ?_
    obtain ⟨q, es, ep, hq, h2, h3, h4, _, h5⟩ := dd'
    refine d_write I (e ▸ True.intro) hs ⟨q, hq⟩ ⟨hl, hd, _, (rel.put k eb rv).keeps fun c ys ec => ?_, q, es, ep, hq, h2, h3, h4, h5⟩
    rw [upd_ne (ne_of ec e (fun z => nomatch z)), ec]
end Ow
namespace Ow.DcN
open PySem PySem.Spec PyProof.Rows L2 Ow
/-- behind a turn's tests: the clauses that are left, then the element, put behind what the list at D has -/
def tDeep (D : Addr) (tk te : TE) : List Cls → L2.St → Hp → (Hp → Prop) → Prop
  | [], σ, H, Z => tk σ H fun y H1 => te σ H1 fun z H2 => ∃ H3, DPut H2 D y z H3 ∧ Z H3
  | c :: cs, σ, H, Z => c.wi σ H fun J H1 => ∃ W : Nat → Nat → Hp → Prop, (∃ m, W 0 m H1) ∧ ∀ j m H, W j m H →
      (J.stop j H ∧ Z H) ∨ (J.go j H ∧ ∃ Y : Hp → Prop, (∀ H', Y H' → ∃ m', m' < m ∧ W (j + 1) m' H') ∧ ∀ x H', J.yld j H x H' →
        c.g x (wipe σ c.vs) H' fun σ2 H2 => wipe σ2 c.vs = wipe σ c.vs ∧ c.tt σ2 H2 fun b H3 => if b = true then tDeep D tk te cs σ2 H3 Y else Y H3)
section
variable {prog : Program} {w : World} {A : Around} {R : Result → Shared → Prop} {s : Shared} {kx vx : Expr} {gens : List Comprehension} {scope : Scope} {pos : Pos} {it acc : Value} {env : Env}
/-- what is asked behind the tests of the clause ahead of d -/
def Bhd (prog : Program) (w : World) (A : Around) (kx vx : Expr) (gens : List Comprehension) (scope : Scope) (pos : Pos) (acc : Value) (env : Env) (d : Nat) (post : Shared → Prop) (s : Shared) : Prop :=
  match gens[d]? with
  | none => ∃ D, acc = .ref D ∧ wpAny (model prog w) A (eval kx env) (fun x z => wpAny (model prog w) A (eval vx env) (fun y z' => wpAny (model prog w) A (dictSet D x y) (fun _ z2 => post z2) (fun _ _ => False) z') (fun _ _ => False) z) (fun _ _ => False) s
  | some c => c.is_async = 0 ∧ (∀ x, foldedSetIterable c.iter env x = pure x) ∧ wpAny (model prog w) A (eval c.iter env) (fun x z => wpAny (model prog w) A (pyIter x) (fun i z' =>
      codeAny (model prog w) A (.compStart (.DictComp kx vx gens scope pos) d i acc env) (fun r y => match r with | .ok _ => post y | .error _ => False) z') (fun _ _ => False) z) (fun _ _ => False) s
theorem loop_at {d : Nat} {t i : Expr} {ifs : List Expr} (hg : gens[d]? = some ⟨t, i, ifs, 0⟩) (I : Nat → Shared → Prop)
    (turn : ∀ n z, I n z → wpAny (model prog w) A (pyNext it) (fun r z1 => match r with
      | none => R (.ok .next) z1
      | some v => wpAny (model prog w) A (letOwnedTupleGo t it v) (fun _ z2 => wpAny (model prog w) A (assign t env v) (fun _ z3 => wpAny (model prog w) A (tests ifs env) (fun ok z4 =>
          if ok = true then Bhd prog w A kx vx gens scope pos acc env (d + 1) (fun z5 => ∃ m, m < n ∧ I m z5) z4 else ∃ m, m < n ∧ I m z4) (fun _ _ => False) z3) (fun _ _ => False) z2) (fun _ _ => False) z1) (fun _ _ => False) z)
    (n : Nat) (h : I n s) : codeAny (model prog w) A (.compLoop (.DictComp kx vx gens scope pos) d it acc env) R s := by
  refine codeAny_loop rfl I (fun n z hI => ?_) n h
  show wpAny _ A ((compTurn (.DictComp kx vx gens scope pos) d it acc env).onRaise (fun x => do noteFrame x env; theTreesLotGoes x)) _ _ z
  refine wpAny_noted ?_
  have no : ∀ {α : Type} {t : Sem α} {Q : α → Shared → Prop} {E : Value → Shared → Prop} {z : Shared}, wpAny (model prog w) A t Q (fun _ _ => False) z → wpAny (model prog w) A t Q E z := fun h => wpAny_mono h (fun _ _ q => q) fun _ _ q => q.elim
  unfold compTurn
  simp only [hg]
  refine wpAny_bind (wpAny_standAt (wpAny_bind (wpAny_mono (turn n z hI) (fun r z1 h1 => ?_) fun _ _ q => q.elim)))
  cases r with
  | none => exact wpAny_pure h1
  | some v =>
    refine wpAny_bind (wpAny_mono h1 (fun _ z2 h2 => ?_) fun _ _ q => q.elim)
    refine wpAny_bind (wpAny_mono h2 (fun _ z3 h3 => wpAny_bind (wpAny_mono h3 (fun ok z4 h4 => ?_) fun _ _ q => q.elim)) fun _ _ q => q.elim)
    cases ok with
    | false => exact wpAny_pure ⟨rfl, h4⟩
    | true =>
      have h4 : Bhd prog w A kx vx gens scope pos acc env (d + 1) (fun z5 => ∃ m, m < n ∧ I m z5) z4 := h4
      unfold Bhd at h4
      simp only [if_true]
      cases hn : gens[d + 1]? with
      | none =>
        rw [hn] at h4
        simp only
        obtain ⟨D, rfl, h9⟩ := h4
        exact wpAny_bind (wpAny_bind (wpAny_mono h9 (fun x z5 h5 => wpAny_bind (wpAny_holding (wpAny_mono h5 (fun y z6 h6 => wpAny_bind (wpAny_standAt (wpAny_holding (wpAny_mono h6 (fun _ z7 h7 => wpAny_pure ⟨rfl, h7⟩) fun _ _ q => q.elim)))) fun _ _ q => q.elim))) fun _ _ q => q.elim))
      | some c =>
        rw [hn] at h4
        obtain ⟨ha, hf, h4⟩ := h4
        simp only [ha]
        refine wpAny_bind (wpAny_mono h4 (fun x z5 h5 => ?_) fun _ _ q => q.elim)
        refine wpAny_bind (wpAny_standAt (wpAny_bind (wpAny_of_eq (hf x) (wpAny_bind (wpAny_holding (wpAny_mono h5 (fun i1 z6 h6 => ?_) fun _ _ q => q.elim))))))
        refine wpAny_bind (wpAny_runOwn ?_)
        rw [Around.mark_none]
        refine codeAny_mono h6 fun r y hr => ?_
        cases r with
        | ok f => exact wpAny_pure ⟨rfl, hr⟩
        | error e => exact hr.elim
/-- a clause's start -/
theorem start_at {d : Nat} {c : Comprehension} (hg : gens[d]? = some c) (ha : c.is_async = 0) (h0 : codeAny (model prog w) A (.compLoop (.DictComp kx vx gens scope pos) d it acc env) R s)
    (h : wpAny (model prog w) A (pyIter it) (fun i z => codeAny (model prog w) A (.compLoop (.DictComp kx vx gens scope pos) d i acc env) R z) (fun _ _ => False) s) :
    codeAny (model prog w) A (.compStart (.DictComp kx vx gens scope pos) d it acc env) R s := by
  refine codeAny_of_tree ?_
  show wpAny _ _ ((compStart (.DictComp kx vx gens scope pos) d it acc env).onRaise (fun x => do noteFrame x env; standAt theWindowsPlace)) _ _ s
  refine wpAny_notedAt ?_
  unfold compStart
  have hcl : (clausesOf (.DictComp kx vx gens scope pos))[d]? = some c := hg
  simp only [hcl, Option.elim, ha]
  rw [if_neg (by decide)]
  show wpAny _ _ (ask >>= _) _ _ s
  refine wpAny_bind (wpAny_askSetting (wpAny_ite ?_))
  have go : ∀ z (b : Value) (A' : Around) (E' : Value → Shared → Prop), codeAny (model prog w) A (.compLoop (.DictComp kx vx gens scope pos) d b acc env) R z → wpAny (model prog w) A' (again (.compLoop (.DictComp kx vx gens scope pos) d b acc env)) (fun fin s' => match fin with
      | Fin.done f => R (Except.ok f) s'
      | Fin.again c' => c'.quiet = true ∧ codeAny (model prog w) A c' R s') E' z := fun z b A' E' h => wpAny_pure ⟨rfl, h⟩
  split
  · exact go _ _ _ _ h0
  · exact wpAny_bind (wpAny_rule (wpAny_bind (wpAny_standAt (wpAny_bind (wpAny_mono h (fun i z h' => go _ _ _ _ h') fun _ _ q => q.elim)))))
end
section
variable {Y : Cx}
theorem deep_ok (hc : Y.calm = true) (hu : Y.A.units < cLine) {kx vx : Expr} {tk te : TE} (pk : PE Y kx tk) (pe : PE Y vx te) {gens : List Comprehension} {scope : Scope} {pos : Pos} {D : Addr} : ∀ (cs : List Cls) (d : Nat), (∀ c ∈ cs, c.Ok Y) → NestVs cs → gens.drop d = cs.map Cls.syn →
    ∀ (pins : List (Addr × Obj)) (σ : L2.St) (H : Hp) (s : Shared) (Z : Hp → Prop) (post : Shared → Prop), Inv Y pins σ H s → tDeep D tk te cs σ H Z →
      (∀ τ H' s', Inv Y pins τ H' s' → Knows σ τ (topVs cs) → Z H' → post s') → Y.xe = (fun _ _ => False) → Bhd Y.prog Y.w Y.A kx vx gens scope pos (.ref D) Y.env d post s
  | [], d, _, _, hd, pins, σ, H, s, Z, post, I, h, fin, hx => by
    have e : gens[d]? = none := List.getElem?_eq_none (by simpa using hd)
    unfold Bhd
    rw [e]
    refine ⟨D, rfl, ?_⟩
    have r := pk.run pins s σ H _ I h
    rw [hx] at r
    refine thn r fun x z q => ?_
    obtain ⟨y, H1, I1, ry, q⟩ := q
    have r2 := pe.run pins z σ H1 _ I1 q
    rw [hx] at r2
    refine thn r2 fun x2 z2 q => ?_
    obtain ⟨y2, H2, I2, ry2, H3, hp, q⟩ := q
    exact put_dict hu I2 hp ry ry2 fun z' I3 => fin σ _ z' I3 ⟨rfl, fun j v e => e⟩ q
  | c :: cs, d, ok, hn, hd, pins, σ, H, s, Z, post, I, h, fin, hx => by
    obtain ⟨e, hd1⟩ := drop_one (c := c.syn) (cs := cs.map Cls.syn) hd
    have oc := ok c (List.mem_cons_self ..)
    unfold Bhd
    rw [e]
    refine ⟨rfl, oc.fold _, ?_⟩
    have r := oc.pi.run pins s σ H _ I h
    rw [hx] at r
    refine thn r fun xv s1 q => thn q fun itv s2 q => ?_
    obtain ⟨it, fp, tn, J, H1, rfl, I1, T, st, fok, W, ⟨m0, w0⟩, turn⟩ := q
    have fo : ∀ {H' : Hp}, (∀ b ∈ fp, H' b = none) → ∀ b ∈ fp, FpOk Y pins H' b := fun hn b hb => ⟨hn b hb, (fok b hb).2⟩
    have lp : codeAny (model Y.prog Y.w) Y.A (.compLoop (.DictComp kx vx gens scope pos) d (.ref it) (.ref D) Y.env) (fun r y => match r with | .ok _ => post y | .error _ => False) s2 := by
      refine loop_at e (fun k z => ∃ j H', Inv Y pins (wipe σ c.vs) H' z ∧ tn j z.heap ∧ (∀ b ∈ fp, H' b = none) ∧ W j k H') ?_ m0 ⟨0, H1, I1.weak (wipe_length _ _) (fun j v q => (wipe_some q).1), st, fun b hb => (fok b hb).1, w0⟩
      rintro k z ⟨j, Hj, Ij, stj, nj, wj⟩
      rcases turn j k Hj wj with ⟨stop, hz⟩ | ⟨go, Nx, hNx, step⟩
      · refine thnF (T.done Y rfl rfl rfl hc j pins z _ Hj (fun _ _ => False) Ij (fo nj) stj stop) fun r z1 q => ?_
        obtain ⟨rfl, I3⟩ := q
        exact fin _ _ _ I3 ⟨wipe_length _ _, fun j v q => q⟩ hz
      · refine thnF (T.item Y rfl rfl rfl hc j pins z _ Hj (fun _ _ => False) Ij (fo nj) stj go) fun r z1 q => ?_
        obtain ⟨u, rfl, q⟩ := q
        refine thnF q fun _ z2 q => ?_
        obtain ⟨x, H2, I2, r2, y2, st2, n2⟩ := q
        have I2' := I2.pinned (fo n2) (T.obj _ _ st2)
        have rg := oc.pg.run _ z2 _ H2 x u _ I2' r2 (step x H2 y2)
        rw [hx] at rg
        refine thnF rg fun _ z3 q => ?_
        obtain ⟨σ3, H3, I3, hw, q3⟩ := q
        have rt := oc.pt.run _ z3 σ3 H3 _ I3 q3
        rw [hx] at rt
        refine thnF rt fun b z4 q => ?_
        obtain ⟨H4, I4, q4⟩ := q
        have back : ∀ τ H' z', Inv Y (pins ++ pinsAt fp z2.heap) τ H' z' → Knows σ3 τ (topVs cs) → Nx H' → ∃ m, m < k ∧ ∃ j H', Inv Y pins (wipe σ c.vs) H' z' ∧ tn j z'.heap ∧ (∀ b ∈ fp, H' b = none) ∧ W j m H' := fun τ H' z' I' kn nx => by
          obtain ⟨m', hm, w'⟩ := hNx H' nx
          have pn : ∀ b ∈ fp, ∀ o, z2.heap.get? b = some o → z'.heap.get? b = some o ∧ H' b = none := fun b hb o e =>
            let t := I'.pin (b, o) (List.mem_append_right _ (List.mem_append_right _ (mem_pinsAt hb e)))
            ⟨t.1, t.2.1⟩
          refine ⟨m', hm, j + 1, H', I'.unpinned.weak ?_ (fun i v q => ?_), T.keep _ _ _ st2 fun b hb o e => (pn b hb o e).1, fun b hb => ?_, w'⟩
          · rw [kn.1, ← hw, wipe_length]
          · rw [← hw] at q
            exact kn.2 i v (wipe_sub hn.1 q)
          · obtain ⟨o, e, _⟩ := T.obj _ _ st2 b hb
            exact (pn b hb o e).2
        cases b with
        | false =>
          simp only [Bool.false_eq_true, if_false] at q4 ⊢
          exact back σ3 H4 z4 I4 ⟨rfl, fun i v q => (wipe_some q).1⟩ q4
        | true =>
          simp only [if_true] at q4 ⊢
          exact deep_ok hc hu pk pe cs (d + 1) (fun c' h' => ok c' (List.mem_cons_of_mem _ h')) hn.2 hd1 _ σ3 H4 z4 Nx _ I4 q4 back hx
    exact start_at e rfl lp (T.self Y.A 0 _ _ _ st lp)
end
/-- a dict comprehension of any number of clauses; the first one's names are all of the block's -/
def tDcN (o0 : HO) (c : Cls) (cs : List Cls) (tk te : TE) : TE := fun σ H Q => c.wi σ H fun J H1 => ∀ D, H1 D = none → ∃ W : Nat → Nat → Hp → Prop, (∃ m, W 0 m (upd H1 D o0)) ∧ ∀ j m H, W j m H →
  (J.stop j H ∧ Q (.ref D) H) ∨ (J.go j H ∧ ∃ Y : Hp → Prop, (∀ H', Y H' → ∃ m', m' < m ∧ W (j + 1) m' H') ∧ ∀ x H', J.yld j H x H' →
    c.g x (wipe σ c.vs) H' fun σ2 H2 => wipe σ2 c.vs = wipe σ c.vs ∧ c.tt σ2 H2 fun b H3 => if b = true then tDeep D tk te cs σ2 H3 Y else Y H3)
section
variable {X : Cx}
theorem core_n {pins : List (Addr × Obj)} {s : Shared} {σ : L2.St} {H : Hp} {Q : VK} {kx vx : Expr} {c : Cls} {cs : List Cls} {scope : Scope} {own : List (Str × Nat)} {pos pos' : Pos} {tk te : TE} {use : Option (Value → Sem Unit)} {Qf : Value → Shared → Prop}
    {o0 : HO} (e0 : o0 = .dK [] ∨ o0 = .dT []) (hu : X.A.units < cLine) (calm : X.calm = true) (nd : X.N.Nodup) (I : Inv X pins σ H s) (first : PI X c.tg c.iter c.wi) (blk : BlkOk X.N X.env.scope scope own) (hv : c.vs = own.map (·.2)) (nest : NestVs (c :: cs))
    (hg : ∀ s H C cl fp, PG (inBlk X scope s H C cl fp) c.tg c.g) (ht : ∀ s H C cl fp, PTs (inBlk X scope s H C cl fp) c.ifs c.tt) (rest : ∀ s H C cl fp, ∀ k ∈ cs, k.Ok (inBlk X scope s H C cl fp))
    (hk : ∀ s H C cl fp, PE (inBlk X scope s H C cl fp) kx tk) (he : ∀ s H C cl fp, PE (inBlk X scope s H C cl fp) vx te) (fold : ∀ x, foldedSetIterable c.iter X.env x = pure x) (h : tDcN o0 c cs tk te σ H Q)
    (done : ∀ D C z m H', Inv X pins σ H' z → Q (.ref D) H' → z.heap.Ns C m → FpOk X pins H' C → compPost (model X.prog X.w) X.A X.xe use Qf (.ref D) C (.ok .next) z) :
    wpAny (model X.prog X.w) X.A (comprehension (.DictComp kx vx (c.syn :: cs.map Cls.syn) scope pos) scope X.env pos' newDict false (eval c.iter X.env) use) Qf X.xe s := by
  have free : ∀ y ∈ scope.names, y.2 = .free → ∃ a, X.env.cells.lookup y.1 = some a := fun y hy e => (blk.free y hy e).elim (fun k => I.ok.has _ (.inl k)) fun k => I.ok.has _ (.inr k)
  have r0 := first.run pins s σ H _ I h
  refine wpAny_comprehension_free (g := c.syn) (gs := cs.map Cls.syn) (use := use) rfl fold (closure_ok free) blk.kind (fun y hy e => by rw [blk.uniq y hy, e]) (thn r0 fun xv s1 q => thn q fun itv s2 q => ?_)
  obtain ⟨it, fp, tn, J, H2, rfl, I2, T, st2, fok, q⟩ := q
  refine wpAny_newObj_type (newEnv_comp ?_)
  generalize eD : s2.heap.objs.size = D
  obtain ⟨W, ⟨m0, w0⟩, turn⟩ := q D (I2.hok.fresh (Nat.le_of_eq eD))
  generalize e3 : ({ s2 with heap := s2.heap.push { cls := .type "dict", data := .dict #[] } } : Shared) = s3
  have hp3 : s3.heap = s2.heap.push { cls := .type "dict", data := .dict #[] } := by rw [← e3]
  have I3 : Inv X pins σ (upd H2 D o0) s3 := by
    rw [← e3]
    refine I2.laid (t' := s2.toks) (fun b o e => Heap.get?_push_of_some _ e) (Nat.le_of_eq eD) ?_
    rw [← eD]
    rcases e0 with rfl | rfl
    · exact dk_empty s2.heap I2.big
    · exact dt_empty s2.heap I2.big
  have lay : ∀ b o, s2.heap.get? b = some o → s3.heap.get? b = some o := fun b o e => by
    rw [hp3]
    exact Heap.get?_push_of_some _ e
  have below : ∀ b ∈ fp, b < s2.heap.objs.size := fun b hb => let ⟨o, e, _⟩ := T.obj _ _ st2 b hb; Heap.lt_size e
  have fok3 : ∀ b ∈ fp, FpOk X pins (upd H2 D o0) b ∧ b < s3.heap.objs.size := fun b hb => by
    have lt := below b hb
    refine ⟨⟨?_, (fok b hb).2⟩, ?_⟩
    · rw [upd_ne (show b ≠ D by rw [← eD]; exact Nat.ne_of_lt lt)]
      exact (fok b hb).1
    · rw [hp3, Heap.size_push]
      exact Nat.lt_succ_of_lt lt
  have st3 : tn 0 s3.heap := T.keep _ _ _ st2 fun b _ o e => lay b o e
  have I4 := block_start I3 blk nd fok3
  rw [← hv] at I4
  have pg := hg s3 (upd H2 D o0) s3.heap.objs.size (theCells X scope s3.heap.objs.size) fp
  have pt := ht s3 (upd H2 D o0) s3.heap.objs.size (theCells X scope s3.heap.objs.size) fp
  have pr := rest s3 (upd H2 D o0) s3.heap.objs.size (theCells X scope s3.heap.objs.size) fp
  have pk := hk s3 (upd H2 D o0) s3.heap.objs.size (theCells X scope s3.heap.objs.size) fp
  have pe := he s3 (upd H2 D o0) s3.heap.objs.size (theCells X scope s3.heap.objs.size) fp
  dsimp only [inBlk] at pg pt pr pk pe
  have nfp : ∀ b ∈ fp, (upd H2 D o0) b = none := fun b hb => (fok3 b hb).1.1
  show codeAny _ _ (.compStart (.DictComp kx vx (c.syn :: cs.map Cls.syn) scope pos) 0 (.ref it) (.ref D) (compEnvC scope (theCells X scope s3.heap.objs.size) s3.heap.objs.size X.env)) (compPost (model X.prog X.w) X.A X.xe use Qf (.ref D) s3.heap.objs.size)
    { s3 with heap := pushCells (s3.heap.push { cls := .type "dict", data := .dict #[] }) scope.names }
  have cL : (compEnvC scope (theCells X scope s3.heap.objs.size) s3.heap.objs.size X.env).locals = s3.heap.objs.size := rfl
  generalize compEnvC scope (theCells X scope s3.heap.objs.size) s3.heap.objs.size X.env = ce at I4 pg pt pk pe pr cL ⊢
  generalize upd H2 D o0 = H3 at I3 I4 pg pt pk pe pr w0 nfp fok3
  have lay4 : ∀ b o, s3.heap.get? b = some o → (pushCells (s3.heap.push { cls := .type "dict", data := .dict #[] }) scope.names).get? b = some o := fun b o e => pushCells_keeps _ _ _ _ (Heap.get?_push_of_some _ e)
  have st4 : tn 0 (pushCells (s3.heap.push { cls := .type "dict", data := .dict #[] }) scope.names) := T.keep _ _ _ st3 fun b _ o e => lay4 b o e
  generalize e4 : ({ s3 with heap := pushCells (s3.heap.push { cls := .type "dict", data := .dict #[] }) scope.names } : Shared) = s4 at I4 ⊢
  have st4 : tn 0 s4.heap := by
    rw [← e4]
    exact st4
  generalize eY : X.blk s3 H3 scope ce fp = Y at I4 pg pt pk pe pr
  have yx : Y.xe = (fun _ _ => False) := by rw [← eY]
  have yP : X.prog = Y.prog := by rw [← eY]
  have yw : X.w = Y.w := by rw [← eY]
  have yA : X.A = Y.A := by rw [← eY]
  have yK : X.K = Y.K := by rw [← eY]
  have ye : ce = Y.env := by rw [← eY]
  have yc : Y.calm = true := by
    rw [← eY]
    exact calm
  have yu : Y.A.units < cLine := by
    rw [← yA]
    exact hu
  have fo : ∀ {τ : L2.St} {H' : Hp} {z : Shared}, Inv Y [] τ H' z → (∀ b ∈ fp, H' b = none) → ∀ b ∈ fp, FpOk Y [] H' b := fun {τ H' z} I' hn b hb => by
    subst eY
    exact ⟨hn b hb, (I'.ok.exf b hb).1, I'.ok.exfs b hb, .inl hb, fun x a e => (I'.ok.exf b hb).2 x a e, fun p hp => absurd (show p ∈ ([] : List (Addr × Obj)) ++ [] from hp) (by simp)⟩
  have lp : codeAny (model X.prog X.w) X.A (.compLoop (.DictComp kx vx (c.syn :: cs.map Cls.syn) scope pos) 0 (.ref it) (.ref D) ce) (compPost (model X.prog X.w) X.A X.xe use Qf (.ref D) s3.heap.objs.size) s4 := by
    refine loop_at (d := 0) (gens := c.syn :: cs.map Cls.syn) rfl (fun k z => ∃ j H', Inv Y [] (wipe σ c.vs) H' z ∧ tn j z.heap ∧ (∀ b ∈ fp, H' b = none) ∧ W j k H') ?_ m0 ⟨0, H3, I4, st4, nfp, w0⟩
    rintro k z ⟨j, Hj, Ij, stj, nj, wj⟩
    rcases turn j k Hj wj with ⟨stop, hz⟩ | ⟨go, Nx, hNx, step⟩
    · have td := T.done Y yP.symm yw.symm yK.symm yc j [] z _ Hj (fun _ _ => False) Ij (fo Ij nj) stj stop
      rw [← yA] at td
      refine thnF td fun r z1 q => ?_
      obtain ⟨rfl, J1⟩ := q
      have out : Inv X pins σ Hj z1 := by
        subst eY
        exact I3.call' (ch := fp) J1.os J1.base J1.hok J1.bare fun b hb => let f := (fok3 b hb).1; ⟨f.2.2.2.1, f.2.1, f.2.2.2.2.1, f.2.2.2.2.2⟩
      have nC : Hj s3.heap.objs.size = none := by
        have e : Hj Y.env.locals = none := J1.free
        rw [← ye, cL] at e
        exact e
      obtain ⟨m, hm, _⟩ := J1.loc
      rw [← ye, cL] at hm
      exact done D s3.heap.objs.size z1 m Hj out hz hm (I3.fpOk (Nat.le_refl _) nC)
    · have ti := T.item Y yP.symm yw.symm yK.symm yc j [] z _ Hj (fun _ _ => False) Ij (fo Ij nj) stj go
      rw [← yA] at ti
      refine thnF ti fun r z1 q => ?_
      obtain ⟨u, rfl, q⟩ := q
      refine thnF q fun _ z2 q => ?_
      obtain ⟨x, H5, I5, r5, y5, st5, n5⟩ := q
      have rg := pg.run _ z2 _ H5 x u _ (I5.pinned (fo I5 n5) (T.obj _ _ st5)) r5 (step x H5 y5)
      rw [yx, ← yA, ← yP, ← yw, ← ye] at rg
      refine thnF rg fun _ z3 q => ?_
      obtain ⟨σ3, H6, I6, hw, q3⟩ := q
      have rt := pt.run _ z3 σ3 H6 _ I6 q3
      rw [yx, ← yA, ← yP, ← yw, ← ye] at rt
      refine thnF rt fun b z4 q => ?_
      obtain ⟨H7, I7, q4⟩ := q
      have back : ∀ τ H' z', Inv Y ([] ++ pinsAt fp z2.heap) τ H' z' → Knows σ3 τ (topVs cs) → Nx H' → ∃ m, m < k ∧ ∃ j H', Inv Y [] (wipe σ c.vs) H' z' ∧ tn j z'.heap ∧ (∀ b ∈ fp, H' b = none) ∧ W j m H' := fun τ H' z' I' kn nx => by
        obtain ⟨m', hm, w'⟩ := hNx H' nx
        have pn : ∀ b ∈ fp, ∀ o, z2.heap.get? b = some o → z'.heap.get? b = some o ∧ H' b = none := fun b hb o e =>
          let t := I'.pin (b, o) (List.mem_append_right _ (List.mem_append_right _ (mem_pinsAt hb e)))
          ⟨t.1, t.2.1⟩
        refine ⟨m', hm, j + 1, H', (I'.unpinned (pins := [])).weak ?_ (fun i v q => ?_), T.keep _ _ _ st5 fun b hb o e => (pn b hb o e).1, fun b hb => ?_, w'⟩
        · rw [kn.1, ← hw, wipe_length]
        · rw [← hw] at q
          exact kn.2 i v (wipe_sub nest.1 q)
        · obtain ⟨o, e, _⟩ := T.obj _ _ st5 b hb
          exact (pn b hb o e).2
      cases b with
      | false =>
        simp only [Bool.false_eq_true, if_false] at q4 ⊢
        exact back σ3 H7 z4 I7 ⟨rfl, fun i v q => (wipe_some q).1⟩ q4
      | true =>
        simp only [if_true] at q4 ⊢
        have r := deep_ok yc yu pk pe (gens := c.syn :: cs.map Cls.syn) (scope := scope) (pos := pos) cs 1 pr nest.2 rfl _ σ3 H7 z4 Nx _ I7 q4 back yx
        rw [← yA, ← yP, ← yw, ← ye] at r
        exact r
  exact start_at (d := 0) (gens := c.syn :: cs.map Cls.syn) rfl rfl lp (T.self X.A 0 _ _ _ st4 lp)
/-- as a value -/
theorem pe_dcN {kx vx : Expr} {c : Cls} {cs : List Cls} {scope : Scope} {own : List (Str × Nat)} {pos : Pos} {tk te : TE} {o0 : HO} (e0 : o0 = .dK [] ∨ o0 = .dT []) (hu : X.A.units < cLine) (calm : X.calm = true) (nd : X.N.Nodup) (first : PI X c.tg c.iter c.wi) (blk : BlkOk X.N X.env.scope scope own) (hv : c.vs = own.map (·.2)) (nest : NestVs (c :: cs))
    (hg : ∀ s H C cl fp, PG (inBlk X scope s H C cl fp) c.tg c.g) (ht : ∀ s H C cl fp, PTs (inBlk X scope s H C cl fp) c.ifs c.tt) (rest : ∀ s H C cl fp, ∀ k ∈ cs, k.Ok (inBlk X scope s H C cl fp))
    (hk : ∀ s H C cl fp, PE (inBlk X scope s H C cl fp) kx tk) (he : ∀ s H C cl fp, PE (inBlk X scope s H C cl fp) vx te) (fold : ∀ x, foldedSetIterable c.iter X.env x = pure x := by intro _; rfl) : PE X (.DictComp kx vx (c.syn :: cs.map Cls.syn) scope pos) (tDcN o0 c cs tk te) := by
  refine ⟨fun pins s σ H Q I h => ?_⟩
  rw [arm_eval_DictComp]
  refine core_n e0 hu calm nd I first blk hv nest hg ht rest hk he fold h fun D C z m H' I' q hn f => ⟨m, hn, fun h2 sb => ?_⟩
  obtain ⟨f0, f1, f2, f3, f4, f5⟩ := f
  exact ⟨.ref D, H', I'.turned (t' := z.toks) (fun b o hb e => (sb.2 b hb).trans e) f0 f1 f3 f4 f5, rfl, q⟩
end
end Ow.DcN

/-! Two dicts with tuple keys compared. -/
namespace Ow
open PySem PySem.Spec PyProof.Rows L2
section
variable {prog : Program} {w : World} {κ : Type} [DecidableEq κ] {knd : HeapKind prog w κ} {A : Around} {E : Value → Shared → Prop} {s : Shared}
/-- how the entries of one dict are found in another one, up to the first that isn't there or is unlike -/
inductive Hits (prog : Program) (w : World) {κ : Type} (A : Around) (s : Shared) (kb : List (κ × Addr × Value)) : List (κ × Addr × Value) → Bool → Prop
  | nil : Hits prog w A s kb [] true
  | miss {k : κ} {p : Addr × Value} {r : List (κ × Addr × Value)} (h : ∀ (j : Nat) (q : Addr × Value), kb[j]? ≠ some (k, q)) : Hits prog w A s kb ((k, p) :: r) false
  | hit {k : κ} {a b : Addr} {v y : Value} {r : List (κ × Addr × Value)} {e t : Bool} {j : Nat} (h : kb[j]? = some (k, b, y)) (he : SeqAt.EqIn prog w A s v y e) (hr : Hits prog w A s kb r t) : Hits prog w A s kb ((k, a, v) :: r) (e && t)
theorem nodup_at {xs : List (κ × Addr × Value)} (hn : (xs.map (·.1)).Nodup) {i j : Nat} {k : κ} {p q : Addr × Value} (hi : xs[i]? = some (k, p)) (hj : xs[j]? = some (k, q)) : i = j ∧ p = q := by
  have li := (List.getElem?_eq_some_iff.mp hi).1
  have lj := (List.getElem?_eq_some_iff.mp hj).1
  have e : i = j := by
    refine (List.getElem_inj (h₀ := by rw [List.length_map]; exact li) (h₁ := by rw [List.length_map]; exact lj) hn).mp ?_
    rw [List.getElem_map, List.getElem_map, (List.getElem?_eq_some_iff.mp hi).2, (List.getElem?_eq_some_iff.mp hj).2]
  subst e
  rw [hi] at hj
  exact ⟨rfl, (Prod.mk.inj (Option.some.inj hj)).2⟩
theorem pairs_same {nm : String} {a b : Addr} {ka kb : List (κ × Addr × Value)} {r : Bool} {Q : Bool → Shared → Prop} (na : (a == sysModules) = false) (nb : (b == sysModules) = false) (da : s.heap.DictOfH knd a ka) (db : s.heap.DictOfH knd b kb) (room : knd.room A)
    (hits : ka.length = kb.length → Hits prog w A s kb ka r) (fin : Q (ka.length == kb.length && r) s) : wpAny (model prog w) A (Builtin.Dict.samePairs nm a b) Q E s := by
  obtain ⟨oa, es, ep, ga, _, dataA, entA, isA, _⟩ := da
  obtain ⟨ob, fs, fp, gb, _, dataB, entB, isB, ndB⟩ := db
  have la := size_of_entries entA
  have lb := size_of_entries entB
  rw [← la, ← lb] at fin
  unfold Builtin.Dict.samePairs Builtin.Dict.showsAll
  rw [if_neg (show ¬ (a == sysModules) = true by simp [na]), if_neg (show ¬ (b == sysModules) = true by simp [nb])]
  refine wpAny_bind (wpAny_pure (wpAny_bind (wpAny_pure (wpAny_bind (wpAny_dictEntries ga dataA ?_)))))
  dsimp only
  refine wpAny_bind (wpAny_dictEntries gb dataB ?_)
  by_cases same : es.size = fs.size
  · have fin2 : Q r s := by simpa [same] using fin
    have hit0 := hits (by rw [← la, ← lb]; exact same)
    rw [if_neg (by rw [same]; simp)]
    refine wpAny_bind (wpAny_dictEpoch ga dataA (wpAny_bind ?_))
    rw [Std.Legacy.Range.forIn_eq_forIn_range']
    simp only [Std.Legacy.Range.size, Nat.sub_zero, Nat.add_sub_cancel, Nat.div_one]
    refine wpAny_forIn_list _ (fun todo q z => z = s ∧ q = (none, ()) ∧ ∃ n, todo = List.range' n (es.size - n) ∧ n ≤ es.size ∧ Hits prog w A s kb (ka.drop n) r) _ ?_ ?_ _ _ ⟨rfl, rfl, 0, by simp, Nat.zero_le _, hit0⟩
    · rintro n todo q z ⟨rfl, rfl, m, ht, hm, hh⟩
      have hlt : m < es.size := (Nat.lt_or_ge m es.size).elim id fun h => by
        rw [Nat.sub_eq_zero_of_le h] at ht
        simp at ht
      have step : List.range' m (es.size - m) = m :: List.range' (m + 1) (es.size - (m + 1)) := by
        rw [show es.size - m = (es.size - (m + 1)) + 1 by omega, List.range'_succ]
      rw [step] at ht
      obtain ⟨rfl, todo'⟩ := List.cons.inj ht
      have lt2 : n < ka.length := la ▸ hlt
      obtain ⟨⟨k, c, v⟩, hk⟩ : ∃ x, ka[n]? = some x := ⟨_, List.getElem?_eq_getElem lt2⟩
      have cut : ka.drop n = (k, c, v) :: ka.drop (n + 1) := by
        rw [List.drop_eq_getElem_cons lt2, (List.getElem?_eq_some_iff.mp hk).2]
      have ent : es[n]? = some (entryOfKey knd (k, c, v)) := by rw [entry_at entA, hk]; rfl
      refine wpAny_bind (wpAny_dictEntries ga dataA ?_)
      rw [ent]
      rw [cut] at hh
      show wpAny _ _ (holding [Value.ref c, v] _ >>= _) _ _ _
      refine wpAny_bind (wpAny_holding (wpAny_bind (wpAny_dictFind_heap room (isA _ (List.mem_of_getElem? hk)) gb dataB entB isB ndB (fun none_ => ?_) (fun j p there => ?_))))
      · generalize hl : (k, c, v) :: ka.drop (n + 1) = l at hh
        cases hh with
        | nil => cases hl
        | miss h =>
          refine wpAny_pure ?_
          show wpAny _ _ (if (!false) = true then _ else _) _ _ _
          rw [if_pos (by decide)]
          exact wpAny_pure (wpAny_pure fin2)
        | @hit k' a' b' v' y' r' e t j h he hr =>
          cases hl
          exact absurd h (none_ _ _)
      · generalize hl : (k, c, v) :: ka.drop (n + 1) = l at hh
        cases hh with
        | nil => cases hl
        | miss h =>
          cases hl
          exact absurd there (h _ _)
        | @hit k' a' b' v' y' r' e t j' h he hr =>
          cases hl
          obtain ⟨rfl, rfl⟩ := nodup_at ndB there h
          have entf : fs[j]? = some (entryOfKey knd (k, b', y')) := by rw [entry_at entB, there]; rfl
          refine wpAny_bind (wpAny_dictEntries gb dataB ?_)
          rw [entf]
          refine wpAny_holding (he _ _ ?_)
          cases e with
          | false =>
            show wpAny _ _ (if (!false) = true then _ else _) _ _ _
            rw [if_pos (by decide)]
            exact wpAny_pure (wpAny_pure fin2)
          | true =>
            show wpAny _ _ (if (!true) = true then _ else _) _ _ _
            rw [if_neg (by decide)]
            refine wpAny_bind (wpAny_dictEpoch ga dataA ?_)
            rw [if_neg (by simp)]
            exact wpAny_pure ⟨rfl, rfl, n + 1, todo', hlt, hr⟩
    · rintro q z ⟨rfl, rfl, m, ht, hm, hh⟩
      have e : m = ka.length := by
        rw [← la]
        refine Nat.le_antisymm hm ((Nat.lt_or_ge m es.size).elim (fun h => ?_) id)
        rw [show es.size - m = (es.size - (m + 1)) + 1 by omega, List.range'_succ] at ht
        cases ht
      rw [e, List.drop_length] at hh
      cases hh
      exact wpAny_pure fin2
  · rw [if_pos (by simpa using same)]
    rw [show (es.size == fs.size) = false by simpa using same, Bool.false_and] at fin
    exact wpAny_bind (wpAny_rule (wpAny_pure fin))
theorem dicts_eq {a b : Addr} {ka kb : List (κ × Addr × Value)} {r : Bool} {Q : Value → Shared → Prop} (na : (a == sysModules) = false) (nb : (b == sysModules) = false) (da : s.heap.DictOfH knd a ka) (db : s.heap.DictOfH knd b kb) (hu : A.units < cLine) (room : knd.room A.in1)
    (hits : ka.length = kb.length → Hits prog w A.in1 s kb ka r) (fin : Q (.bool (ka.length == kb.length && r)) s) : wpAny (model prog w) A (compareOp .Eq (.ref a) (.ref b)) Q E s := by
  have sl := PySem.F.slot_dict_eq
  apply wpAny_richCompare_same_room (op := .Eq) (hu := hu) da.typeIs db.typeIs sl
  refine wpAny_call_entry sl da.typeIs PySem.F.entry_dict_eq ?_ (PySem.F.args_dict_eq_2 _ _)
  show wpAny (model prog w) _ (Builtin.Dict.dictSlotArgs ("__eq__" : String) ⟨[.ref a, .ref b], []⟩ >>= _) _ _ s
  unfold Builtin.Dict.dictSlotArgs
  refine wpAny_bind (wpAny_bind (wpAny_notOrdered_dict da.typeIs ?_))
  refine wpAny_pure (wpAny_bind (wpAny_isInstance (T := "dict") db.typeIs PySem.F.sub_dict_dict ?_))
  simp only [Bool.not_true, Bool.false_eq_true, if_false]
  refine wpAny_bind (wpAny_pure (wpAny_bind (wpAny_pure (wpAny_bind (pairs_same na nb da db room hits (wpAny_pure ⟨_, rfl, ?_, ?_⟩))))))
  · exact fun x => nomatch x
  · simpa using fin
end
end Ow

/-! Nets: what stands in the heap; the e-laws' pen. -/
namespace Ow
open PySem PySem.Spec PyProof.Rows L2
/-! ### the pen of the e-laws: how many numbers were asked is known -/
def PenE (H : Hp) (p c : Addr) (z : Nat) : Prop := (∃ r : Int, H p = some (.lst [.ref c, .int (z : Int), .int r])) ∧ ∃ cs : List Int, H c = some (.lst (cs.map V.int)) ∧ cs.length ≤ 63
section
variable {H H' : Hp} {p c q : Addr} {o : HO} {z : Nat}
theorem PenE.pen (h : PenE H p c z) : Pen H p c := by
  obtain ⟨⟨r, h1⟩, h2⟩ := h
  exact ⟨⟨_, r, h1⟩, h2⟩
theorem PenE.new (h : PenE H p c z) (hq : H q = none) : PenE (upd H q o) p c z := by
  have n1 := h.pen.neP hq
  have n2 := h.pen.neC hq
  obtain ⟨⟨r, h1⟩, cs, h2, hl⟩ := h
  exact ⟨⟨r, by rw [upd_ne n1.symm]; exact h1⟩, cs, by rw [upd_ne n2.symm]; exact h2, hl⟩
theorem PenE.put {z' : Nat} {r : Int} (h : PenE H p c z) : PenE (upd H p (.lst [.ref c, .int (z' : Int), .int r])) p c z' := by
  have n := h.pen.ne
  obtain ⟨_, cs, h2, hl⟩ := h
  exact ⟨⟨r, upd_same⟩, cs, by rw [upd_ne n]; exact h2, hl⟩
theorem PenE.same (h : PenE H p c z) (s : Same H H') : PenE H' p c z := by
  obtain ⟨⟨r, h1⟩, cs, h2, hl⟩ := h
  exact ⟨⟨r, s _ _ h1⟩, cs, s _ _ h2, hl⟩
theorem PenE.noTup (h : PenE H p c z) : NoTup H p := h.pen.noTup
end
def spPenE (K : PySem.W.Frag) : Sp := fun vs H Q _ => ∃ (a : Addr) (ns : List Int), vs = [.ref a] ∧ SqL K H a (ns.map V.int) ∧ ns.length ≤ 63 ∧ ∀ (p c : Addr) (H' : Hp), PenE H' p c 0 → Same H H' → H p = none → H c = none → Q (.ref p) H'
def spFreshE : Sp := fun vs H Q _ => ∃ (p c : Addr) (z : Nat), vs = [.ref p] ∧ PenE H p c z ∧ z < 400000000 ∧ ∀ (n : Int) (H' : Hp), PenE H' p c (z + 1) → Kp p H H' → Q (.int n) H'
def spTakeE : Sp := fun vs H Q _ => ∃ (p c : Addr) (z : Nat) (b : Int), vs = [.ref p, .int b] ∧ PenE H p c z ∧ z < 400000000 ∧ 0 < b ∧ b < 1073741824 ∧
  ∀ (n : Int) (z' : Nat) (H' : Hp), 0 ≤ n → n < b → PenE H' p c z' → z' ≤ z + 1 → Kp p H H' → Q (.int n) H'
end Ow

/-! What stands of a net in the heap. -/
namespace Ow
open PySem PySem.Spec PyProof.Rows L2
/-! ### what is outside of a list of places stays -/
def Kx (L : List Addr) (H H' : Hp) : Prop := ∀ b o, H b = some o → b ∉ L → H' b = some o
section
variable {L L' : List Addr} {H H1 H2 : Hp} {p q : Addr} {o : HO} {K : PySem.W.Frag}
theorem Kx.refl : Kx L H H := fun _ _ h _ => h
theorem Kx.trans (a : Kx L H H1) (b : Kx L H1 H2) : Kx L H H2 := fun c o h n => b c o (a c o h n) n
theorem Kx.of (s : Same H H1) : Kx L H H1 := fun c o h _ => s c o h
theorem Kx.mono (a : Kx L H H1) (h : ∀ b ∈ L, b ∈ L') : Kx L' H H1 := fun c o e n => a c o e fun z => n (h c z)
theorem Kx.kp (k : Kp p H H1) (h : p ∈ L) : Kx L H H1 := fun c o e n => k c o e fun z => n (z ▸ h)
theorem Kx.new (h : H q = none) : Kx L H (upd H q o) := .of (same_new h)
theorem Kx.put (h : q ∈ L) : Kx L H (upd H q o) := fun c u e n => by
  have ne : c ≠ q := fun z => n (by rw [z]; exact h)
  rw [upd_ne ne]
  exact e
theorem Kx.same (a : Kx L H H1) (s : Same H1 H2) : Kx L H H2 := a.trans (.of s)
theorem Kx.toKp (k : Kx [p] H H1) : Kp p H H1 := fun c o e n => k c o e (by simpa using n)
/-- nothing of these places is a tuple -/
def NoTs (H : Hp) (L : List Addr) : Prop := ∀ p ∈ L, NoTup H p
theorem sqT_kx {a : Addr} {xs : List V} (k : Kx L H H1) (n : NoTs H L) (h : SqT K H a xs) : SqT K H1 a xs := by
  rcases h with h | h
  · by_cases e : a ∈ L
    · exact (n a e xs h).elim
    · rcases h with h | ⟨o, h⟩
      · exact .inl (.inl (k _ _ h e))
      · exact .inl (.inr ⟨o, k _ _ h e⟩)
  · exact .inr h
theorem tup_kx {a : Addr} {xs : List V} (k : Kx L H H1) (n : NoTs H L) (h : H a = some (.tup xs)) : H1 a = some (.tup xs) := k _ _ h fun e => n a e xs (.inl h)
mutual
theorem Da.kx (k : Kx L H H1) (n : NoTs H L) : ∀ {v : V} {d : PyData}, Da K All H v d → Da K All H1 v d
  | _, _, .non => .non
  | _, _, .bl b => .bl b
  | _, _, .int i => .int i
  | _, _, .str x => .str x
  | _, _, .lst h ne r => absurd trivial ne
  | _, _, .tup h r => .tup (sqT_kx k n h) (DaAll.kx k n r)
  | _, _, .dct h ne r => absurd trivial ne
theorem DaAll.kx (k : Kx L H H1) (n : NoTs H L) : ∀ {vs : List V} {ds : List PyData}, DaAll K All H vs ds → DaAll K All H1 vs ds
  | _, _, .nil => .nil
  | _, _, .cons a r => .cons (Da.kx k n a) (DaAll.kx k n r)
end
end
theorem noTup_of {H : Hp} {a : Addr} {o : HO} (h : H a = some o) (n1 : ∀ xs, o ≠ .tup xs) (n2 : ∀ u xs, o ≠ .frz u (.tup xs)) : NoTup H a := fun xs r => by
  rcases r with r | ⟨u, r⟩
  · rw [h] at r
    exact n1 _ (Option.some.inj r)
  · rw [h] at r
    exact n2 _ _ (Option.some.inj r)
/-! ### look-ups -/
def lk {α β : Type} [DecidableEq α] (l : List (α × β)) (k : α) : Option β := (l.find? fun x => decide (x.1 = k)).map (·.2)
section
variable {α β : Type} [DecidableEq α] {x : α × β} {l : List (α × β)} {k : α} {v : β}
theorem lk_nil : lk ([] : List (α × β)) k = none := rfl
theorem lk_pos (e : x.1 = k) : lk (x :: l) k = some x.2 := by simp [lk, List.find?_cons, e]
theorem lk_neg (e : x.1 ≠ k) : lk (x :: l) k = lk l k := by simp [lk, List.find?_cons, e]
theorem lk_mem (h : lk l k = some v) : (k, v) ∈ l := by
  unfold lk at h
  obtain ⟨y, hy, rfl⟩ := Option.map_eq_some_iff.mp h
  have e : y.1 = k := by simpa using List.find?_some hy
  have m := List.mem_of_find?_eq_some hy
  rw [← e]
  exact m
theorem lk_none (h : lk l k = none) : ∀ y ∈ l, y.1 ≠ k := fun y hy e => by
  unfold lk at h
  rw [Option.map_eq_none_iff, List.find?_eq_none] at h
  exact h y hy (by simpa using e)
theorem lk_app (a b : List (α × β)) (k : α) : lk (a ++ b) k = match lk a k with | some v => some v | none => lk b k := by
  induction a with
  | nil => rfl
  | cons y a ih =>
    by_cases e : y.1 = k
    · rw [List.cons_append, lk_pos e, lk_pos e]
    · rw [List.cons_append, lk_neg e, lk_neg e, ih]
theorem lk_of_mem (hn : (l.map (·.1)).Nodup) (h : (k, v) ∈ l) : lk l k = some v := by
  induction l with
  | nil => cases h
  | cons y l ih =>
    rw [List.map_cons, List.nodup_cons] at hn
    rcases List.mem_cons.mp h with rfl | h
    · exact lk_pos rfl
    · have ne : y.1 ≠ k := fun e => hn.1 (e ▸ List.mem_map.mpr ⟨_, h, rfl⟩)
      rw [lk_neg ne]
      exact ih hn.2 h
end
/-! ### a net -/
abbrev Pt := Nat × Nat
structure NetS where
  rows : List (Nat × PyData × Nat)
  ends : List (Pt × Pt)
  next : Nat
def NetS.port (S : NetS) (x : Pt) : Prop := ∃ sym low, lk S.rows x.1 = some (sym, low) ∧ x.2 ≤ low
structure NetS.Ok (S : NetS) : Prop where
  inc : S.rows.Pairwise fun a b => a.1 < b.1
  lt : ∀ x ∈ S.rows, x.1 < S.next
  big : S.next ≤ 100000000
  len : S.rows.length ≤ 100000
  low : ∀ x ∈ S.rows, x.2.2 ≤ 100000
  el : S.ends.length ≤ 1000000
  ep : ∀ x ∈ S.ends, S.port x.1 ∧ S.port x.2
def ik (i : Nat) : Key := .inl (i : Int)
def pk (x : Pt) : List Key := [ik x.1, ik x.2]
theorem ik_inj {i j : Nat} (h : ik i = ik j) : i = j := by
  have := Sum.inl.inj h
  omega
theorem pk_inj {x y : Pt} (h : pk x = pk y) : x = y := by
  injection h with h1 h2
  injection h2 with h2
  exact Prod.ext (ik_inj h1) (ik_inj h2)
def NRow (K : PySem.W.Frag) (H : Hp) (kv : Key × V) (x : Nat × PyData × Nat) : Prop := kv.1 = ik x.1 ∧ ∃ (t : Addr) (sv : V), kv.2 = .ref t ∧ SqT K H t [sv, .int (x.2.2 : Int)] ∧ Da K All H sv x.2.1
def NEnd (H : Hp) (kv : List Key × V) (x : Pt × Pt) : Prop := kv.1 = pk x.1 ∧ ∃ q : Addr, kv.2 = .ref q ∧ H q = some (.tup [.int (x.2.1 : Int), .int (x.2.2 : Int)])
def netF (r e : Addr) (n : Nat) : List (Str × V) := [("rows", .ref r), ("ends", .ref e), ("following", .int (n : Int))]
structure NetAt (K : PySem.W.Frag) (C : Addr) (H : Hp) (n r e : Addr) (S : NetS) : Prop where
  ob : ∃ dx, H n = some (.ins C dx (netF r e S.next))
  rw : ∃ kvs, H r = some (.dK kvs) ∧ Paired (NRow K H) kvs S.rows
  en : ∃ ks, H e = some (.dT ks) ∧ Paired (NEnd H) ks S.ends
  ok : S.Ok
section
variable {K : PySem.W.Frag} {C : Addr} {H H' : Hp} {n r e : Addr} {S : NetS} {L : List Addr}
theorem NRow.kx {kv : Key × V} {x : Nat × PyData × Nat} (k : Kx L H H') (nt : NoTs H L) (h : NRow K H kv x) : NRow K H' kv x := by
  obtain ⟨h1, t, sv, h2, h3, h4⟩ := h
  exact ⟨h1, t, sv, h2, sqT_kx k nt h3, h4.kx k nt⟩
theorem NEnd.kx {kv : List Key × V} {x : Pt × Pt} (k : Kx L H H') (nt : NoTs H L) (h : NEnd H kv x) : NEnd H' kv x := by
  obtain ⟨h1, q, h2, h3⟩ := h
  exact ⟨h1, q, h2, tup_kx k nt h3⟩
theorem NetAt.kx (h : NetAt K C H n r e S) (k : Kx L H H') (nt : NoTs H L) (hn : n ∉ L) (hr : r ∉ L) (he : e ∉ L) : NetAt K C H' n r e S := by
  obtain ⟨⟨dx, h1⟩, ⟨kvs, h2, h3⟩, ⟨ks, h4, h5⟩, ok⟩ := h
  exact ⟨⟨dx, k _ _ h1 hn⟩, ⟨kvs, k _ _ h2 hr, L2.Paired.mapP h3 fun _ _ z => z.kx k nt⟩, ⟨ks, k _ _ h4 he, L2.Paired.mapP h5 fun _ _ z => z.kx k nt⟩, ok⟩
theorem NetAt.same (h : NetAt K C H n r e S) (s : Same H H') : NetAt K C H' n r e S :=
  h.kx (L := []) (.of s) (fun _ h => nomatch h) (fun h => nomatch h) (fun h => nomatch h) (fun h => nomatch h)
theorem NetAt.noTs (h : NetAt K C H n r e S) : NoTs H [n, r, e] := by
  obtain ⟨⟨dx, h1⟩, ⟨kvs, h2, _⟩, ⟨ks, h4, _⟩, _⟩ := h
  intro p hp
  rcases List.mem_cons.mp hp with rfl | hp
  · exact noTup_of h1 (fun _ z => nomatch z) (fun _ _ z => nomatch z)
  rcases List.mem_cons.mp hp with rfl | hp
  · exact noTup_of h2 (fun _ z => nomatch z) (fun _ _ z => nomatch z)
  rcases List.mem_cons.mp hp with rfl | hp
  · exact noTup_of h4 (fun _ z => nomatch z) (fun _ _ z => nomatch z)
  cases hp
theorem NetAt.kp {p : Addr} (h : NetAt K C H n r e S) (k : Kp p H H') (hp : ∃ xs, H p = some (.lst xs)) : NetAt K C H' n r e S := by
  obtain ⟨xs, hp⟩ := hp
  refine h.kx (L := [p]) (.kp k (List.mem_cons_self ..)) (fun q hq => ?_) ?_ ?_ ?_
  · rw [List.mem_singleton.mp hq]
    exact noTup_of hp (fun _ z => nomatch z) (fun _ _ z => nomatch z)
  · obtain ⟨dx, h1⟩ := h.ob
    exact fun z => ne_of h1 hp (fun z => nomatch z) (List.mem_singleton.mp z)
  · obtain ⟨_, h1, _⟩ := h.rw
    exact fun z => ne_of h1 hp (fun z => nomatch z) (List.mem_singleton.mp z)
  · obtain ⟨_, h1, _⟩ := h.en
    exact fun z => ne_of h1 hp (fun z => nomatch z) (List.mem_singleton.mp z)
theorem rows_val : ∀ {kvs : List (Key × V)} {rows : List (Nat × PyData × Nat)}, Paired (NRow K H) kvs rows → ∀ i : Nat,
    (valV kvs (ik i) = none ∧ lk rows i = none) ∨ ∃ (t : Addr) (sv : V) (sym : PyData) (low : Nat), valV kvs (ik i) = some (.ref t) ∧ lk rows i = some (sym, low) ∧ SqT K H t [sv, .int (low : Int)] ∧ Da K All H sv sym
  | _, _, .nil, i => .inl ⟨rfl, rfl⟩
  | _, _, .cons (a := kv) (b := x) h t, i => by
    obtain ⟨h1, tt, sv, h2, h3, h4⟩ := h
    by_cases e : x.1 = i
    · refine .inr ⟨tt, sv, x.2.1, x.2.2, ?_, lk_pos e, h3, h4⟩
      rw [valV_pos (by rw [h1, e]), h2]
    · have ne : ¬ kv.1 = ik i := fun z => e (ik_inj (h1.symm.trans z))
      rw [valV_neg ne, lk_neg e]
      exact rows_val t i
/-- a number that is none of a net's -/
theorem rows_neg : ∀ {kvs : List (Key × V)} {rows : List (Nat × PyData × Nat)}, Paired (NRow K H) kvs rows → ∀ {j : Int}, j < 0 → valV kvs (.inl j) = none
  | _, _, .nil, j, _ => rfl
  | _, _, .cons (a := kv) (b := x) h t, j, hj => by
    have ne : ¬ kv.1 = .inl j := fun z => by
      have := Sum.inl.inj (h.1.symm.trans z)
      omega
    rw [valV_neg ne]
    exact rows_neg t hj
theorem ends_val : ∀ {ks : List (List Key × V)} {ends : List (Pt × Pt)}, Paired (NEnd H) ks ends → ∀ x : Pt,
    (valV ks (pk x) = none ∧ lk ends x = none) ∨ ∃ (q : Addr) (y : Pt), valV ks (pk x) = some (.ref q) ∧ lk ends x = some y ∧ H q = some (.tup [.int (y.1 : Int), .int (y.2 : Int)])
  | _, _, .nil, i => .inl ⟨rfl, rfl⟩
  | _, _, .cons (a := kv) (b := y) h t, x => by
    obtain ⟨h1, q, h2, h3⟩ := h
    by_cases e : y.1 = x
    · refine .inr ⟨q, y.2, ?_, lk_pos e, h3⟩
      rw [valV_pos (by rw [h1, e]), h2]
    · have ne : ¬ kv.1 = pk x := fun z => e (pk_inj (h1.symm.trans z))
      rw [valV_neg ne, lk_neg e]
      exact ends_val t x
theorem netF_rows {r e : Addr} {n : Nat} : (netF r e n).lookup ("rows" : Str) = some (.ref r) := lk_here
theorem netF_ends {r e : Addr} {n : Nat} : (netF r e n).lookup ("ends" : Str) = some (.ref e) := (lk_past (by decide +kernel)).trans lk_here
theorem netF_next {r e : Addr} {n : Nat} : (netF r e n).lookup ("following" : Str) = some (.int (n : Int)) := (lk_past (by decide +kernel)).trans ((lk_past (by decide +kernel)).trans lk_here)
theorem netF_no {r e : Addr} {n : Nat} {m : Str} (h1 : (m == ("rows" : Str)) = false) (h2 : (m == ("ends" : Str)) = false) (h3 : (m == ("following" : Str)) = false) : (netF r e n).lookup m = none := (lk_past h1).trans ((lk_past h2).trans ((lk_past h3).trans rfl))
theorem netF_put {r e : Addr} {n m : Nat} : putF "following" (.int (m : Int)) (netF r e n) = netF r e m := by
  show putF "following" (.int (m : Int)) (("rows", .ref r) :: [("ends", .ref e), ("following", .int (n : Int))]) = _
  rw [putF, if_neg (by decide +kernel), putF, if_neg (by decide +kernel), putF, if_pos rfl]
  rfl
end
structure NetC (K : PySem.W.Frag) (C : Addr) : Prop where
  cl : L2.Cls K C
  nR : NoAttr K C "rows"
  nE : NoAttr K C "ends"
  nF : NoAttr K C "following"
end Ow

/-! Methods with defaults, comparisons that show data; promises of a net's methods. -/
namespace Ow
open PySem PySem.Spec PyProof.Rows L2
/-! ### isinstance(x, int), isinstance(x, dict) -/
def isTyD (d : PyData) (T : String) : Bool := decide (tyD d = T) || (decide (tyD d = "bool") && decide (T = "int"))
def rIsD2 (K : PySem.W.Frag) : List V → Hp → VK → Prop := fun xs H Q => ∃ (N : Addr → Prop) (v : V) (d : PyData) (T : String), xs = [v, .ty T] ∧ Da K N H v d ∧ (T = "str" ∨ T = "tuple" ∨ T = "bool" ∨ T = "int" ∨ T = "dict" ∨ T = "list") ∧ Q (.bl (isTyD d T)) H
theorem kit_all2 : ∀ t ∈ ["NoneType", "bool", "int", "str", "list", "tuple", "dict"], ∀ T ∈ ["str", "tuple", "bool", "int", "dict", "list"], kitB t T = some (decide (t = T) || (decide (t = "bool") && decide (T = "int"))) := by decide +kernel
theorem call_isD2 {X : Cx} : CallR X (.builtin "isinstance") (rIsD2 X.K) := by
  intro pins s σ H xs us Q I r h
  obtain ⟨p, v, d, T, rfl, hd, hT, q⟩ := h
  exact call_isi pins s σ H _ us Q I r ⟨v, .ty T, _, _, _, rfl, .ty T, hd.ty, kit_ty (kit_all2 _ (by cases d <;> simp [tyD]) _ (by simpa using hT)), q⟩
def wholeD : PyData → Bool
  | .int _ => true
  | _ => false
def spWhole (K : PySem.W.Frag) : Sp := fun vs H Q _ => ∃ (N : Addr → Prop) (v : V) (d : PyData), vs = [v] ∧ Da K N H v d ∧ Q (.bl (wholeD d)) H
/-! ### a method with defaults -/
structure MethD (P : Program) (w : World) (K : PySem.W.Frag) (mg : Str → Option Value) (base : Heap) (k : Nat) (C : Addr) (m : Str) (ps : List Str) (dvs : List V) (sp : Sp) : Prop where
  ex : ∃ (f : Addr) (fd : FuncData) (ds : List Value), L2.Meth K C m f ∧ FnOk P w K mg base CX0 k f fd ps sp ∧ L2.Binds K fd ps ds ∧ Vals dvs ds
/-- as it stands behind the top -/
structure MethDAt (K : PySem.W.Frag) (C : Addr) (m qual : Str) (st : Stmt) (ps : List Str) (dvs : List V) : Prop where
  ex : ∃ (f : Addr) (fd : FuncData) (ds : List Value), L2.Meth K C m f ∧ (∃ params body scope d0 kws, params = defArgs st ∧ body = defBody st ∧ scope = defScope st ∧ L2.FunD K m qual params body scope d0 kws f fd) ∧ L2.Binds K fd ps ds ∧ Vals dvs ds
section
variable {P : Program} {w : World} {K : PySem.W.Frag} {mg : Str → Option Value} {base : Heap} {m qual : Str} {C : Addr} {st : Stmt} {N ps : List Str} {k : Nat} {sp : Sp} {dvs : List V}
theorem MethDAt.ok (D : MethDAt K C m qual st ps dvs) (S : FnScope N ps (defScope st)) (len : ∀ vs H Q E, sp vs H Q E → vs.length = ps.length)
    (hbody : ∀ (f : Addr) (cdv : Value) (A : Around) (outer : List Env) (s : Shared) (H : Hp) (vs : List V) (Q : VK) (E : XK), Room k (A.deeper (envOfC qual (defScope st) s.heap.objs.size f cdv)) → sp vs H Q E →
      ∃ t, PSs (cxOf CX0 P w K mg base N qual (defScope st) f cdv A outer s H E).nox (defBody st) t ∧ t { nx := fun _ H' => Q .non H', rt := Q } (start N vs) H) : MethD P w K mg base (k + 1) C m ps dvs sp := by
  obtain ⟨f, fd, ds, hm, ⟨params, body, scope, d0, kws, rfl, rfl, rfl, F⟩, hb, hd⟩ := D.ex
  refine ⟨f, fd, ds, hm, F.ok S len fun cdv A outer s H vs Q E hr h => ?_, hb, hd⟩
  obtain ⟨t, ht, q⟩ := hbody f cdv A outer s H vs Q E hr h
  exact ⟨t, ht.nox, q⟩
end
section
variable {X : Cx} {k j : Nat} {m : Str} {C : Addr} {ps : List Str} {sp : Sp} {pos apos : Pos} {e o : Expr} {es : List Expr} {t : TA} {to : TE} {pl : Sem Bool} {dvs : List V}
theorem pe_methD (M : MethD X.prog X.w X.K X.mg X.base k C m ps dvs sp) (c : L2.Cls X.K C) (hr : Room j X.A) (hj : k ≤ j) (ho : PE X o to) (ha : PA X (e :: es) t)
    (he : starEach (e :: es) X.env = (false, eval e X.env) :: starEach es X.env := by rfl) (hpl : (backTo pos (starEach es X.env)).any (·.1) = false := by rfl)
    (ht : eval (.Call (.Attribute o m apos) (e :: es) [] pos) X.env = (do
      let ov ← eval o X.env
      standAt apos.atName
      let (f, first) ← holding [ov] (getMethod ov m pl)
      callWith pos f first (backTo pos (starEach (e :: es) X.env)) (backToKw pos (keywordEach [] X.env))) := by rfl) :
    PE X (.Call (.Attribute o m apos) (e :: es) [] pos) (tMeth C m sp dvs E0 to t) := by
  obtain ⟨f, fd, ds, hm, F, hb, hd⟩ := M.ex
  exact pe_meth (pl := pl) ho c hm F (hr.mono hj) hb hd pass0 ha he hpl ht
end
/-! ### a def that shows data, run one step farther in -/
theorem run_in1G {X : Cx} {k : Nat} {f : Addr} {fd : FuncData} {ps : List Str} {sp : Sp} {pins : List (Addr × Obj)} {σ : L2.St} {H : Hp} {s : Shared} {Q : VK} {us : List Value} {vs : List V} {A : Around} (sb : Sub X k A) (hg : A.guards = some [])
    (F : FnG X.prog X.w X.K X.mg X.base k f fd ps sp) (hb : L2.Binds X.K fd ps []) (I : Inv X pins σ H s) (r : Vals vs us) (h : sp vs H Q (fun _ _ _ => False)) {Qv : Value → Shared → Prop}
    (fin : ∀ (u : Value) (s' : Shared) (v : V) (H' : Hp), Inv X pins σ H' s' → RelV v u → Q v H' → Qv u s') : wpAny (model X.prog X.w) A (call (.ref f) us) Qv X.xe s := by
  have e0 : Env0 X.prog X.w X.K X.mg X.base A X.stack s H := by
    have e := I.env0
    refine ⟨?_, e.mod, e.bs, e.bsz, e.funs, e.frf, e.hok, e.bare⟩
    rw [sb.fr]
    exact e.frames
  have hl : us.length = ps.length := r.length.symm.trans (F.len _ _ _ _ h)
  have hbd : BindsTo s fd ⟨us, []⟩ (ps.zip us) := by
    have := hb s us I.kIn (by simpa using hl)
    simpa using this
  refine wpAny_call (codeAny_mono (F.run A X.stack s H ⟨us, []⟩ us vs Q _ hg sb.room e0 hbd r h) fun z s' hq => ?_)
  cases z with
  | error e => exact pass0 pins σ H s e s' I hq
  | ok fl =>
    cases fl with
    | ret u =>
      obtain ⟨v, H', I', rv, q⟩ := I.after hq
      exact fin u s' v H' I' rv q
    | next => exact False.elim hq
    | brk => exact False.elim hq
    | cont => exact False.elim hq
theorem op_neG {X : Cx} {f C : Addr} {fd : FuncData} {ps : List Str} {k : Nat} {sp : Sp} (hg : X.A.guards = some []) (N : NeC X.K C f) (F : FnG X.prog X.w X.K X.mg X.base k f fd ps sp) (hb : L2.Binds X.K fd ps []) (hr : Room (k + 2) X.A) : OpR X (compareOp .NotEq) (rNeO C sp (fun _ _ _ => False)) := by
  intro pins s σ H x y v u Q I rx ry h
  obtain ⟨a, b, dx, dy, fs, gs, rfl, rfl, ha, hb', hsp⟩ := h
  obtain rfl : v = Value.ref a := rx
  obtain rfl : u = Value.ref b := ry
  obtain ⟨mA, J, _⟩ := ins_get I.hok ha
  obtain ⟨od, J, _⟩ := J.look
  obtain ⟨mB, J', _⟩ := ins_get I.hok hb'
  obtain ⟨oe, J', _⟩ := J'.look
  have sb : Sub X (k + 1) X.A := ⟨hr.mono (by omega), rfl⟩
  have h1 : X.A.in1.units < cLine := (show Room (k + 1) X.A.in1 from hr.in1).units0
  refine ne_rich N I.kIn J J' hr.units0 h1 (run_in1G (us := [Value.ref a, Value.ref b]) (vs := [V.ref a, V.ref b]) sb.in1 hg F hb I (.cons rfl (.cons rfl .nil)) hsp fun w s' z H' I' rv q => ?_)
  obtain ⟨r, rfl, q⟩ := q
  cases rv
  exact ⟨r, rfl, .bl _, H', I', rfl, q⟩
/-! ### two dicts of ports compared -/
def rEqT : R2 := fun x y H Q => ∃ (a b : Addr) (ks ls : List (List Key × V)), x = .ref a ∧ y = .ref b ∧ H a = some (.dT ks) ∧ H b = some (.dT ls) ∧ (ls.map (·.1)).Nodup ∧
  ((ks.length = ls.length ∧ (∀ p ∈ ks, ∃ q : Addr, p.2 = .ref q ∧ p ∈ ls) ∧ Q (.bl true) H) ∨ (ks.length ≠ ls.length ∧ Q (.bl false) H))
theorem kt_at {H : Hp} {ls : List (List Key × V)} {xs : List (List Key × Addr × Value)} (r : KT H ls xs) {p : List Key × V} (hp : p ∈ ls) : ∃ (j : Nat) (b : Addr) (y : Value), xs[j]? = some (p.1, b, y) ∧ RelV p.2 y := by
  induction r with
  | nil => cases hp
  | @cons a x as xs h t ih =>
    rcases List.mem_cons.mp hp with rfl | hp
    · obtain ⟨h1, _, h3⟩ := h
      exact ⟨0, x.2.1, x.2.2, by rw [h1]; rfl, h3⟩
    · obtain ⟨j, b, y, e, q⟩ := ih hp
      exact ⟨j + 1, b, y, e, q⟩
theorem op_eqT {X : Cx} (hu : X.A.units + 1 < cLine) : OpR X (compareOp .Eq) rEqT := by
  intro pins s σ H x y v u Q I rx ry h
  obtain ⟨a, b, ks, ls, rfl, rfl, ha, hb, nd, h⟩ := h
  obtain rfl : v = Value.ref a := rx
  obtain rfl : u = Value.ref b := ry
  obtain ⟨_, na, xs, ra, da⟩ := dt_of I.hok ha
  obtain ⟨_, nb, zs, rb, db⟩ := dt_of I.hok hb
  have la : ks.length = xs.length := Paired.length ra
  have lb : ls.length = zs.length := Paired.length rb
  rcases h with ⟨hl, hk, q⟩ | ⟨hl, q⟩
  · refine dicts_eq (r := true) na nb da db (Nat.lt_of_succ_lt hu) hu (fun _ => ?_) ?_
    · have all : ∀ {ms : List (List Key × V)} {ws : List (List Key × Addr × Value)}, KT H ms ws → (∀ p ∈ ms, ∃ q : Addr, p.2 = .ref q ∧ p ∈ ls) → Hits X.prog X.w X.A.in1 s zs ws true := by
        intro ms ws r
        induction r with
        | nil => exact fun _ => .nil
        | @cons p x ps xs h t ih =>
          intro hm
          obtain ⟨q, e, hp⟩ := hm p (List.mem_cons_self ..)
          obtain ⟨j, c, y, hj, ry⟩ := kt_at rb hp
          obtain ⟨h1, _, h3⟩ := h
          rw [e] at ry h3
          obtain ⟨k0, a0, v0⟩ := x
          cases (show v0 = Value.ref q from h3)
          cases (show y = Value.ref q from ry)
          have k1 : p.1 = k0 := h1
          rw [k1] at hj
          have one : SeqAt.EqIn X.prog X.w X.A.in1 s (.ref q) (.ref q) true := fun E Q hq => SeqAt.EqAt.same (A := X.A.in1) (s := s) (.ref q) X.prog X.w E Q hq
          exact Hits.hit (e := true) (t := true) hj one (ih fun p hp => hm p (List.mem_cons_of_mem _ hp))
      exact all ra hk
    · rw [← la, ← lb, hl]
      simp only [beq_self_eq_true, Bool.and_self]
      exact ⟨.bl true, H, I, rfl, q⟩
  · refine dicts_eq (r := true) na nb da db (Nat.lt_of_succ_lt hu) hu (fun e => absurd (by rw [la, lb]; exact e) hl) ?_
    rw [← la, ← lb, show (ks.length == ls.length) = false by simpa using hl]
    exact ⟨.bl false, H, I, rfl, q⟩
end Ow

/-! What a net's methods promise. -/
namespace Ow
open PySem PySem.Spec PyProof.Rows L2
theorem pd_app {α β : Type} {R : α → β → Prop} : ∀ {a : List α} {b : List β}, Paired R a b → ∀ {c : List α} {d : List β}, Paired R c d → Paired R (a ++ c) (b ++ d)
  | _, _, .nil, _, _, h => h
  | _, _, .cons x t, _, _, h => .cons x (pd_app t h)
def ptV (x : Pt) : List V := [.int (x.1 : Int), .int (x.2 : Int)]
def ptD (x : Pt) : PyData := .tuple [.int (x.1 : Int), .int (x.2 : Int)]
theorem ptV_kV (x : Pt) : (pk x).map kV = ptV x := rfl
theorem pt_dp {K : PySem.W.Frag} {H : Hp} {q : Addr} {x : Pt} (h : H q = some (.tup (ptV x))) : Dp K H (.ref q) (ptD x) := .tup (SqT.of h) (.cons (.int _) (.cons (.int _) .nil))
theorem pt_da {K : PySem.W.Frag} {N : Addr → Prop} {H : Hp} {q : Addr} {x : Pt} (h : H q = some (.tup (ptV x))) : Da K N H (.ref q) (ptD x) := .tup (SqT.of h) (.cons (.int _) (.cons (.int _) .nil))
theorem pt_shaped (x : Pt) : SeqAt.shaped (ptD x) = true := by
  unfold SeqAt.shaped ptD
  simp [PyData.canLay0, PyData.canLayAll0, PyData.depth, PyData.depthAll]
theorem pt_eqv (x y : Pt) : PyData.eqv (ptD x) (ptD y) = decide (x = y) := by
  unfold ptD
  obtain ⟨a, b⟩ := x
  obtain ⟨c, d⟩ := y
  simp only [PyData.eqv, PyData.eqvAll, Bool.and_true]
  by_cases h : (a, b) = (c, d)
  · obtain ⟨rfl, rfl⟩ := Prod.mk.inj h
    simp
  · rw [decide_eq_false h]
    simp only [Bool.and_eq_false_iff]
    by_cases e : a = c
    · right
      have : b ≠ d := fun z => h (by rw [e, z])
      simp
      omega
    · left
      simp
      omega
def NetS.put (S : NetS) (sym : PyData) (low : Nat) : NetS := ⟨S.rows ++ [(S.next, sym, low)], S.ends, S.next + 1⟩
def NetS.tie (S : NetS) (x y : Pt) : NetS := ⟨S.rows, S.ends ++ [(x, y), (y, x)], S.next⟩
section
variable {S : NetS} {x y : Pt} {sym : PyData} {low : Nat}
theorem NetS.port_put (h : S.port x) : (S.put sym low).port x := by
  obtain ⟨s, l, h1, h2⟩ := h
  exact ⟨s, l, by unfold NetS.put; rw [lk_app, h1], h2⟩
theorem NetS.Ok.new (h : S.Ok) : lk S.rows S.next = none := by
  cases e : lk S.rows S.next with
  | none => rfl
  | some v =>
    have := h.lt _ (lk_mem e)
    exact absurd this (Nat.lt_irrefl _)
theorem NetS.Ok.put (h : S.Ok) (hb : S.next < 100000000) (hl : S.rows.length < 100000) (hw : low ≤ 100000) : (S.put sym low).Ok := by
  refine ⟨?_, fun x hx => ?_, hb, ?_, fun x hx => ?_, h.el, fun x hx => ?_⟩
  · show (S.rows ++ [(S.next, sym, low)]).Pairwise _
    rw [List.pairwise_append]
    exact ⟨h.inc, by simp, fun a ha b hb => by rw [List.mem_singleton.mp hb]; exact h.lt a ha⟩
  · rcases List.mem_append.mp hx with hx | hx
    · exact Nat.lt_succ_of_lt (h.lt x hx)
    · rw [List.mem_singleton.mp hx]
      exact Nat.lt_succ_self _
  · show (S.rows ++ [(S.next, sym, low)]).length ≤ _
    rw [List.length_append]
    exact hl
  · rcases List.mem_append.mp hx with hx | hx
    · exact h.low x hx
    · rw [List.mem_singleton.mp hx]
      exact hw
  · exact ⟨NetS.port_put (h.ep x hx).1, NetS.port_put (h.ep x hx).2⟩
theorem NetS.Ok.tie (h : S.Ok) (hx : S.port x) (hy : S.port y) (hl : S.ends.length + 2 ≤ 1000000) : (S.tie x y).Ok := by
  refine ⟨h.inc, h.lt, h.big, h.len, h.low, ?_, fun z hz => ?_⟩
  · show (S.ends ++ [(x, y), (y, x)]).length ≤ _
    rw [List.length_append]
    exact hl
  · rcases List.mem_append.mp hz with hz | hz
    · exact h.ep z hz
    · rcases List.mem_cons.mp hz with rfl | hz
      · exact ⟨hx, hy⟩
      · rw [List.mem_singleton.mp hz]
        exact ⟨hy, hx⟩
end
theorem no3 {r e : Addr} {n : Nat} {m : Str} (h : ((m == ("rows" : Str)) || (m == ("ends" : Str)) || (m == ("following" : Str))) = false) : (netF r e n).lookup m = none := by
  simp only [Bool.or_eq_false_iff] at h
  exact netF_no h.1.1 h.1.2 h.2
def agentD (S : NetS) : PyData → Bool
  | .int i => decide (0 ≤ i) && (lk S.rows i.toNat).isSome
  | _ => false
def portD (S : NetS) : PyData → Bool
  | .tuple [.int i, .int j] => decide (0 ≤ i) && (match lk S.rows i.toNat with | some v => decide (0 ≤ j) && decide (j ≤ (v.2 : Int)) | none => false)
  | _ => false
theorem portD_of {S : NetS} {x : Pt} (h : S.port x) : portD S (ptD x) = true := by
  obtain ⟨sym, low, h1, h2⟩ := h
  unfold portD ptD
  simp only [Int.toNat_natCast, h1]
  simp
  omega
def spNetInit (K : PySem.W.Frag) (C : Addr) : Sp := fun vs H Q _ => ∃ (p dx : Addr), vs = [.ref p] ∧ H p = some (.ins C dx []) ∧ ∀ (r e : Addr) (H' : Hp), NetAt K C H' p r e ⟨[], [], 0⟩ → Kx [p] H H' → H r = none → H e = none → Q .non H'
def spPutN (K : PySem.W.Frag) (C : Addr) : Sp := fun vs H Q _ => ∃ (n r e : Addr) (S : NetS) (sv : V) (sym : PyData) (low : Nat), vs = [.ref n, sv, .int (low : Int), .non] ∧ NetAt K C H n r e S ∧ Da K All H sv sym ∧ low ≤ 100000 ∧ S.next < 100000000 ∧ S.rows.length < 100000 ∧
  ∀ H', NetAt K C H' n r e (S.put sym low) → Kx [n, r, e] H H' → Q (.int (S.next : Int)) H'
def spTieN (K : PySem.W.Frag) (C : Addr) : Sp := fun vs H Q _ => ∃ (n r e q1 q2 : Addr) (S : NetS) (x y : Pt), vs = [.ref n, .ref q1, .ref q2] ∧ NetAt K C H n r e S ∧ H q1 = some (.tup (ptV x)) ∧ H q2 = some (.tup (ptV y)) ∧ S.port x ∧ S.port y ∧ x ≠ y ∧ lk S.ends x = none ∧ lk S.ends y = none ∧ S.ends.length + 2 ≤ 1000000 ∧
  ∀ H', NetAt K C H' n r e (S.tie x y) → Kx [n, r, e] H H' → Q .non H'
def spNumN (K : PySem.W.Frag) (C : Addr) : Sp := fun vs H Q _ => ∃ (n r e : Addr) (S : NetS), vs = [.ref n] ∧ NetAt K C H n r e S ∧ ∀ (q : Addr), H q = none → Q (.ref q) (upd H q (.lst (S.rows.map fun x => V.int (x.1 : Int))))
def spSymN (K : PySem.W.Frag) (C : Addr) : Sp := fun vs H Q _ => ∃ (n r e : Addr) (S : NetS) (a : Nat) (sym : PyData) (low : Nat), vs = [.ref n, .int (a : Int)] ∧ NetAt K C H n r e S ∧ lk S.rows a = some (sym, low) ∧ ∀ v, Da K All H v sym → Q v H
def spLowN (K : PySem.W.Frag) (C : Addr) : Sp := fun vs H Q _ => ∃ (n r e : Addr) (S : NetS) (a : Nat) (sym : PyData) (low : Nat), vs = [.ref n, .int (a : Int)] ∧ NetAt K C H n r e S ∧ lk S.rows a = some (sym, low) ∧ Q (.int (low : Int)) H
def spEndN (K : PySem.W.Frag) (C : Addr) : Sp := fun vs H Q _ => ∃ (n r e q : Addr) (S : NetS) (x : Pt), vs = [.ref n, .ref q] ∧ NetAt K C H n r e S ∧ H q = some (.tup (ptV x)) ∧ S.port x ∧ (lk S.ends x = none → Q .non H) ∧ ∀ (y : Pt) (t : Addr), lk S.ends x = some y → H t = some (.tup (ptV y)) → Q (.ref t) H
def spLenN (K : PySem.W.Frag) (C : Addr) : Sp := fun vs H Q _ => ∃ (n r e : Addr) (S : NetS), vs = [.ref n] ∧ NetAt K C H n r e S ∧ Q (.int (S.rows.length : Int)) H
def spHasA (K : PySem.W.Frag) (C : Addr) : Sp := fun vs H Q _ => ∃ (n r e : Addr) (S : NetS) (N : Addr → Prop) (v : V) (d : PyData), vs = [.ref n, v] ∧ NetAt K C H n r e S ∧ Da K N H v d ∧ Q (.bl (agentD S d)) H
def spHasP (K : PySem.W.Frag) (C : Addr) : Sp := fun vs H Q _ => ∃ (n r e : Addr) (S : NetS) (N : Addr → Prop) (v : V) (d : PyData), vs = [.ref n, v] ∧ NetAt K C H n r e S ∧ Da K N H v d ∧ Q (.bl (portD S d)) H
def spNeedA (K : PySem.W.Frag) (C : Addr) : Sp := fun vs H Q _ => ∃ (n r e : Addr) (S : NetS) (N : Addr → Prop) (v : V) (d : PyData), vs = [.ref n, v] ∧ NetAt K C H n r e S ∧ Da K N H v d ∧ agentD S d = true ∧ Q .non H
def spNeedP (K : PySem.W.Frag) (C : Addr) : Sp := fun vs H Q _ => ∃ (n r e : Addr) (S : NetS) (N : Addr → Prop) (v : V) (d : PyData), vs = [.ref n, v] ∧ NetAt K C H n r e S ∧ Da K N H v d ∧ portD S d = true ∧ Q .non H
end Ow

/-! A dict walked by a comprehension; copies of nets. -/
namespace Ow
open PySem PySem.Spec PyProof.Rows L2
section
variable {d D : Addr} {o : Obj} {σ : L2.St} {H0 : Hp} {g : TG} {tt : L2.TT} {tk te : TE} {vs : List Nat} {cs : List Cls} {Qd : Hp → Prop}
theorem dcn_keys {kvs : List (Key × V)} (Pv : Nat → Hp → Prop) (h0 : Pv 0 H0) (stay : ∀ i H, i ≤ kvs.length → Pv i H → H d = some (.frz o (.dK kvs)))
    (step : ∀ i k v H, kvs[i]? = some (k, v) → Pv i H → g (kV k) (wipe σ vs) H fun σ2 H2 => wipe σ2 vs = wipe σ vs ∧ tt σ2 H2 fun b H3 => if b = true then DcN.tDeep D tk te cs σ2 H3 (Pv (i + 1)) else Pv (i + 1) H3) (done : ∀ H, Pv kvs.length H → Qd H) :
    ∃ W : Nat → Nat → Hp → Prop, (∃ m, W 0 m H0) ∧ ∀ j m H, W j m H → ((Itk d o kvs).stop j H ∧ Qd H) ∨ ((Itk d o kvs).go j H ∧ ∃ Y : Hp → Prop, (∀ H', Y H' → ∃ m', m' < m ∧ W (j + 1) m' H') ∧ ∀ x H', (Itk d o kvs).yld j H x H' →
      g x (wipe σ vs) H' fun σ2 H2 => wipe σ2 vs = wipe σ vs ∧ tt σ2 H2 fun b H3 => if b = true then DcN.tDeep D tk te cs σ2 H3 Y else Y H3) := by
  refine ⟨fun j m H => m = kvs.length - j ∧ j ≤ kvs.length ∧ Pv j H, ⟨_, rfl, Nat.zero_le _, h0⟩, ?_⟩
  rintro j m H ⟨rfl, hj, p⟩
  have q := stay j H hj p
  by_cases lt : j < kvs.length
  · refine .inr ⟨⟨q, lt⟩, Pv (j + 1), fun H' p' => ⟨_, by omega, rfl, lt, p'⟩, fun x H' y => ?_⟩
    obtain ⟨rfl, k, v, e, rfl⟩ := y
    exact step j k v _ e p
  · obtain rfl : j = kvs.length := by omega
    exact .inl ⟨⟨q, Nat.le_refl _⟩, done H p⟩
theorem dcn_keysT {kvs : List (List Key × V)} (Pv : Nat → Hp → Prop) (h0 : Pv 0 H0) (stay : ∀ i H, i ≤ kvs.length → Pv i H → H d = some (.frz o (.dT kvs)))
    (step : ∀ i k v q H, kvs[i]? = some (k, v) → H q = some (.tup (k.map kV)) → Pv i H → g (.ref q) (wipe σ vs) H fun σ2 H2 => wipe σ2 vs = wipe σ vs ∧ tt σ2 H2 fun b H3 => if b = true then DcN.tDeep D tk te cs σ2 H3 (Pv (i + 1)) else Pv (i + 1) H3) (done : ∀ H, Pv kvs.length H → Qd H) :
    ∃ W : Nat → Nat → Hp → Prop, (∃ m, W 0 m H0) ∧ ∀ j m H, W j m H → ((Itkt d o kvs).stop j H ∧ Qd H) ∨ ((Itkt d o kvs).go j H ∧ ∃ Y : Hp → Prop, (∀ H', Y H' → ∃ m', m' < m ∧ W (j + 1) m' H') ∧ ∀ x H', (Itkt d o kvs).yld j H x H' →
      g x (wipe σ vs) H' fun σ2 H2 => wipe σ2 vs = wipe σ vs ∧ tt σ2 H2 fun b H3 => if b = true then DcN.tDeep D tk te cs σ2 H3 Y else Y H3) := by
  refine ⟨fun j m H => m = kvs.length - j ∧ j ≤ kvs.length ∧ Pv j H, ⟨_, rfl, Nat.zero_le _, h0⟩, ?_⟩
  rintro j m H ⟨rfl, hj, p⟩
  have q := stay j H hj p
  by_cases lt : j < kvs.length
  · refine .inr ⟨⟨q, lt⟩, Pv (j + 1), fun H' p' => ⟨_, by omega, rfl, lt, p'⟩, fun x H' y => ?_⟩
    obtain ⟨rfl, k, v, t, e, rfl, et⟩ := y
    exact step j k v t _ e et p
  · obtain rfl : j = kvs.length := by omega
    exact .inl ⟨⟨q, Nat.le_refl _⟩, done H p⟩
end
theorem pe_fldK {X : Cx} {K : PySem.W.Frag} (h : X.K = K) {e : Expr} {ta : TE} {f : Str} {pos : Pos} (he : PE X e ta) (hb : attributeBase e f X.env (eval e X.env) = eval e X.env) : PE X (.Attribute e f pos) (tFld K ta f) := h ▸ pe_fld he hb
/-- unlike keys: each is found as it stands -/
theorem valV_at {κ : Type} [DecidableEq κ] {kvs : List (κ × V)} (nd : (kvs.map (·.1)).Nodup) {i : Nat} {k : κ} {v : V} (h : kvs[i]? = some (k, v)) : valV kvs k = some v := by
  induction kvs generalizing i with
  | nil => simp at h
  | cons p r ih =>
    rw [List.map_cons, List.nodup_cons] at nd
    cases i with
    | zero =>
      have e : p = (k, v) := by simpa using h
      rw [valV_pos (by rw [e])]
      rw [e]
    | succ i =>
      have h' : r[i]? = some (k, v) := by simpa using h
      have ne : ¬ p.1 = k := fun e => nd.1 (by rw [e]; exact List.mem_map.mpr ⟨(k, v), List.mem_of_getElem? h', rfl⟩)
      rw [valV_neg ne]
      exact ih nd.2 h'
theorem valV_out {κ : Type} [DecidableEq κ] {kvs : List (κ × V)} {k : κ} (h : k ∉ kvs.map (·.1)) : valV kvs k = none := by
  induction kvs with
  | nil => rfl
  | cons p r ih =>
    rw [List.map_cons, List.mem_cons, not_or] at h
    rw [valV_neg (fun e => h.1 e.symm)]
    exact ih h.2
/-- the entries so far, and one more -/
theorem putK_take {κ : Type} [DecidableEq κ] {kvs : List (κ × V)} (nd : (kvs.map (·.1)).Nodup) {i : Nat} {k : κ} {v : V} (h : kvs[i]? = some (k, v)) : putK (kvs.take i) k v = kvs.take (i + 1) := by
  have lt := (List.getElem?_eq_some_iff.mp h).1
  have no : k ∉ (kvs.take i).map (·.1) := by
    intro m
    have e : kvs = kvs.take i ++ (k, v) :: kvs.drop (i + 1) := by
      have := List.take_append_drop i kvs
      rw [List.drop_eq_getElem_cons lt, (List.getElem?_eq_some_iff.mp h).2] at this
      exact this.symm
    rw [e, List.map_append, List.nodup_append] at nd
    exact nd.2.2 _ m _ (by rw [List.map_cons]; exact List.mem_cons_self ..) rfl
  rw [putK_new _ (valV_out no), take_succ_app h]
theorem nrow_nodup {K : PySem.W.Frag} {H : Hp} {kvs : List (Key × V)} {rows : List (Nat × PyData × Nat)} (h : Paired (NRow K H) kvs rows) (inc : rows.Pairwise fun a b => a.1 < b.1) : (kvs.map (·.1)).Nodup := by
  have e : kvs.map (·.1) = rows.map fun x => ik x.1 := by
    clear inc
    induction h with
    | nil => rfl
    | cons a t ih => rw [List.map_cons, List.map_cons, ih, a.1]
  rw [e]
  refine List.pairwise_map.mpr (inc.imp fun h z => ?_)
  have := ik_inj z
  omega
theorem unlock_eq {H1 : Hp} {r D : Addr} {o x : HO} {od : Obj} (h : H1 r = some o) (ne : D ≠ r) : upd (upd (upd H1 r (.frz od o)) D x) r o = upd H1 D x := by
  funext b
  by_cases e : b = r
  · subst e
    rw [upd_same, upd_ne ne.symm, h]
  · rw [upd_ne e]
    by_cases e2 : b = D
    · subst e2
      rw [upd_same, upd_same]
    · rw [upd_ne e2, upd_ne e2, upd_ne e]
theorem netF_r {r e D : Addr} {n : Nat} : putF "rows" (.ref D) (netF r e n) = netF D e n := by
  show putF "rows" (.ref D) (("rows", .ref r) :: [("ends", .ref e), ("following", .int (n : Int))]) = _
  rw [putF, if_pos rfl]
  rfl
theorem netF_e {r e D : Addr} {n : Nat} : putF "ends" (.ref D) (netF r e n) = netF r D n := by
  show putF "ends" (.ref D) (("rows", .ref r) :: [("ends", .ref e), ("following", .int (n : Int))]) = _
  rw [putF, if_neg (by decide +kernel), putF, if_pos rfl]
  rfl
/-- what isinstance asks of the class -/
structure NetI (K : PySem.W.Frag) (C : Addr) : Prop where
  ha : PySem.W.findIn K (.ref C) "__class__" = some (some (.builtin "object.__class__"))
  hn : PySem.W.specialIn K (.builtin "object.__class__") "__get__" = some (some (.builtin "getset_descriptor.__get__"))
  ht : PySem.W.takesIn K (.builtin "object.__class__") = some true
  hm : PySem.W.mroIn K C (.type "object") = some true
  kit : PySem.W.kitOne K (.ref C) (.ref C) = some true
def spCopyN (K : PySem.W.Frag) (C : Addr) : Sp := fun vs H Q _ => ∃ (n r e : Addr) (S : NetS) (ks : List (List Key × V)), vs = [.ref n] ∧ NetAt K C H n r e S ∧ H e = some (.dT ks) ∧ (ks.map (·.1)).Nodup ∧
  ∀ (m r' e' : Addr) (H' : Hp), NetAt K C H' m r' e' S → H' e' = some (.dT ks) → Same H H' → H m = none → H r' = none → H e' = none → Q (.ref m) H'
/-- a net's rows as data -/
def rowsD (S : NetS) : PyData := .dict (S.rows.map fun x => (PyData.int (x.1 : Int), PyData.tuple [x.2.1, .int (x.2.2 : Int)]))
def spEqN (K : PySem.W.Frag) (C : Addr) : Sp := fun vs H Q _ => ∃ (n r e m r' e' : Addr) (S : NetS) (ks : List (List Key × V)) (f : Nat), vs = [.ref n, .ref m] ∧ NetAt K C H n r e S ∧ NetAt K C H m r' e' S ∧ H e = some (.dT ks) ∧ H e' = some (.dT ks) ∧ (ks.map (·.1)).Nodup ∧ Fit f 150 (rowsD S) ∧ f ≤ 16000000 ∧ Q (.bl true) H
theorem rows_da {K : PySem.W.Frag} {C : Addr} {H : Hp} {n r e : Addr} {S : NetS} (h : NetAt K C H n r e S) : Da K (fun _ => False) H (.ref r) (rowsD S) := by
  obtain ⟨_, ⟨kvs, h2, h3⟩, _, _⟩ := h
  have all : ∀ {kvs : List (Key × V)} {rows : List (Nat × PyData × Nat)}, Paired (NRow K H) kvs rows → DaAll K (fun _ => False) H (kvs.map (·.2)) (rows.map fun x => PyData.tuple [x.2.1, .int (x.2.2 : Int)]) ∧
      (kvs.map fun kv => kD kv.1).zip (rows.map fun x => PyData.tuple [x.2.1, .int (x.2.2 : Int)]) = rows.map fun x => (PyData.int (x.1 : Int), PyData.tuple [x.2.1, .int (x.2.2 : Int)]) := by
    intro kvs rows h
    induction h with
    | nil => exact ⟨.nil, rfl⟩
    | @cons a x as xs h t ih =>
      obtain ⟨h1, q, sv, g2, g3, g4⟩ := h
      refine ⟨?_, ?_⟩
      · rw [List.map_cons, List.map_cons, g2]
        exact .cons (.tup g3 (.cons (g4.less fun _ z => z.elim) (.cons (.int _) .nil))) ih.1
      · rw [List.map_cons, List.map_cons, List.map_cons, List.zip_cons_cons, ih.2, h1]
        rfl
  have := Da.dct (N := fun _ => False) h2 (fun z => z) (all h3).1
  rw [(all h3).2] at this
  exact this
end Ow

/-! Ways along heads. -/
namespace Ow
open PySem PySem.Spec PyProof.Rows L2
def symH : PyData → Str
  | .tuple (.str s :: _) => s
  | _ => ""
/-- symbols as laws draw them -/
structure SyOk (S : NetS) : Prop where
  all : ∀ x ∈ S.rows, ∃ s ds, x.2.1 = .tuple (.str s :: ds) ∧ Fit 1000 20 x.2.1
  few : S.rows.length ≤ 100000
def headOf (S : NetS) (a : Nat) : Str := match lk S.rows a with
  | some v => symH v.1
  | none => ""
def outsN (S : NetS) : List Nat := (S.rows.filter fun x => decide (symH x.2.1 = ("out" : Str))).map (·.1)
theorem SyOk.at {S : NetS} (h : SyOk S) {a : Nat} {sym : PyData} {low : Nat} (e : lk S.rows a = some (sym, low)) : ∃ s ds, sym = .tuple (.str s :: ds) ∧ headOf S a = s := by
  obtain ⟨s, ds, e1, _⟩ := h.all _ (lk_mem e)
  refine ⟨s, ds, e1, ?_⟩
  have e1' : sym = .tuple (.str s :: ds) := e1
  subst e1'
  unfold headOf
  rw [e]
  rfl
/-- a tuple's first item, where it is a text -/
theorem da_first {K : PySem.W.Frag} {N : Addr → Prop} {H : Hp} {v : V} {s : Str} {ds : List PyData} (h : Da K N H v (.tuple (.str s :: ds))) : ∃ (t : Addr) (xs : List V), v = .ref t ∧ SqT K H t (.str s :: xs) ∧ DaAll K N H xs ds := by
  cases h with
  | @tup a xs _ hT r =>
    cases r with
    | @cons v0 vs d0 ds0 h0 r0 =>
      cases h0
      exact ⟨a, vs, rfl, hT, r0⟩
inductive WkN (S : NetS) : List Nat → Option Pt → List Nat × Str → Prop
  | op {f : List Nat} : WkN S f none (f, ("open" : Str))
  | head {f : List Nat} {a : Nat} : WkN S f (some (a, 0)) (f ++ [a], if headOf S a = ("def" : Str) then ("opens" : Str) else if f = [] then ("shown" : Str) else ("meets" : Str))
  | round {f : List Nat} {a p : Nat} (h : a ∈ f) (hp : p ≠ 0) : WkN S f (some (a, p)) (f, ("round" : Str))
  | step {f : List Nat} {a p : Nat} {r : List Nat × Str} (h : a ∉ f) (hp : p ≠ 0) (t : WkN S (f ++ [a]) (lk S.ends (a, 0)) r) : WkN S f (some (a, p)) r
theorem WkN.inv {S : NetS} {f : List Nat} {a p : Nat} {r : List Nat × Str} (h : WkN S f (some (a, p)) r) : (p = 0 ∧ r = (f ++ [a], if headOf S a = ("def" : Str) then ("opens" : Str) else if f = [] then ("shown" : Str) else ("meets" : Str))) ∨ (p ≠ 0 ∧ a ∈ f ∧ r = (f, ("round" : Str))) ∨ (p ≠ 0 ∧ a ∉ f ∧ WkN S (f ++ [a]) (lk S.ends (a, 0)) r) := by
  cases h with
  | head => exact .inl ⟨rfl, rfl⟩
  | round h hp => exact .inr (.inl ⟨hp, h, rfl⟩)
  | step h hp t => exact .inr (.inr ⟨hp, h, t⟩)
theorem WkN.non {S : NetS} {f : List Nat} {r : List Nat × Str} (h : WkN S f none r) : r = (f, ("open" : Str)) := by
  cases h
  rfl
def isAgent (S : NetS) (a : Nat) : Prop := ∃ v, lk S.rows a = some v
theorem NetS.port.agent {S : NetS} {x : Pt} (h : S.port x) : isAgent S x.1 := by
  obtain ⟨s, l, h, _⟩ := h
  exact ⟨_, h⟩
theorem isAgent.port {S : NetS} {a : Nat} (h : isAgent S a) : S.port (a, 0) := by
  obtain ⟨⟨s, l⟩, h⟩ := h
  exact ⟨s, l, h, Nat.zero_le _⟩
theorem end_port {S : NetS} (ok : S.Ok) {x y : Pt} (h : lk S.ends x = some y) : S.port y := (ok.ep _ (lk_mem h)).2
/-- unlike agents are no more than there are -/
theorem agents_few {S : NetS} {f : List Nat} (nd : f.Nodup) (h : ∀ a ∈ f, isAgent S a) : f.length ≤ S.rows.length := by
  have sub : ∀ a ∈ f, a ∈ S.rows.map (·.1) := fun a ha => by
    obtain ⟨v, e⟩ := h a ha
    exact List.mem_map.mpr ⟨_, lk_mem e, rfl⟩
  have : ∀ (l m : List Nat), l.Nodup → (∀ a ∈ l, a ∈ m) → l.length ≤ m.length := by
    intro l
    induction l with
    | nil => exact fun _ _ _ => Nat.zero_le _
    | cons x l ih =>
      intro m nd sub
      rw [List.nodup_cons] at nd
      have hx := sub x (List.mem_cons_self ..)
      have h1 := ih (m.erase x) nd.2 fun a ha => by
        have ne : a ≠ x := fun e => nd.1 (e ▸ ha)
        exact (List.mem_erase_of_ne ne).mpr (sub a (List.mem_cons_of_mem _ ha))
      have h2 := List.length_erase_of_mem hx
      have h3 : 0 < m.length := List.length_pos_of_mem hx
      rw [List.length_cons]
      omega
  have := this f (S.rows.map (·.1)) nd sub
  rwa [List.length_map] at this
theorem wk_all {S : NetS} (ok : S.Ok) : ∀ (n : Nat) (f : List Nat) (e : Option Pt), f.Nodup → (∀ a ∈ f, isAgent S a) → (∀ y, e = some y → S.port y) → S.rows.length - f.length ≤ n → ∃ r, WkN S f e r
  | _, f, none, _, _, _, _ => ⟨_, .op⟩
  | n, f, some (a, p), nd, ha, he, hn => by
    by_cases hp : p = 0
    · subst hp
      exact ⟨_, .head⟩
    by_cases hm : a ∈ f
    · exact ⟨_, .round hm hp⟩
    have hA : isAgent S a := (he _ rfl).agent
    have nd2 : (f ++ [a]).Nodup := by
      rw [List.nodup_append]
      exact ⟨nd, by simp, fun x hx y hy => by rw [List.mem_singleton.mp hy]; exact fun z => hm (z ▸ hx)⟩
    have ha2 : ∀ b ∈ f ++ [a], isAgent S b := fun b hb => by
      rcases List.mem_append.mp hb with hb | hb
      · exact ha b hb
      · rw [List.mem_singleton.mp hb]
        exact hA
    have l := agents_few nd2 ha2
    rw [List.length_append, List.length_singleton] at l
    cases n with
    | zero => omega
    | succ n =>
      obtain ⟨r, h⟩ := wk_all ok n (f ++ [a]) (lk S.ends (a, 0)) nd2 ha2 (fun y e => end_port ok e) (by rw [List.length_append, List.length_singleton]; omega)
      exact ⟨r, .step hm hp h⟩
theorem snoc_nodup {f : List Nat} {a : Nat} (nd : f.Nodup) (h : a ∉ f) : (f ++ [a]).Nodup := by
  rw [List.nodup_append]
  exact ⟨nd, by simp, fun x hx y hy => by rw [List.mem_singleton.mp hy]; exact fun z => h (z ▸ hx)⟩
def intsN (l : List Nat) : List V := l.map fun (a : Nat) => V.int (a : Int)
def spHW (K : PySem.W.Frag) (C : Addr) : Sp := fun vs H Q _ => ∃ (n r e : Addr) (S : NetS) (a : Nat) (w : Str), vs = [.ref n, .int (a : Int), .str w] ∧ NetAt K C H n r e S ∧ SyOk S ∧ isAgent S a ∧ Q (.str (if headOf S a = ("def" : Str) then ("opens" : Str) else w)) H
def spHO (K : PySem.W.Frag) (C : Addr) : Sp := fun vs H Q _ => ∃ (n r e : Addr) (S : NetS) (a : Nat), vs = [.ref n] ∧ NetAt K C H n r e S ∧ SyOk S ∧ outsN S = [a] ∧ ∀ (H' : Hp) (t : Addr), H' t = some (.tup (ptV (a, 0))) → Same H H' → Q (.ref t) H'
def spWay (K : PySem.W.Frag) (C : Addr) : Sp := fun vs H Q _ => ∃ (n r e : Addr) (S : NetS) (x : Pt) (f : List Nat) (w : Str), ((∃ q : Addr, vs = [.ref n, .ref q] ∧ H q = some (.tup (ptV x))) ∨ (vs = [.ref n, .non] ∧ outsN S = [x.1] ∧ x.2 = 0)) ∧ NetAt K C H n r e S ∧ SyOk S ∧ S.port x ∧ WkN S [] (lk S.ends x) (f, w) ∧
  ∀ (H' : Hp) (t L : Addr), H' t = some (.tup [.ref L, .str w]) → H' L = some (.lst (intsN f)) → Same H H' → H L = none → Q (.ref t) H'
end Ow

/-! Things that are no ports, refused. -/
namespace Ow
open PySem PySem.Spec PyProof.Rows L2
/-- a class of refusals without an own __init__ -/
structure NoPC (K : PySem.W.Frag) (mg : Str → Option Value) (x : Str) (C : Addr) : Prop where
  xC : PySem.W.excIn K C [.type "ValueError", .type "Exception", .type "BaseException", .type "object"] "ValueError.__new__" = true
  gC : mg x = some (.ref C)
  kC : PySem.W.keepIn K (.ref C) = true
  bC : PySem.W.subIn K (.ref C) (.type "BaseException") = some true
  tC : PySem.W.typeIn K (.ref C) = some (.type "type")
theorem ps_rzP {X : Cx} {W : WX} {x m : Str} {C : Addr} {j : Nat} {p p2 pos pos2 : Pos} (N : NoPC X.K X.mg x C) (hc : X.calm = true) (tk : Takes X W) (hg : Gl X x) (hdb : (x == ("__debug__" : Str)) = false := by decide) :
    PS X (.Raise (some (.Call (.Name x p) [.Constant (.str m) j p2] [] pos)) none pos2) (fun _ σ H => W (.ref C) none σ H) := ps_raise hc tk (pmk_own PySem.F.excBase_ValueError N.xC N.gC N.kC (raises_own N.bC N.tC) hg hdb)
theorem ixTupK {X : Cx} {K : PySem.W.Frag} (h : X.K = K) : IxR X (rIxT K) := h ▸ ix_tup
theorem NetS.Ok.nd {S : NetS} (h : S.Ok) : (S.rows.map (·.1)).Nodup := List.pairwise_map.mpr (h.inc.imp fun h => Nat.ne_of_lt h)
theorem NetS.Ok.at {S : NetS} (h : S.Ok) {a : Nat} {v : PyData × Nat} (m : (a, v) ∈ S.rows) : lk S.rows a = some v := lk_of_mem h.nd m
def spNeedPX (K : PySem.W.Frag) (C cP : Addr) : Sp := fun vs H Q E => ∃ (n r e : Addr) (S : NetS) (N : Addr → Prop) (v : V) (d : PyData), vs = [.ref n, v] ∧ NetAt K C H n r e S ∧ Da K N H v d ∧ portD S d = false ∧ E (.ref cP) none H
def spWayX (K : PySem.W.Frag) (C cP : Addr) : Sp := fun vs H Q E => ∃ (n r e : Addr) (S : NetS) (N : Addr → Prop) (v : V) (d : PyData), vs = [.ref n, v] ∧ v ≠ .non ∧ NetAt K C H n r e S ∧ Da K N H v d ∧ portD S d = false ∧ E (.ref cP) none H
/-- def x(net, *, port=None), as it stands behind the top -/
structure KwAt (K : PySem.W.Frag) (mg : Str → Option Value) (x : Str) (st : Stmt) (ps : List Str) (n : Nat) (ks : List Str) (dvs : List V) (f : Addr) (fd : FuncData) : Prop where
  F : ∃ params body scope d0 kws, params = defArgs st ∧ body = defBody st ∧ scope = defScope st ∧ L2.FunD K x x params body scope d0 kws f fd
  g : mg x = some (.ref f)
  kp : PySem.W.keepIn K (.ref f) = true
  one : ∃ ds, Vals dvs ds ∧ L2.Binds K fd ps ds
  two : KBn K fd ps n ks (fun us ws => us ++ ws) (fun vs zs => vs ++ zs)
section
variable {P : Program} {w : World} {K : PySem.W.Frag} {mg : Str → Option Value} {base : Heap} {x : Str} {st : Stmt} {N ps ks : List Str} {k n : Nat} {sp : Sp} {dvs : List V} {f : Addr} {fd : FuncData} {CX : CXT}
theorem KwAt.ok (D : KwAt K mg x st ps n ks dvs f fd) (S : FnScope N ps (defScope st)) (len : ∀ vs H Q E, sp vs H Q E → vs.length = ps.length)
    (hbody : ∀ (cdv : Value) (A : Around) (outer : List Env) (s : Shared) (H : Hp) (vs : List V) (Q : VK) (E : XK), Room k (A.deeper (envOfC x (defScope st) s.heap.objs.size f cdv)) → sp vs H Q E →
      ∃ t, PSs (cxOf CX0 P w K mg base N x (defScope st) f cdv A outer s H E).nox (defBody st) t ∧ t { nx := fun _ H' => Q .non H', rt := Q } (start N vs) H) : FnOk P w K mg base CX0 (k + 1) f fd ps sp := by
  obtain ⟨params, body, scope, d0, kws, rfl, rfl, rfl, F⟩ := D.F
  refine F.ok S len fun cdv A outer s H vs Q E hr h => ?_
  obtain ⟨t, ht, q⟩ := hbody cdv A outer s H vs Q E hr h
  exact ⟨t, ht.nox, q⟩
theorem KwAt.okX (D : KwAt K mg x st ps n ks dvs f fd) (S : FnScope N ps (defScope st)) (len : ∀ vs H Q E, sp vs H Q E → vs.length = ps.length)
    (hbody : ∀ (cdv : Value) (A : Around) (outer : List Env) (s : Shared) (H : Hp) (vs : List V) (Q : VK) (E : XK), Room k (A.deeper (envOfC x (defScope st) s.heap.objs.size f cdv)) → sp vs H Q E →
      ∃ t, PSs (cxOf (L2.CX P w) P w K mg base N x (defScope st) f cdv A outer s H E) (defBody st) t ∧ t { nx := fun _ H' => Q .non H', rt := Q } (start N vs) H) : FnOk P w K mg base (L2.CX P w) (k + 1) f fd ps sp := by
  obtain ⟨params, body, scope, d0, kws, rfl, rfl, rfl, F⟩ := D.F
  exact F.ok S len hbody
end
theorem inV_intsN {a : Nat} : ∀ {g : List Nat}, inV (.int (a : Int)) (intsN g) = decide (a ∈ g)
  | [] => by
    rw [decide_eq_false (List.not_mem_nil)]
    rfl
  | b :: g => by
    have ih := inV_intsN (a := a) (g := g)
    show inV (.int (a : Int)) (V.int (b : Int) :: intsN g) = _
    unfold inV at ih ⊢
    rw [List.any_cons, ih]
    have e0 : eqV (V.int (b : Int)) (V.int (a : Int)) = decide (b = a) := by
      show ((b : Int) == (a : Int)) = _
      rw [Bool.eq_iff_iff, beq_iff_eq, decide_eq_true_eq]
      exact Int.ofNat_inj
    rw [e0]
    by_cases e : b = a
    · subst e
      simp
    · simp [e, Ne.symm e]
theorem flat_intsN {g : List Nat} : (intsN g).all flatV = true := by
  unfold intsN
  rw [List.all_map, List.all_eq_true]
  exact fun _ _ => rfl
theorem intsN_snoc {g : List Nat} {a : Nat} : intsN (g ++ [a]) = intsN g ++ [V.int (a : Int)] := by
  unfold intsN
  rw [List.map_append]
  rfl
theorem intsN_len {g : List Nat} : (intsN g).length = g.length := List.length_map ..
end Ow

/-! Drawn nets. -/
namespace Ow
open PySem PySem.Spec PyProof.Rows L2
def symsE : List PyData := [.tuple [.str "fun", .str "n", .str "n"], .tuple [.str "call", .str "n", .str "n"], .tuple [.str "make", .str "s"], .tuple [.str "def", .str "f"], .tuple [.str "copy", .str "n"], .tuple [.str "part", .str "n", .str "n"], .tuple [.str "x"], .tuple [.str "choose", .int 0]]
def SymOk (d : PyData) : Prop := ∃ (s : Str) (ds : List PyData), d = .tuple (.str s :: ds) ∧ Fit 600 3 d
theorem fit_w {s : Str} (h : Nm s) : Fit 90 0 (.str s) := fit_nm h
theorem sym3 {s t u : Str} (hs : Nm s) (ht : Nm t) (hu : Nm u) : SymOk (.tuple [.str s, .str t, .str u]) :=
  ⟨s, _, rfl, (Fit.tup (FitAll.cons (fit_nm hs) (FitAll.cons (fit_nm ht) (FitAll.cons (fit_nm hu) (FitAll.nil (n := 0) (m := 0)))))).le (by omega) (by omega)⟩
theorem sym2 {s t : Str} (hs : Nm s) (ht : Nm t) : SymOk (.tuple [.str s, .str t]) :=
  ⟨s, _, rfl, (Fit.tup (FitAll.cons (fit_nm hs) (FitAll.cons (fit_nm ht) (FitAll.nil (n := 0) (m := 0))))).le (by omega) (by omega)⟩
theorem sym1 {s : Str} (hs : Nm s) : SymOk (.tuple [.str s]) :=
  ⟨s, _, rfl, (Fit.tup (FitAll.cons (fit_nm hs) (FitAll.nil (n := 0) (m := 0)))).le (by omega) (by omega)⟩
theorem sym2i {s : Str} {n : Nat} (hs : Nm s) (hn : n ≤ 1000000) : SymOk (.tuple [.str s, .int (n : Int)]) :=
  ⟨s, _, rfl, (Fit.tup (FitAll.cons (fit_nm hs) (FitAll.cons ((fit_nat n hn).le (Nat.le_refl _) (Nat.le_refl _)) (FitAll.nil (n := 0) (m := 0))))).le (by omega) (by omega)⟩
theorem symsE_ok : ∀ d ∈ symsE, SymOk d := by
  intro d hd
  simp only [symsE, List.mem_cons, List.not_mem_nil, or_false] at hd
  rcases hd with rfl | rfl | rfl | rfl | rfl | rfl | rfl | rfl
  · exact sym3 (by unfold Nm; decide) (by unfold Nm; decide) (by unfold Nm; decide)
  · exact sym3 (by unfold Nm; decide) (by unfold Nm; decide) (by unfold Nm; decide)
  · exact sym2 (by unfold Nm; decide) (by unfold Nm; decide)
  · exact sym2 (by unfold Nm; decide) (by unfold Nm; decide)
  · exact sym2 (by unfold Nm; decide) (by unfold Nm; decide)
  · exact sym3 (by unfold Nm; decide) (by unfold Nm; decide) (by unfold Nm; decide)
  · exact sym1 (by unfold Nm; decide)
  · exact sym2i (n := 0) (by unfold Nm; decide) (by omega)
theorem sym_out : SymOk (.tuple [.str "out", .str "n"]) := sym2 (by unfold Nm; decide) (by unfold Nm; decide)
/-- nets as the e-laws draw them -/
structure NetG (S : NetS) : Prop where
  sy : ∀ x ∈ S.rows, SymOk x.2.1
  ro : S.rows.length ≤ 10
  lo : ∀ x ∈ S.rows, x.2.2 ≤ 3
  nx : S.next = S.rows.length
  nd : (S.ends.map (·.1)).Nodup
section
variable {K : PySem.W.Frag} {C : Addr} {H H' : Hp} {n r e p c : Addr} {S : NetS} {z low : Nat} {sym : PyData} {x y : Pt}
theorem NetG.syOk (g : NetG S) : SyOk S := ⟨fun x hx => by
  obtain ⟨s, ds, e, f⟩ := g.sy x hx
  exact ⟨s, ds, e, f.le (by omega) (by omega)⟩, by have := g.ro; omega⟩
theorem NetG.fresh : NetG ⟨[], [], 0⟩ := ⟨fun x hx => (nomatch hx), by decide, fun x hx => (nomatch hx), rfl, List.nodup_nil⟩
theorem NetG.put (g : NetG S) (hs : SymOk sym) (hl : low ≤ 3) (h : S.rows.length < 10) : NetG (S.put sym low) := by
  refine ⟨fun x hx => ?_, ?_, fun x hx => ?_, ?_, g.nd⟩
  · rcases List.mem_append.mp hx with hx | hx
    · exact g.sy x hx
    · rw [List.mem_singleton.mp hx]
      exact hs
  · show (S.rows ++ [_]).length ≤ 10
    rw [List.length_append]
    exact h
  · rcases List.mem_append.mp hx with hx | hx
    · exact g.lo x hx
    · rw [List.mem_singleton.mp hx]
      exact hl
  · show S.next + 1 = (S.rows ++ [_]).length
    rw [List.length_append, g.nx]
    rfl
theorem lk_nkey {α β : Type} [DecidableEq α] {l : List (α × β)} {k : α} (h : lk l k = none) : k ∉ l.map (·.1) := fun m => by
  obtain ⟨y, hy, rfl⟩ := List.mem_map.mp m
  exact lk_none h y hy rfl
theorem NetG.tie (g : NetG S) (ne : x ≠ y) (hx : lk S.ends x = none) (hy : lk S.ends y = none) : NetG (S.tie x y) := by
  refine ⟨g.sy, g.ro, g.lo, g.nx, ?_⟩
  show ((S.ends ++ [(x, y), (y, x)]).map (·.1)).Nodup
  rw [List.map_append, List.nodup_append]
  refine ⟨g.nd, by simpa using ne, fun a ha b hb => ?_⟩
  rintro rfl
  simp only [List.map_cons, List.map_nil, List.mem_cons, List.not_mem_nil, or_false] at hb
  rcases hb with rfl | rfl
  · exact lk_nkey hx ha
  · exact lk_nkey hy ha
theorem PenE.net (h : PenE H p c z) (hN : NetAt K C H n r e S) (k : Kx [n, r, e] H H') : PenE H' p c z := by
  obtain ⟨⟨i, h1⟩, cs, h2, hl⟩ := h
  obtain ⟨⟨dx, g1⟩, ⟨kvs, g2, _⟩, ⟨ks, g3, _⟩, _⟩ := hN
  have out : ∀ (a : Addr) (xs : List V), H a = some (.lst xs) → a ∉ [n, r, e] := fun a xs ha hm => by
    simp only [List.mem_cons, List.not_mem_nil, or_false] at hm
    rcases hm with rfl | rfl | rfl
    · exact ne_of ha g1 (fun z => nomatch z) rfl
    · exact ne_of ha g2 (fun z => nomatch z) rfl
    · exact ne_of ha g3 (fun z => nomatch z) rfl
  exact ⟨⟨i, k _ _ h1 (out _ _ h1)⟩, cs, k _ _ h2 (out _ _ h2), hl⟩
theorem NetAt.pen (hN : NetAt K C H n r e S) (h : PenE H p c z) (k : Kp p H H') : NetAt K C H' n r e S := by
  obtain ⟨⟨i, h1⟩, _⟩ := h
  exact hN.kp k ⟨_, h1⟩
/-- what is no place of the net or the pen, of lists -/
theorem NetAt.lst {a : Addr} {xs : List V} (hN : NetAt K C H n r e S) (ha : H a = some (.lst xs)) : a ∉ [n, r, e] := fun hm => by
  obtain ⟨⟨dx, g1⟩, ⟨kvs, g2, _⟩, ⟨ks, g3, _⟩, _⟩ := hN
  simp only [List.mem_cons, List.not_mem_nil, or_false] at hm
  rcases hm with rfl | rfl | rfl
  · exact ne_of ha g1 (fun z => nomatch z) rfl
  · exact ne_of ha g2 (fun z => nomatch z) rfl
  · exact ne_of ha g3 (fun z => nomatch z) rfl
theorem noTs_pen (hN : NetAt K C H n r e S) (h : PenE H p c z) : NoTs H [p, n, r, e] := fun a ha => by
  rcases List.mem_cons.mp ha with rfl | ha
  · exact h.noTup
  · exact hN.noTs a ha
end
/-- a tuple display, as data -/
theorem lit_step {K : PySem.W.Frag} {H : Hp} {p : Addr} {xs vs : List V} {ds es : List PyData} (acc : DaAll K All H vs es) (h : DaAll K All H xs ds) (hp : H p = none) : DaAll K All (upd H p (.tup xs)) (vs ++ [.ref p]) (es ++ [.tuple ds]) :=
  (acc.same (same_new hp)).append (.cons (.tup (SqT.of upd_same) (h.same (same_new hp))) .nil)
def spENet (K : PySem.W.Frag) (C : Addr) : Sp := fun vs H Q _ => ∃ (p c : Addr) (z : Nat), vs = [.ref p] ∧ PenE H p c z ∧ z + 100 < 400000000 ∧
  ∀ (n r e : Addr) (S : NetS) (z' : Nat) (H' : Hp), PenE H' p c z' → z' ≤ z + 30 → NetAt K C H' n r e S → NetG S → S.ends = [] → Q (.ref n) H'
/-- a list of untied ports -/
def Pts (H : Hp) (S : NetS) (vs : List V) (xs : List Pt) : Prop := AP (fun v x => (∃ q : Addr, v = .ref q ∧ H q = some (.tup (ptV x))) ∧ S.port x ∧ lk S.ends x = none) vs xs
def spEFree (K : PySem.W.Frag) (C : Addr) : Sp := fun vs H Q _ => ∃ (n r e : Addr) (S : NetS), vs = [.ref n] ∧ NetAt K C H n r e S ∧ NetG S ∧
  ∀ (t L1 L2 : Addr) (vs1 vs2 : List V) (xs1 xs2 : List Pt) (H' : Hp), H' t = some (.tup [.ref L1, .ref L2]) → H' L1 = some (.lst vs1) → H' L2 = some (.lst vs2) → Pts H' S vs1 xs1 → Pts H' S vs2 xs2 → vs1.length ≤ 40 → vs2.length ≤ 40 → Same H H' → H L1 = none → H L2 = none → Q (.ref t) H'
def spETie (K : PySem.W.Frag) (C : Addr) : Sp := fun vs H Q _ => ∃ (p c n r e : Addr) (S : NetS) (z : Nat), vs = [.ref p, .ref n] ∧ PenE H p c z ∧ z + 100 < 400000000 ∧ NetAt K C H n r e S ∧ NetG S ∧ S.ends.length ≤ 100 ∧
  ∀ (S' : NetS) (z' : Nat) (H' : Hp), PenE H' p c z' → z' ≤ z + 3 → NetAt K C H' n r e S' → NetG S' → S'.ends.length ≤ S.ends.length + 2 → Q .non H'
def spEDue (K : PySem.W.Frag) (C : Addr) : Sp := fun vs H Q _ => ∃ (n r e q : Addr) (S : NetS) (x : Pt) (f : List Nat) (w : Str), vs = [.ref n, .ref q] ∧ H q = some (.tup (ptV x)) ∧ NetAt K C H n r e S ∧ SyOk S ∧ S.port x ∧ WkN S [] (lk S.ends x) (f, w) ∧
  ∀ (H' : Hp) (t L : Addr), H' t = some (.tup [.ref L, .str w]) → H' L = some (.lst (intsN f)) → Same H H' → H L = none → Q (.ref t) H'
section
variable {H H' : Hp} {S : NetS} {vs us : List V} {xs ys : List Pt} {L q : Addr} {x : Pt}
theorem ap_snoc {α : Type} {R : V → α → Prop} {v : V} {a : α} : ∀ {vs : List V} {xs : List α}, AP R vs xs → R v a → AP R (vs ++ [v]) (xs ++ [a])
  | _, _, .nil, h => .cons h .nil
  | _, _, .cons g t, h => .cons g (ap_snoc t h)
theorem ap_app {α : Type} {R : V → α → Prop} : ∀ {vs us : List V} {xs ys : List α}, AP R vs xs → AP R us ys → AP R (vs ++ us) (xs ++ ys)
  | _, _, _, _, .nil, h => h
  | _, _, _, _, .cons g t, h => .cons g (ap_app t h)
theorem ap_imp {α : Type} {R T : V → α → Prop} (k : ∀ v a, R v a → T v a) : ∀ {vs : List V} {xs : List α}, AP R vs xs → AP T vs xs
  | _, _, .nil => .nil
  | _, _, .cons g t => .cons (k _ _ g) (ap_imp k t)
theorem Pts.same (h : Pts H S vs xs) (s : Same H H') : Pts H' S vs xs := ap_imp (fun _ _ ⟨⟨q, e, g⟩, r⟩ => ⟨⟨q, e, s _ _ g⟩, r⟩) h
theorem Pts.put {u u' : List V} (h : Pts H S vs xs) (hL : H L = some (.lst u)) : Pts (upd H L (.lst u')) S vs xs :=
  ap_imp (fun _ _ ⟨⟨q, e, g⟩, r⟩ => ⟨⟨q, e, by rw [upd_ne (ne_of g hL (fun z => nomatch z))]; exact g⟩, r⟩) h
theorem Pts.kx {L : List Addr} (h : Pts H S vs xs) (k : Kx L H H') (n : NoTs H L) : Pts H' S vs xs :=
  ap_imp (fun _ _ ⟨⟨q, e, g⟩, r⟩ => ⟨⟨q, e, tup_kx k n g⟩, r⟩) h
theorem Pts.snoc (h : Pts H S vs xs) (hq : H q = some (.tup (ptV x))) (hp : S.port x) (hl : lk S.ends x = none) : Pts H S (vs ++ [.ref q]) (xs ++ [x]) := ap_snoc h ⟨⟨q, rfl, hq⟩, hp, hl⟩
theorem Pts.app (h : Pts H S vs xs) (g : Pts H S us ys) : Pts H S (vs ++ us) (xs ++ ys) := ap_app h g
theorem Pts.at (h : Pts H S vs xs) : ∀ {i : Nat}, i < vs.length → ∃ (q : Addr) (x : Pt), vs[i]? = some (.ref q) ∧ H q = some (.tup (ptV x)) ∧ S.port x ∧ lk S.ends x = none := by
  induction h with
  | nil => exact fun h => absurd h (Nat.not_lt_zero _)
  | cons g t ih =>
    intro i hi
    obtain ⟨⟨q, rfl, e⟩, r⟩ := g
    cases i with
    | zero => exact ⟨q, _, rfl, e, r⟩
    | succ i => exact ih (Nat.lt_of_succ_lt_succ hi)
theorem Pts.da {K : PySem.W.Frag} {N : Addr → Prop} (h : Pts H S vs xs) : DaAll K N H vs (xs.map ptD) := by
  induction h with
  | nil => exact .nil
  | cons g t ih =>
    obtain ⟨⟨q, rfl, e⟩, r⟩ := g
    exact .cons (pt_da e) ih
end
theorem shaped_ptsAll : ∀ xs : List Pt, PyData.canLayAll0 (xs.map ptD) = true ∧ PyData.depthAll (xs.map ptD) ≤ 2
  | [] => by simp [PyData.canLayAll0, PyData.depthAll]
  | x :: xs => by
    obtain ⟨h1, h2⟩ := shaped_ptsAll xs
    refine ⟨?_, ?_⟩
    · simp only [List.map_cons, PyData.canLayAll0, PyData.canLay0, ptD, Bool.and_true, Bool.true_and]
      exact h1
    · have e1 : PyData.depth (ptD x) = 1 := by simp [ptD, PyData.depth, PyData.depthAll]
      rw [List.map_cons, PyData.depthAll, e1]
      omega
theorem shaped_pts (xs : List Pt) : SeqAt.shaped (.list (xs.map ptD)) = true := by
  obtain ⟨h1, h2⟩ := shaped_ptsAll xs
  have h3 : (PyData.list (xs.map ptD)).depth ≤ 64 := by
    simp only [PyData.depth]
    omega
  unfold SeqAt.shaped
  rw [decide_eq_true h3, Bool.and_true]
  simp only [PyData.canLay0]
  exact h1
theorem Pts.dp {K : PySem.W.Frag} {H : Hp} {S : NetS} {vs : List V} {xs : List Pt} {L : Addr} (h : Pts H S vs xs) (hL : H L = some (.lst vs)) : Dp K H (.ref L) (.list (xs.map ptD)) := by
  refine .lst (SqL.of hL) ?_
  clear hL
  induction h with
  | nil => exact .nil
  | cons g t ih =>
    obtain ⟨⟨q, rfl, e⟩, r⟩ := g
    exact .cons (pt_dp e) ih
theorem pts_eqv_nil (xs : List Pt) : PyData.eqv (.list (xs.map ptD)) (.list []) = decide (xs = []) := by
  cases xs with
  | nil => rfl
  | cons x xs => rfl
end Ow

/-! A call with keywords within a try. -/
namespace Ow
open PySem PySem.Spec PyProof.Rows L2
/-- a def's call, bound in whatever way, where what it lets out may speak of the slots -/
theorem call_bound {X : Cx} {CX : CXT} {k : Nat} {f : Addr} {fd : FuncData} {ps : List Str} {sp : Sp} {pins : List (Addr × Obj)} {σ : L2.St} {H : Hp} {s : Shared} {Q : VK} {E : XK} {us all : List Value} {kz : List (Str × Value)} {vs : List V}
    (F : FnOk X.prog X.w X.K X.mg X.base CX k f fd ps sp) (room : Room k X.A) (out : PassesAt CX X σ E) (I : Inv X pins σ H s) (bd : BindsTo s fd ⟨us, kz⟩ (ps.zip all)) (rv : Vals vs all) (want : sp vs H Q E) :
    wpAny (model X.prog X.w) X.A (call (.ref f) us kz) (EP X pins σ Q) X.xe s :=
  wpAny_call (codeAny_mono (F.run X.A X.stack s H ⟨us, kz⟩ all vs Q E room I.env0 bd rv want) fun
    | .error _, _, hq => out pins H s _ _ I hq
    | .ok (.ret _), _, hq => I.after hq
    | .ok .next, _, hq => hq.elim
    | .ok .brk, _, hq => hq.elim
    | .ok .cont, _, hq => hq.elim)
/-- f(e, .., k = v, ..), f a def that may raise; where it does, W goes on from this state -/
def tCallNW (n m : Nat) (sp : Sp) (gV : List V → List V → List V) (W : WX) (t u : TA) : TE := fun σ H Q => t σ H fun vs H1 => u σ H1 fun zs H2 => vs.length = n ∧ zs.length = m ∧ sp (gV vs zs) H2 Q (WE W σ)
theorem pe_callNW {X : Cx} {W : WX} {k n : Nat} {f : Addr} {fd : FuncData} {ps ks : List Str} {sp : Sp} {x : Str} {px pos : Pos} {a : Expr} {as : List Expr} {kws : List Keyword} {t u : TA} {g : List Value → List Value → List Value} {gV : List V → List V → List V}
    (F : FnOk X.prog X.w X.K X.mg X.base (L2.CX X.prog X.w) k f fd ps sp) (room : Room k X.A) (hg : Gl X x) (hm : X.mg x = some (.ref f)) (kp : PySem.W.keepIn X.K (.ref f) = true) (bd : KBn X.K fd ps n ks g gV) (tw : Takes X W) (pa : PA X (a :: as) t) (pk : PK X kws u)
    (every : (backToKw pos (keywordEach kws X.env)).all (fun q => q.1.isSome) = true := by rfl)
    (named : (backToKw pos (keywordEach kws X.env)).filterMap (fun q => q.1) = ks := by rfl)
    (nodebug : (x == ("__debug__" : Str)) = false := by decide)
    (first : starEach (a :: as) X.env = (false, eval a X.env) :: starEach as X.env := by rfl)
    (plain : ((backTo pos (starEach (a :: as) X.env)).any (fun q => q.1) || (backToKw pos (keywordEach kws X.env)).any (fun q => q.1.isNone)) = false := by rfl) : PE X (.Call (.Name x px) (a :: as) kws pos) (tCallNW n ks.length sp gV W t u) := by
  constructor
  intro pins s σ H Q I want
  apply wpAny_Call_Name_kw
  refine ld_glob I hg hm (PySem.W.callWith_KW (h₀ := X.base) I.ok.mod.kin kp every (thn (pa.run pos pins s σ H _ I want) ?_) plain first) nodebug
  rintro us s1 ⟨vs, H1, I1, r1, q1⟩
  refine thn (pk.run pos pins s1 σ H1 _ I1 q1) ?_
  rintro ws s2 ⟨zs, H2, I2, r2, l1, l2, q2⟩
  refine ⟨I2.kIn, ?_⟩
  rw [show (backToKw pos (keywordEach kws X.env)).filterMap (·.1) = ks from named]
  exact call_bound F room (passAt tw σ) I2 (bd.to s2 us ws I2.kIn (r1.length.symm.trans l1) (r2.length.symm.trans l2)) (bd.rel r1 r2) q2
theorem call_lenM {X : Cx} {k j : Nat} {C : Addr} {sp : Sp} (M : MethOk X.prog X.w X.K X.mg X.base k C "__len__" ["self"] sp) (hr : Room j X.A) (hj : k + 1 ≤ j) : CallR X (.builtin "len") (rLenO C sp E0) := by
  obtain ⟨f, fd, hm, F, hb⟩ := M.ex
  exact call_lenO F hb pass0 hm.at_ hm.fn (hr.mono hj)
theorem intsN_map (g : List Nat) : intsN g = (g.map fun (a : Nat) => (a : Int)).map V.int := by
  unfold intsN
  rw [List.map_map]
  rfl
theorem isEmpty_intsN (g : List Nat) : (g.map fun (a : Nat) => (a : Int)).isEmpty = decide (g = []) := by
  cases g with
  | nil => rfl
  | cons a g => rfl
/-- where a way stands: an end, or none -/
def EndV (H : Hp) (v : V) (en : Option Pt) : Prop := (en = none ∧ v = .non) ∨ ∃ (y : Pt) (t : Addr), en = some y ∧ v = .ref t ∧ H t = some (.tup (ptV y))
theorem EndV.same {H H' : Hp} {v : V} {en : Option Pt} (h : EndV H v en) (s : Same H H') : EndV H' v en := by
  rcases h with h | ⟨y, t, a, b, g⟩
  · exact .inl h
  · exact .inr ⟨y, t, a, b, s _ _ g⟩
structure PTx (K : PySem.W.Frag) (cO cP : Addr) : Prop where
  oe : PySem.W.exmOne K (.ref cP) (.ref cO) = some true
  np : PySem.W.kitOne K (.ref cP) (.ref cP) = some true
  ve : PySem.W.kitOne K (.ref cP) (.type "ValueError") = some true
  ex : ExcC K cP
def spERef (K : PySem.W.Frag) (C : Addr) : Sp := fun vs H Q _ => ∃ (n r e : Addr) (S : NetS) (N : Addr → Prop) (v : V) (d : PyData), vs = [.ref n, v] ∧ v ≠ .non ∧ NetAt K C H n r e S ∧ Da K N H v d ∧ portD S d = false ∧ ∀ H', Same H H' → Q (.bl true) H'
end Ow

/-! What the law on ways needs. -/
namespace Ow
open PySem PySem.Spec PyProof.Rows L2
theorem fit_kv {n m k : Nat} {α : Type} {a b : α → PyData} : ∀ {xs : List α}, (∀ x ∈ xs, Fit n m (a x)) → (∀ x ∈ xs, Fit n m (b x)) → xs.length ≤ k → Fit (k * (2 * n + 4) + 4) (m + 1) (.dict (xs.map fun x => (a x, b x))) := by
  intro xs ha hb hl
  have main : ∀ {xs : List α}, (∀ x ∈ xs, Fit n m (a x)) → (∀ x ∈ xs, Fit n m (b x)) → PyData.showableKv (xs.map fun x => (a x, b x)) = true ∧ wtKv (xs.map fun x => (a x, b x)) ≤ xs.length * (2 * n + 4) ∧ PyData.depthKv (xs.map fun x => (a x, b x)) ≤ m := by
    intro xs
    induction xs with
    | nil => exact fun _ _ => ⟨by simp [PyData.showableKv], by simp [wtKv], by simp [PyData.depthKv]⟩
    | cons x xs ih =>
      intro ha hb
      obtain ⟨h1, h2, h3⟩ := ih (fun y hy => ha y (List.mem_cons_of_mem _ hy)) (fun y hy => hb y (List.mem_cons_of_mem _ hy))
      have fa := ha x (List.mem_cons_self ..)
      have fb := hb x (List.mem_cons_self ..)
      refine ⟨?_, ?_, ?_⟩
      · rw [List.map_cons, PyData.showableKv, fa.sh, fb.sh, h1]
        rfl
      · rw [List.map_cons, wtKv, List.length_cons, Nat.succ_mul]
        have := fa.wt
        have := fb.wt
        omega
      · rw [List.map_cons, PyData.depthKv]
        have := fa.dp
        have := fb.dp
        omega
  obtain ⟨h1, h2, h3⟩ := main ha hb
  have := Nat.mul_le_mul_right (2 * n + 4) hl
  refine ⟨by rw [PyData.showable]; exact h1, ?_, ?_⟩
  · rw [Ow.wt]
    omega
  · rw [PyData.depth]
    omega
theorem fit_rows {S : NetS} (g : NetG S) (ok : S.Ok) : Fit 20000 150 (rowsD S) := by
  have h1 : ∀ x ∈ S.rows, Fit 800 10 (PyData.int (x.1 : Int)) := fun x hx => (fit_nat x.1 (by have := ok.lt x hx; have := g.nx; have := g.ro; omega)).le (by omega) (by omega)
  have h2 : ∀ x ∈ S.rows, Fit 800 10 (PyData.tuple [x.2.1, .int (x.2.2 : Int)]) := fun x hx => by
    obtain ⟨s, ds, e, f⟩ := g.sy x hx
    have f2 := fit_nat x.2.2 (by have := g.lo x hx; omega)
    exact (Fit.tup (m := 3) (FitAll.cons f (FitAll.cons (f2.le (Nat.le_refl _) (Nat.zero_le _)) (FitAll.nil (n := 0))))).le (by omega) (by omega)
  exact (fit_kv (k := 10) h1 h2 g.ro).le (by decide) (by decide)
/-- a net and its copy -/
structure Cop (K : PySem.W.Frag) (C : Addr) (H : Hp) (n r e m r' e' : Addr) (S : NetS) (ks : List (List Key × V)) : Prop where
  N : NetAt K C H n r e S
  M : NetAt K C H m r' e' S
  e1 : H e = some (.dT ks)
  e2 : H e' = some (.dT ks)
  nd : (ks.map (·.1)).Nodup
  G : NetG S
  nm : m ∉ [n, r, e]
  nr : r' ∉ [n, r, e]
  ne : e' ∉ [n, r, e]
section
variable {K : PySem.W.Frag} {C : Addr} {H H' : Hp} {n r e m r' e' p c : Addr} {S : NetS} {ks : List (List Key × V)} {z : Nat}
theorem Cop.same (h : Cop K C H n r e m r' e' S ks) (s : Same H H') : Cop K C H' n r e m r' e' S ks :=
  ⟨h.N.same s, h.M.same s, s _ _ h.e1, s _ _ h.e2, h.nd, h.G, h.nm, h.nr, h.ne⟩
theorem ends_nd {H : Hp} {ks : List (List Key × V)} {ends : List (Pt × Pt)} (h : Paired (NEnd H) ks ends) (nd : (ends.map (·.1)).Nodup) : (ks.map (·.1)).Nodup := by
  have e : ks.map (·.1) = (ends.map (·.1)).map pk := by
    clear nd
    induction h with
    | nil => rfl
    | cons a t ih => rw [List.map_cons, List.map_cons, List.map_cons, ih, a.1]
  rw [e]
  exact List.Pairwise.map _ (fun a b h z => h (pk_inj z)) nd
end
/-- things that are no ports -/
def oddA : List PyData := [.int 0, .tuple [.int 0], .tuple [.int 99, .int 0], .tuple [.int 0, .int 99], .tuple [.int 0, .int (-1)], .list [.int 0, .int 0], .tuple [.bool true, .int 0], .tuple [.int 0, .bool true], .str "00", .tuple [.int 0, .int 0, .int 0], .dict [], .tuple [.none, .int 0]]
def oddB : List PyData := [.tuple [.list [.int 0], .int 0], .tuple [.dict [], .int 0], .tuple [.int 0, .list [.int 0]], .tuple [.int 0, .dict []]]
theorem odd_none {S : NetS} (g : NetG S) (ok : S.Ok) : lk S.rows 99 = none := by
  cases e : lk S.rows 99 with
  | none => rfl
  | some v =>
    have := ok.lt _ (lk_mem e)
    have h2 := g.nx
    have h3 := g.ro
    have : (99 : Nat) < S.next := this
    omega
theorem odd_port {S : NetS} (g : NetG S) (ok : S.Ok) : ∀ d ∈ oddA ++ oddB, portD S d = false := by
  intro d hd
  have h99 := odd_none g ok
  have h3 : ∀ v, lk S.rows 0 = some v → v.2 ≤ 3 := fun v hv => g.lo _ (lk_mem hv)
  simp only [oddA, oddB, List.cons_append, List.nil_append, List.mem_cons, List.not_mem_nil, or_false] at hd
  rcases hd with rfl | rfl | rfl | rfl | rfl | rfl | rfl | rfl | rfl | rfl | rfl | rfl | rfl | rfl | rfl | rfl
  · rfl
  · rfl
  · show (decide ((0 : Int) ≤ 99) && (match lk S.rows 99 with | some v => decide ((0 : Int) ≤ 0) && decide ((0 : Int) ≤ (v.2 : Int)) | none => false)) = false
    rw [h99]
    rfl
  · show (decide ((0 : Int) ≤ 0) && (match lk S.rows 0 with | some v => decide ((0 : Int) ≤ 99) && decide ((99 : Int) ≤ (v.2 : Int)) | none => false)) = false
    cases e : lk S.rows 0 with
    | none => rfl
    | some v =>
      have := h3 v e
      simp
      omega
  · show (decide ((0 : Int) ≤ 0) && (match lk S.rows 0 with | some v => decide ((0 : Int) ≤ -1) && decide ((-1 : Int) ≤ (v.2 : Int)) | none => false)) = false
    cases e : lk S.rows 0 with
    | none => rfl
    | some v => simp
  all_goals rfl
abbrev Nof : Addr → Prop := fun _ => False
theorem litC {K : PySem.W.Frag} {H : Hp} {vs : List V} {es : List PyData} {v : V} {d : PyData} (acc : DaAll K Nof H vs es) (h : Da K Nof H v d) : DaAll K Nof H (vs ++ [v]) (es ++ [d]) := acc.append (.cons h .nil)
theorem daL_tup {K : PySem.W.Frag} {H : Hp} {p : Addr} {xs : List V} {ds : List PyData} (h : DaAll K Nof H xs ds) (hp : H p = none) : Da K Nof (upd H p (.tup xs)) (.ref p) (.tuple ds) := .tup (SqT.of upd_same) (h.same (same_new hp))
theorem daL_lst {K : PySem.W.Frag} {H : Hp} {p : Addr} {xs : List V} {ds : List PyData} (h : DaAll K Nof H xs ds) (hp : H p = none) : Da K Nof (upd H p (.lst xs)) (.ref p) (.list ds) := .lst upd_same (fun z => z) (h.same (same_new hp))
theorem daL_dct {K : PySem.W.Frag} {H : Hp} {p : Addr} (hp : H p = none) : Da K Nof (upd H p (.dK [])) (.ref p) (.dict []) := .dct (kvs := []) (ds := []) upd_same (fun z => z) .nil
theorem fit_way {f : List Nat} {w : Str} (hf : ∀ a ∈ f, a ≤ 1000) (hl : f.length ≤ 1000) (hw : w = "open" ∨ w = "opens" ∨ w = "shown" ∨ w = "meets" ∨ w = "round") : Fit 200000 10 (.tuple [.list (f.map fun (a : Nat) => .int (a : Int)), .str w]) := by
  have hs : Fit 90 0 (.str w) := by
    rcases hw with rfl | rfl | rfl | rfl | rfl <;> exact fit_nm (by unfold Nm; decide)
  have h1 := fit_map (k := 1000) (f := fun (a : Nat) => PyData.int (a : Int)) (fun a ha => fit_nat a (by have := hf a ha; omega)) hl
  exact (Fit.tup (m := 1) (FitAll.cons (Fit.lst h1) (FitAll.cons (hs.le (Nat.le_refl _) (Nat.zero_le _)) (FitAll.nil (n := 0))))).le (by decide) (by decide)
theorem wk_res {S : NetS} (ok : S.Ok) {f0 : List Nat} {en : Option Pt} {r : List Nat × Str} (h : WkN S f0 en r) : f0.Nodup → (∀ a ∈ f0, isAgent S a) → (∀ y, en = some y → S.port y) →
    (∀ a ∈ r.1, isAgent S a) ∧ r.1.length ≤ S.rows.length + 1 ∧ (r.2 = ("open" : Str) ∨ r.2 = ("opens" : Str) ∨ r.2 = ("shown" : Str) ∨ r.2 = ("meets" : Str) ∨ r.2 = ("round" : Str)) := by
  induction h with
  | op => exact fun nd ag _ => ⟨ag, Nat.le_succ_of_le (agents_few nd ag), .inl rfl⟩
  | @head f a =>
    intro nd ag hy
    refine ⟨fun b hb => ?_, ?_, ?_⟩
    · rcases List.mem_append.mp hb with hb | hb
      · exact ag b hb
      · rw [List.mem_singleton.mp hb]
        exact (hy _ rfl).agent
    · show (f ++ [a]).length ≤ _
      rw [List.length_append]
      exact Nat.succ_le_succ (agents_few nd ag)
    · show (if headOf S a = ("def" : Str) then ("opens" : Str) else if f = [] then ("shown" : Str) else ("meets" : Str)) = _ ∨ _
      by_cases c : headOf S a = ("def" : Str)
      · rw [if_pos c]
        exact .inr (.inl rfl)
      · rw [if_neg c]
        by_cases e : f = []
        · rw [if_pos e]
          exact .inr (.inr (.inl rfl))
        · rw [if_neg e]
          exact .inr (.inr (.inr (.inl rfl)))
  | round h hp => exact fun nd ag _ => ⟨ag, Nat.le_succ_of_le (agents_few nd ag), .inr (.inr (.inr (.inr rfl)))⟩
  | @step f a p r h hp t ih =>
    intro nd ag hy
    refine ih (snoc_nodup nd h) (fun b hb => ?_) (fun y e => end_port ok e)
    rcases List.mem_append.mp hb with hb | hb
    · exact ag b hb
    · rw [List.mem_singleton.mp hb]
      exact (hy _ rfl).agent
theorem wk_fit {S : NetS} (g : NetG S) (ok : S.Ok) {x : Pt} (hx : S.port x) {f : List Nat} {w : Str} (h : WkN S [] (lk S.ends x) (f, w)) : Fit 200000 10 (.tuple [.list (f.map fun (a : Nat) => .int (a : Int)), .str w]) := by
  obtain ⟨h1, h2, h3⟩ := wk_res ok h List.nodup_nil (fun _ z => nomatch z) (fun y e => end_port ok e)
  have hr := g.ro
  have hn := g.nx
  refine fit_way (fun a ha => ?_) (Nat.le_trans h2 (by omega)) h3
  obtain ⟨v, e⟩ := h1 a ha
  have := ok.lt _ (lk_mem e)
  have : a < S.next := this
  omega
theorem wk_ex {S : NetS} (ok : S.Ok) (x : Pt) : ∃ f w, WkN S [] (lk S.ends x) (f, w) := by
  obtain ⟨⟨f, w⟩, h⟩ := wk_all ok S.rows.length [] (lk S.ends x) List.nodup_nil (fun _ z => nomatch z) (fun y e => end_port ok e) (by simp)
  exact ⟨f, w, h⟩
theorem way_da {K : PySem.W.Frag} {H : Hp} {t L : Addr} {f : List Nat} {w : Str} (h : H t = some (.tup [.ref L, .str w])) (hL : H L = some (.lst (intsN f))) : Da K Nof H (.ref t) (.tuple [.list (f.map fun (a : Nat) => .int (a : Int)), .str w]) := by
  refine .tup (SqT.of h) (.cons (.lst hL (fun z => z) ?_) (.cons (.str w) .nil))
  clear hL h
  induction f with
  | nil => exact .nil
  | cons a f ih => exact .cons (.int _) ih
theorem odd_some : ∀ d ∈ oddA ++ oddB, d ≠ .none := by
  intro d hd
  simp only [oddA, oddB, List.cons_append, List.nil_append, List.mem_cons, List.not_mem_nil, or_false] at hd
  rcases hd with rfl | rfl | rfl | rfl | rfl | rfl | rfl | rfl | rfl | rfl | rfl | rfl | rfl | rfl | rfl | rfl <;> exact fun z => nomatch z
end Ow

/-! Defs with defaults, as they stand behind the top. -/
namespace Ow
open PySem PySem.Spec PyProof.Rows L2
theorem funD_mk {K : PySem.W.Frag} {x qual : Str} {st : Stmt} {f : Addr} {oc dV kV dc pm cd ct : Value} {od an : Option Addr} {sl : Array (Option Value)} {dvs : List V} {kws : List (Str × V)} (l : K.lookup f = some ⟨oc, od, .func (PySem.W.fnOf x qual (defArgs st) (defBody st) (defScope st) dV kV dc pm an cd ct), sl⟩)
    (c : PySem.W.codeIn K cd qual = true) (k : PySem.W.keepIn K (.ref f) = true) (d : He.dflB K dV dvs = true) (w : He.kwdB K kV kws = true) : L2.FunD K x qual (defArgs st) (defBody st) (defScope st) dvs kws f (PySem.W.fnOf x qual (defArgs st) (defBody st) (defScope st) dV kV dc pm an cd ct) :=
  ⟨⟨oc, od, dV, kV, dc, pm, an, cd, ct, sl, rfl, l, c, He.dflB_ok d, He.kwdB_ok w⟩, k⟩
end Ow

/-! Worths that nets show. -/
namespace Ow
open PySem PySem.Spec PyProof.Rows L2
def noShow (S : NetS) (en : Option Pt) : Prop := ∀ b, en = some (b, 0) → headOf S b ≠ ("make" : Str) ∧ headOf S b ≠ ("pair" : Str)
mutual
/-- what is shown at an end; the agents that show it, each ahead of its parts -/
inductive Ws (S : NetS) : Option Pt → PyData → List (Option Nat) → Prop
  | cut {en : Option Pt} (h : noShow S en) : Ws S en .none [none]
  | mk {b low : Nat} {nm : Str} {r : List PyData} {ds : List PyData} {ps : List (Option Nat)} (hl : lk S.rows b = some (.tuple (.str ("make" : Str) :: .str nm :: r), low)) (hs : WsL S b 1 low ds ps) : Ws S (some (b, 0)) (.tuple [.str ("#" : Str), .str nm, .tuple ds]) (some b :: ps)
  | pr {b low : Nat} {r : List PyData} {ds : List PyData} {ps : List (Option Nat)} (hl : lk S.rows b = some (.tuple (.str ("pair" : Str) :: r), low)) (hs : WsL S b 1 low ds ps) : Ws S (some (b, 0)) (.tuple (.str ("&" : Str) :: ds)) (some b :: ps)
inductive WsL (S : NetS) : Nat → Nat → Nat → List PyData → List (Option Nat) → Prop
  | nil {b p : Nat} : WsL S b p 0 [] []
  | cons {b p n : Nat} {d : PyData} {ds : List PyData} {ps qs : List (Option Nat)} (h : Ws S (lk S.ends (b, p)) d ps) (t : WsL S b (p + 1) n ds qs) : WsL S b p (n + 1) (d :: ds) (ps ++ qs)
end
theorem WsL.snoc {S : NetS} {b : Nat} {d : PyData} {qs : List (Option Nat)} : ∀ {p n : Nat} {ds : List PyData} {ps : List (Option Nat)}, WsL S b p n ds ps → Ws S (lk S.ends (b, p + n)) d qs → WsL S b p (n + 1) (ds ++ [d]) (ps ++ qs)
  | p, _, _, _, .nil, h => by
    have := WsL.cons h WsL.nil
    rw [List.append_nil] at this
    exact this
  | p, _, _, _, .cons (n := n) g t, h => by
    rw [List.append_assoc]
    exact .cons g (WsL.snoc t (by rw [show p + 1 + n = p + (n + 1) by omega]; exact h))
theorem WsL.len {S : NetS} {b : Nat} : ∀ {p n : Nat} {ds : List PyData} {ps : List (Option Nat)}, WsL S b p n ds ps → ds.length = n
  | _, _, _, _, .nil => rfl
  | _, _, _, _, .cons _ t => congrArg Nat.succ t.len
theorem Ws.ne {S : NetS} {en : Option Pt} {d : PyData} {ps : List (Option Nat)} (h : Ws S en d ps) : 1 ≤ ps.length := by
  cases h <;> simp
/-! ### read back with a stack -/
def worthOf : PyData → List PyData → Option PyData
  | .tuple (.str s :: r), ds => if s = ("make" : Str) then (match r with | .str nm :: _ => some (.tuple [.str ("#" : Str), .str nm, .tuple ds]) | _ => none) else if s = ("pair" : Str) then some (.tuple (.str ("&" : Str) :: ds)) else none
  | _, _ => none
theorem worth_mk {nm : Str} {r ds : List PyData} : worthOf (.tuple (.str ("make" : Str) :: .str nm :: r)) ds = some (.tuple [.str ("#" : Str), .str nm, .tuple ds]) := by
  simp only [worthOf, if_true]
theorem worth_pr {r ds : List PyData} : worthOf (.tuple (.str ("pair" : Str) :: r)) ds = some (.tuple (.str ("&" : Str) :: ds)) := by
  have h : ¬ ("pair" : Str) = ("make" : Str) := by decide
  simp only [worthOf, if_true, if_neg h]
def stp (S : NetS) (st : List PyData) : Option Nat → Option (List PyData)
  | none => some (.none :: st)
  | some b => match lk S.rows b with
    | some (sym, low) => if low ≤ st.length then (worthOf sym (st.take low)).map (· :: st.drop low) else none
    | none => none
def runS (S : NetS) : List (Option Nat) → List PyData → Option (List PyData)
  | [], st => some st
  | a :: l, st => (stp S st a).bind (runS S l)
theorem runS_app {S : NetS} : ∀ (a b : List (Option Nat)) (st : List PyData), runS S (a ++ b) st = (runS S a st).bind (runS S b)
  | [], b, st => rfl
  | x :: a, b, st => by
    show (stp S st x).bind (runS S (a ++ b)) = ((stp S st x).bind (runS S a)).bind (runS S b)
    cases stp S st x with
    | none => rfl
    | some st' => exact runS_app a b st'
theorem stp_at {S : NetS} {b low : Nat} {sym d : PyData} {ds st : List PyData} (hl : lk S.rows b = some (sym, low)) (hd : ds.length = low) (hw : worthOf sym ds = some d) : stp S (ds ++ st) (some b) = some (d :: st) := by
  unfold stp
  simp only [hl]
  rw [if_pos (by rw [List.length_append]; omega), List.take_left' hd, List.drop_left' hd, hw]
  rfl
mutual
theorem Ws.run {S : NetS} : ∀ {en : Option Pt} {d : PyData} {ps : List (Option Nat)}, Ws S en d ps → ∀ st, runS S ps.reverse st = some (d :: st)
  | _, _, _, .cut _, st => rfl
  | _, _, _, .mk (ds := ds) (ps := ps) hl hs, st => by
    rw [List.reverse_cons, runS_app, WsL.run hs st]
    show (stp S (ds ++ st) _).bind (runS S []) = _
    rw [stp_at hl hs.len worth_mk]
    rfl
  | _, _, _, .pr (ds := ds) (ps := ps) hl hs, st => by
    rw [List.reverse_cons, runS_app, WsL.run hs st]
    show (stp S (ds ++ st) _).bind (runS S []) = _
    rw [stp_at hl hs.len worth_pr]
    rfl
theorem WsL.run {S : NetS} : ∀ {b p n : Nat} {ds : List PyData} {ps : List (Option Nat)}, WsL S b p n ds ps → ∀ st, runS S ps.reverse st = some (ds ++ st)
  | _, _, _, _, _, .nil, st => rfl
  | _, _, _, _, _, .cons (d := d) (ds := ds) h t, st => by
    rw [List.reverse_append, runS_app, WsL.run t st]
    exact Ws.run h (ds ++ st)
end
/-! ### a net that has grown, at these ports alone -/
structure Ext (S S' : NetS) (X : Pt → Prop) : Prop where
  rows : ∀ b v, lk S.rows b = some v → lk S'.rows b = some v
  ends : ∀ y, S.port y → ¬ X y → lk S'.ends y = lk S.ends y
  tied : ∀ y z, lk S.ends y = some z → lk S'.ends y = some z
  next : S.next ≤ S'.next
section
variable {S S' S2 : NetS} {X Y : Pt → Prop} {x y : Pt} {sym : PyData} {low : Nat}
theorem Ext.refl : Ext S S X := ⟨fun _ _ h => h, fun _ _ _ => rfl, fun _ _ h => h, Nat.le_refl _⟩
theorem Ext.port (e : Ext S S' X) (h : S.port y) : S'.port y := by
  obtain ⟨s, l, h1, h2⟩ := h
  exact ⟨s, l, e.rows _ _ h1, h2⟩
theorem Ext.trans (a : Ext S S' X) (b : Ext S' S2 Y) (h : ∀ y, S.port y → Y y → X y) : Ext S S2 X :=
  ⟨fun c v e => b.rows c v (a.rows c v e), fun y p n => (b.ends y (a.port p) fun z => n (h y p z)).trans (a.ends y p n), fun y z e => b.tied y z (a.tied y z e), Nat.le_trans a.next b.next⟩
theorem Ext.mono (a : Ext S S' X) (h : ∀ y, X y → Y y) : Ext S S' Y := ⟨a.rows, fun y p n => a.ends y p fun z => n (h y z), a.tied, a.next⟩
theorem Ext.put : Ext S (S.put sym low) X := ⟨fun b v e => by unfold NetS.put; rw [lk_app, e], fun _ _ _ => rfl, fun _ _ h => h, Nat.le_succ _⟩
theorem lk_tie (hx : lk S.ends x = none) (hy : lk S.ends y = none) (z : Pt) : lk (S.tie x y).ends z = if z = x then some y else if z = y then some x else lk S.ends z := by
  show lk (S.ends ++ [(x, y), (y, x)]) z = _
  rw [lk_app]
  by_cases e1 : z = x
  · subst e1
    rw [if_pos rfl, hx]
    exact lk_pos rfl
  · rw [if_neg e1]
    by_cases e2 : z = y
    · subst e2
      rw [if_pos rfl, hy]
      show lk [(x, z), (z, x)] z = _
      rw [lk_neg (fun q => e1 q.symm), lk_pos rfl]
    · rw [if_neg e2]
      cases lk S.ends z with
      | some v => rfl
      | none =>
        show lk [(x, y), (y, x)] z = _
        rw [lk_neg (fun q => e1 q.symm), lk_neg (fun q => e2 q.symm)]
        rfl
theorem Ext.tie (hx : lk S.ends x = none) (hy : lk S.ends y = none) (h1 : X x) (h2 : X y) : Ext S (S.tie x y) X :=
  ⟨fun _ _ e => e, fun z _ n => by rw [lk_tie hx hy, if_neg (fun q : z = x => n (by rw [q]; exact h1)), if_neg (fun q : z = y => n (by rw [q]; exact h2))], fun z v e => by
    rw [lk_tie hx hy, if_neg (fun q : z = x => by rw [q, hx] at e; cases e), if_neg (fun q : z = y => by rw [q, hy] at e; cases e)]
    exact e, Nat.le_refl _⟩
theorem headOf_ext (e : Ext S S' X) {b : Nat} (h : isAgent S b) : headOf S' b = headOf S b := by
  obtain ⟨v, h⟩ := h
  unfold headOf
  rw [h, e.rows _ _ h]
mutual
theorem Ws.ext (e : Ext S S' X) (ok : S.Ok) : ∀ {en : Option Pt} {d : PyData} {ps : List (Option Nat)}, Ws S en d ps → (∀ y, en = some y → S.port y) → (∀ c, some c ∈ ps → ∀ p, ¬ X (c, p)) → Ws S' en d ps
  | _, _, _, .cut h, hp, _ => .cut fun b hb => by
    rw [headOf_ext e (hp _ hb).agent]
    exact h b hb
  | _, _, _, .mk hl hs, hp, hn => .mk (e.rows _ _ hl) (WsL.ext e ok hs (fun q h1 h2 => ⟨_, _, hl, by show q ≤ _; omega⟩) (fun q _ _ => hn _ (List.mem_cons_self ..) q) fun c hc => hn c (List.mem_cons_of_mem _ hc))
  | _, _, _, .pr hl hs, hp, hn => .pr (e.rows _ _ hl) (WsL.ext e ok hs (fun q h1 h2 => ⟨_, _, hl, by show q ≤ _; omega⟩) (fun q _ _ => hn _ (List.mem_cons_self ..) q) fun c hc => hn c (List.mem_cons_of_mem _ hc))
theorem WsL.ext (e : Ext S S' X) (ok : S.Ok) : ∀ {b p n : Nat} {ds : List PyData} {ps : List (Option Nat)}, WsL S b p n ds ps → (∀ q, p ≤ q → q < p + n → S.port (b, q)) → (∀ q, p ≤ q → q < p + n → ¬ X (b, q)) → (∀ c, some c ∈ ps → ∀ p, ¬ X (c, p)) → WsL S' b p n ds ps
  | _, _, _, _, _, .nil, _, _, _ => .nil
  | b, p, _, _, _, .cons (n := n) h t, hp, hb, hn => by
    have e1 := e.ends (b, p) (hp p (Nat.le_refl _) (by omega)) (hb p (Nat.le_refl _) (by omega))
    refine .cons ?_ (WsL.ext e ok t (fun q h1 h2 => hp q (by omega) (by omega)) (fun q h1 h2 => hb q (by omega) (by omega)) fun c hc => hn c (List.mem_append.mpr (.inr hc)))
    rw [e1]
    exact Ws.ext e ok h (fun y z => end_port ok z) fun c hc => hn c (List.mem_append.mpr (.inl hc))
end
end
end Ow

/-! Worths shown: what the readers promise. -/
namespace Ow
open PySem PySem.Spec PyProof.Rows L2
def optV : Option Nat → V
  | none => .non
  | some b => .int (b : Int)
def spShower (K : PySem.W.Frag) (C : Addr) : Sp := fun vs H Q _ => ∃ (n r e : Addr) (S : NetS) (v : V) (en : Option Pt), vs = [.ref n, v] ∧ NetAt K C H n r e S ∧ SyOk S ∧ EndV H v en ∧ (∀ y, en = some y → S.port y) ∧
  (noShow S en → Q .non H) ∧ (∀ b, en = some (b, 0) → headOf S b = ("make" : Str) ∨ headOf S b = ("pair" : Str) → Q (.int (b : Int)) H)
def spAgents (K : PySem.W.Frag) (C : Addr) : Sp := fun vs H Q _ => ∃ (n r e : Addr) (S : NetS) (o : Nat) (d : PyData) (ps : List (Option Nat)), vs = [.ref n] ∧ NetAt K C H n r e S ∧ SyOk S ∧ outsN S = [o] ∧ Ws S (lk S.ends (o, 0)) d ps ∧ ps.length ≤ 100000 ∧
  ∀ (L : Addr) (H' : Hp), H' L = some (.lst (ps.map optV)) → Same H H' → H L = none → Q (.ref L) H'
def spShownN (K : PySem.W.Frag) (C : Addr) : Sp := fun vs H Q _ => ∃ (n r e : Addr) (S : NetS) (o : Nat) (d : PyData) (ps : List (Option Nat)), vs = [.ref n] ∧ NetAt K C H n r e S ∧ SyOk S ∧ outsN S = [o] ∧ Ws S (lk S.ends (o, 0)) d ps ∧ ps.length ≤ 100000 ∧
  ∀ (v : V) (H' : Hp), Da K All H' v d → Same H H' → Q v H'
def Shs (K : PySem.W.Frag) (mg : Str → Option Value) : Prop := ∃ t : Addr, GV mg "SHOWERS" (.ref t) ∧ ∀ H, SqT K H t [.str "make", .str "pair"]
/-- the ends that wait, the last one ahead; what will be told of them -/
inductive Wt (S : NetS) : List (Option Pt) → List (Option Nat) → Prop
  | nil : Wt S [] []
  | cons {en : Option Pt} {d : PyData} {ps qs : List (Option Nat)} {es : List (Option Pt)} (h : Ws S en d ps) (hp : ∀ y, en = some y → S.port y) (t : Wt S es qs) : Wt S (en :: es) (ps ++ qs)
theorem Wt.len {S : NetS} : ∀ {es : List (Option Pt)} {qs : List (Option Nat)}, Wt S es qs → es.length ≤ qs.length
  | _, _, .nil => Nat.le_refl _
  | _, _, .cons h _ t => by
    rw [List.length_cons, List.length_append]
    have := h.ne
    have := t.len
    omega
theorem Wt.of {S : NetS} (ok : S.Ok) {b : Nat} : ∀ {p n : Nat} {ds : List PyData} {ps qs : List (Option Nat)} {es : List (Option Pt)}, WsL S b p n ds ps → Wt S es qs → Wt S ((List.range n).map (fun j => lk S.ends (b, p + j)) ++ es) (ps ++ qs)
  | _, _, _, _, _, _, .nil, t => t
  | p, _, _, _, _, _, .cons (n := n) h w, t => by
    have ih := Wt.of ok w t
    rw [List.range_succ_eq_map, List.map_cons, List.map_map, List.append_assoc]
    have e : ((fun j => lk S.ends (b, p + j)) ∘ Nat.succ) = fun j => lk S.ends (b, p + 1 + j) := by
      funext j
      show lk S.ends (b, p + (j + 1)) = _
      rw [show p + (j + 1) = p + 1 + j by omega]
    rw [e]
    exact .cons h (fun y z => end_port ok z) ih
theorem Ws.show {S : NetS} {b : Nat} {d : PyData} {ps : List (Option Nat)} (h : Ws S (some (b, 0)) d (some b :: ps)) : ∃ (low : Nat) (sym : PyData) (ds : List PyData), lk S.rows b = some (sym, low) ∧ WsL S b 1 low ds ps ∧ (headOf S b = ("make" : Str) ∨ headOf S b = ("pair" : Str)) := by
  cases h with
  | mk hl hs => exact ⟨_, _, _, hl, hs, .inl (by unfold headOf; rw [hl]; rfl)⟩
  | pr hl hs => exact ⟨_, _, _, hl, hs, .inr (by unfold headOf; rw [hl]; rfl)⟩
theorem pe_bm0K {X : Cx} {K : PySem.W.Frag} (h : X.K = K) {o : Expr} {to : TE} {name : Str} {apos cpos : Pos} {T id : String} {r : V → List V → Hp → VK → Prop} (pa : PlainAttrs T) (slot : Slot T name id) (hty : typeOf (.builtin id) = pure (.type "method_descriptor")) (hm : MtR X id r) (ho : PE X o to)
    (late : attributeBase o name X.env (eval o X.env) = eval o X.env := by rfl) (one : (apos.endLine == cpos.line) = true := by rfl) : PE X (.Call (.Attribute o name apos) [] [] cpos) (tBM0 K T r to) := h ▸ pe_bm0 pa slot hty hm ho late one
theorem EndV.put {H : Hp} {v : V} {en : Option Pt} {L : Addr} {u u' : List V} (h : EndV H v en) (hL : H L = some (.lst u)) : EndV (upd H L (.lst u')) v en := by
  rcases h with h | ⟨y, t, a, b, g⟩
  · exact .inl h
  · exact .inr ⟨y, t, a, b, by rw [upd_ne (ne_of g hL (fun z => nomatch z))]; exact g⟩
abbrev EVs (H : Hp) (vs : List V) (es : List (Option Pt)) : Prop := AP (EndV H) vs es
theorem EVs.same {H H' : Hp} {vs : List V} {es : List (Option Pt)} (h : EVs H vs es) (s : Same H H') : EVs H' vs es := ap_imp (fun _ _ g => g.same s) h
theorem EVs.put {H : Hp} {vs : List V} {es : List (Option Pt)} {L : Addr} {u u' : List V} (h : EVs H vs es) (hL : H L = some (.lst u)) : EVs (upd H L (.lst u')) vs es := ap_imp (fun _ _ g => g.put hL) h
theorem ap_rev {α : Type} {R : V → α → Prop} : ∀ {vs : List V} {xs : List α}, AP R vs xs → AP R vs.reverse xs.reverse
  | _, _, .nil => .nil
  | _, _, .cons g t => by
    rw [List.reverse_cons, List.reverse_cons]
    exact ap_snoc (ap_rev t) g
theorem last_snoc {ws : List V} {y : V} : (ws ++ [y])[(ws ++ [y]).length - 1]? = some y := by
  rw [List.length_append, List.length_singleton, Nat.add_sub_cancel, List.getElem?_append_right (Nat.le_refl _), Nat.sub_self]
  rfl
theorem isEmpty_snoc {ws : List V} {y : V} : (!(ws ++ [y]).isEmpty) = true := by
  cases ws <;> rfl
theorem stp_inv {S : NetS} {st st' : List PyData} {b : Nat} (h : stp S st (some b) = some st') : ∃ (sym : PyData) (low : Nat) (d : PyData), lk S.rows b = some (sym, low) ∧ low ≤ st.length ∧ worthOf sym (st.take low) = some d ∧ st' = d :: st.drop low := by
  unfold stp at h
  cases e : lk S.rows b with
  | none =>
    simp only [e] at h
    cases h
  | some v =>
    obtain ⟨sym, low⟩ := v
    simp only [e] at h
    by_cases c : low ≤ st.length
    · rw [if_pos c] at h
      cases w : worthOf sym (st.take low) with
      | none =>
        rw [w] at h
        cases h
      | some d =>
        rw [w] at h
        cases h
        exact ⟨sym, low, d, rfl, c, w, rfl⟩
    · rw [if_neg c] at h
      cases h
theorem worth_inv {sym d : PyData} {ds : List PyData} (h : worthOf sym ds = some d) : (∃ nm r, sym = .tuple (.str ("make" : Str) :: .str nm :: r) ∧ d = .tuple [.str ("#" : Str), .str nm, .tuple ds]) ∨ ∃ r, sym = .tuple (.str ("pair" : Str) :: r) ∧ d = .tuple (.str ("&" : Str) :: ds) := by
  unfold worthOf at h
  split at h
  · rename_i s r
    by_cases c : s = ("make" : Str)
    · rw [if_pos c] at h
      subst c
      split at h
      · cases h
        exact .inl ⟨_, _, rfl, rfl⟩
      · cases h
    · rw [if_neg c] at h
      by_cases c2 : s = ("pair" : Str)
      · rw [if_pos c2] at h
        cases h
        subst c2
        exact .inr ⟨_, rfl, rfl⟩
      · rw [if_neg c2] at h
        cases h
  · cases h
theorem runS_step {S : NetS} {l : List (Option Nat)} {i : Nat} {a : Option Nat} {st : List PyData} {fin : List PyData} (hi : l[i]? = some a) (h : runS S l [] = some fin) (hs : runS S (l.take i) [] = some st) : ∃ st', stp S st a = some st' ∧ runS S (l.take (i + 1)) [] = some st' := by
  obtain ⟨hlt, rfl⟩ := List.getElem?_eq_some_iff.mp hi
  have e1 : l = l.take i ++ (l[i] :: l.drop (i + 1)) := by rw [List.getElem_cons_drop, List.take_append_drop]
  rw [e1, runS_app, hs] at h
  have h : (stp S st l[i]).bind (runS S (l.drop (i + 1))) = some fin := h
  cases e : stp S st l[i] with
  | none =>
    rw [e] at h
    cases h
  | some st' =>
    refine ⟨st', rfl, ?_⟩
    rw [List.take_add_one, hi, runS_app, hs]
    show (stp S st l[i]).bind (runS S []) = _
    rw [e]
    rfl
theorem noTs1 {H : Hp} {L : Addr} {u : List V} (h : H L = some (.lst u)) : NoTs H [L] := fun a ha => by
  rw [List.mem_singleton.mp ha]
  exact noTup_of h (fun _ z => nomatch z) (fun _ _ z => nomatch z)
theorem daAll_put {K : PySem.W.Frag} {H : Hp} {L : Addr} {u u' vs : List V} {ds : List PyData} (h : DaAll K All H vs ds) (hL : H L = some (.lst u)) : DaAll K All (upd H L (.lst u')) vs ds := DaAll.kx (L := [L]) (.put (List.mem_singleton.mpr rfl)) (noTs1 hL) h
theorem da_put1 {K : PySem.W.Frag} {H : Hp} {L : Addr} {u u' : List V} {v : V} {d : PyData} (h : Da K All H v d) (hL : H L = some (.lst u)) : Da K All (upd H L (.lst u')) v d := Da.kx (L := [L]) (.put (List.mem_singleton.mpr rfl)) (noTs1 hL) h
end Ow

/-! Nets of worths, as laws grow them. -/
namespace Ow
open PySem PySem.Spec PyProof.Rows L2
structure NetB (S : NetS) : Prop where
  sy : ∀ x ∈ S.rows, SymOk x.2.1
  lo : ∀ x ∈ S.rows, x.2.2 ≤ 4
  nx : S.next = S.rows.length
  nd : (S.ends.map (·.1)).Nodup
  el : S.ends.length ≤ 2 * S.rows.length
  sm : ∀ x y, lk S.ends x = some y → lk S.ends y = some x
def cntS : List (Option Nat) → Nat
  | [] => 0
  | none :: l => cntS l
  | some _ :: l => cntS l + 1
theorem cnt_app : ∀ (a b : List (Option Nat)), cntS (a ++ b) = cntS a + cntS b
  | [], b => by
    show cntS b = 0 + cntS b
    omega
  | none :: a, b => cnt_app a b
  | some _ :: a, b => by
    show cntS (a ++ b) + 1 = cntS a + 1 + cntS b
    rw [cnt_app a b]
    omega
section
variable {S S' : NetS} {sym : PyData} {low : Nat} {x y : Pt}
theorem NetB.syOk (g : NetB S) (h : S.rows.length ≤ 100000) : SyOk S := ⟨fun x hx => by
  obtain ⟨s, ds, e, f⟩ := g.sy x hx
  exact ⟨s, ds, e, f.le (by omega) (by omega)⟩, h⟩
theorem NetB.fresh : NetB ⟨[], [], 0⟩ := ⟨fun x hx => (nomatch hx), fun x hx => (nomatch hx), rfl, List.nodup_nil, Nat.le_refl _, fun x y h => nomatch h⟩
theorem NetB.put (g : NetB S) (hs : SymOk sym) (hl : low ≤ 4) : NetB (S.put sym low) := by
  refine ⟨fun x hx => ?_, fun x hx => ?_, ?_, g.nd, ?_, g.sm⟩
  · rcases List.mem_append.mp hx with hx | hx
    · exact g.sy x hx
    · rw [List.mem_singleton.mp hx]
      exact hs
  · rcases List.mem_append.mp hx with hx | hx
    · exact g.lo x hx
    · rw [List.mem_singleton.mp hx]
      exact hl
  · show S.next + 1 = (S.rows ++ [_]).length
    rw [List.length_append, g.nx]
    rfl
  · show S.ends.length ≤ 2 * (S.rows ++ [_]).length
    rw [List.length_append]
    have := g.el
    omega
theorem NetB.tie (g : NetB S) (ne : x ≠ y) (hx : lk S.ends x = none) (hy : lk S.ends y = none) (h : S.ends.length + 2 ≤ 2 * S.rows.length) : NetB (S.tie x y) := by
  refine ⟨g.sy, g.lo, g.nx, ?_, ?_, fun a b h => ?_⟩
  · show ((S.ends ++ [(x, y), (y, x)]).map (·.1)).Nodup
    rw [List.map_append, List.nodup_append]
    refine ⟨g.nd, by simpa using ne, fun a ha b hb => ?_⟩
    rintro rfl
    simp only [List.map_cons, List.map_nil, List.mem_cons, List.not_mem_nil, or_false] at hb
    rcases hb with rfl | rfl
    · exact lk_nkey hx ha
    · exact lk_nkey hy ha
  · show (S.ends ++ [_, _]).length ≤ _
    rw [List.length_append]
    exact h
  · rw [lk_tie hx hy] at h ⊢
    by_cases a1 : a = x
    · rw [if_pos a1] at h
      cases h
      rw [if_neg (fun z => ne z.symm), if_pos rfl, a1]
    · rw [if_neg a1] at h
      by_cases a2 : a = y
      · rw [if_pos a2] at h
        cases h
        rw [if_pos rfl, a2]
      · rw [if_neg a2] at h
        have hb := g.sm a b h
        have b1 : b ≠ x := fun z => by
          rw [z, hx] at hb
          cases hb
        have b2 : b ≠ y := fun z => by
          rw [z, hy] at hb
          cases hb
        rw [if_neg b1, if_neg b2]
        exact hb
theorem outs_put (hs : symH sym ≠ ("out" : Str)) : outsN (S.put sym low) = outsN S := by
  unfold outsN NetS.put
  rw [List.filter_append, List.map_append]
  simp [List.filter_cons, hs]
theorem new_free (ok : S.Ok) {p : Nat} : lk S.ends (S.next, p) = none := by
  cases e : lk S.ends (S.next, p) with
  | none => rfl
  | some z =>
    obtain ⟨s, l, h, _⟩ := (ok.ep _ (lk_mem e)).1
    rw [ok.new] at h
    cases h
theorem new_row (ok : S.Ok) : lk (S.put sym low).rows S.next = some (sym, low) := by
  show lk (S.rows ++ [(S.next, sym, low)]) S.next = _
  rw [lk_app, ok.new]
  exact lk_pos rfl
theorem new_ne (ok : S.Ok) (hx : S.port x) {p : Nat} : x ≠ (S.next, p) := by
  rintro rfl
  obtain ⟨s, l, h, _⟩ := hx
  rw [ok.new] at h
  cases h
end
def spEName : Sp := fun vs H Q _ => ∃ (p c : Addr) (z : Nat), vs = [.ref p] ∧ PenE H p c z ∧ z + 100 < 400000000 ∧ ∀ (x : Str) (z' : Nat) (H' : Hp), Nm x → PenE H' p c z' → z' ≤ z + 10 → Kp p H H' → Q (.str x) H'
def spEOther (K : PySem.W.Frag) (C : Addr) : Sp := fun vs H Q _ => ∃ (p c n r e : Addr) (S : NetS) (z : Nat), vs = [.ref p, .ref n] ∧ PenE H p c z ∧ z + 100 < 400000000 ∧ NetAt K C H n r e S ∧ NetB S ∧ S.rows.length ≤ 5000 ∧
  ∀ (t : Addr) (sym : PyData) (low pl z' : Nat) (H' : Hp), H' t = some (.tup (ptV (S.next, pl))) → SymOk sym → symH sym ≠ ("out" : Str) → low ≤ 2 → pl ≤ low → (pl = 0 → symH sym ≠ ("make" : Str) ∧ symH sym ≠ ("pair" : Str)) → PenE H' p c z' → z' ≤ z + 2 → NetAt K C H' n r e (S.put sym low) → Kx [p, n, r, e] H H' → Q (.ref t) H'
def Nr : Nat → Nat
  | 0 => 1
  | d + 1 => 1 + 4 * Nr d
def Zr : Nat → Nat
  | 0 => 20
  | d + 1 => 20 + 4 * Zr d
def Fr : Nat → Nat
  | 0 => 1000
  | d + 1 => 1000 + 4 * (Fr d + 2)
theorem nr_le : ∀ {d : Nat}, d ≤ 5 → Nr d ≤ 1365 ∧ Zr d ≤ 30000 ∧ Fr d ≤ 2000000
  | 0, _ => by decide
  | 1, _ => by decide
  | 2, _ => by decide
  | 3, _ => by decide
  | 4, _ => by decide
  | 5, _ => by decide
  | n + 6, h => by omega
theorem zr_ge : ∀ {d : Nat}, 20 ≤ Zr d
  | 0 => Nat.le_refl _
  | d + 1 => by
    show 20 ≤ 20 + 4 * Zr d
    omega
theorem nr_ge : ∀ {d : Nat}, 1 ≤ Nr d
  | 0 => Nat.le_refl _
  | d + 1 => by
    show 1 ≤ 1 + 4 * Nr d
    omega
theorem fr_ge : ∀ {d : Nat}, 1000 ≤ Fr d
  | 0 => Nat.le_refl _
  | d + 1 => by
    show 1000 ≤ 1000 + 4 * (Fr d + 2)
    omega
def spETree (K : PySem.W.Frag) (C : Addr) (dp : Nat) : Sp := fun vs H Q _ => ∃ (p c n r e q : Addr) (S : NetS) (z : Nat) (x : Pt) (b : Bool), vs = [.ref p, .ref n, .ref q, .int (dp : Int), .bl b] ∧ PenE H p c z ∧ z + Zr dp + 100 < 400000000 ∧ NetAt K C H n r e S ∧ NetB S ∧ S.rows.length + Nr dp ≤ 5000 ∧ H q = some (.tup (ptV x)) ∧ S.port x ∧ lk S.ends x = none ∧
  ∀ (v : V) (d : PyData) (ps : List (Option Nat)) (S' : NetS) (z' : Nat) (H' : Hp), PenE H' p c z' → z' ≤ z + Zr dp → NetAt K C H' n r e S' → NetB S' → Ext S S' (· = x) → Ws S' (lk S'.ends x) d ps → (∀ a, some a ∈ ps → S.next ≤ a) → Da K All H' v d → Fit (Fr dp) (2 * dp + 2) d → ps.length ≤ Nr dp → cntS ps + S.rows.length ≤ S'.rows.length → S'.rows.length ≤ S.rows.length + Nr dp → outsN S' = outsN S → Kx [p, n, r, e] H H' → Q v H'
def symsO : List PyData := [.tuple [.str "fun", .str "n", .str "n"], .tuple [.str "call", .str "n", .str "n"], .tuple [.str "copy", .str "n"], .tuple [.str "def", .str "f"], .tuple [.str "choose", .int 3], .tuple [.str "make", .str "s"], .tuple [.str "pair", .str "n", .str "n"]]
theorem symsO_ok : ∀ d ∈ symsO, ∃ (s : Str) (ds : List PyData), d = .tuple (.str s :: ds) ∧ SymOk d ∧ s ≠ ("out" : Str) := by
  intro d hd
  simp only [symsO, List.mem_cons, List.not_mem_nil, or_false] at hd
  rcases hd with rfl | rfl | rfl | rfl | rfl | rfl | rfl
  · exact ⟨_, _, rfl, sym3 (by unfold Nm; decide) (by unfold Nm; decide) (by unfold Nm; decide), by decide⟩
  · exact ⟨_, _, rfl, sym3 (by unfold Nm; decide) (by unfold Nm; decide) (by unfold Nm; decide), by decide⟩
  · exact ⟨_, _, rfl, sym2 (by unfold Nm; decide) (by unfold Nm; decide), by decide⟩
  · exact ⟨_, _, rfl, sym2 (by unfold Nm; decide) (by unfold Nm; decide), by decide⟩
  · exact ⟨_, _, rfl, sym2i (n := 3) (by unfold Nm; decide) (by omega), by decide⟩
  · exact ⟨_, _, rfl, sym2 (by unfold Nm; decide) (by unfold Nm; decide), by decide⟩
  · exact ⟨_, _, rfl, sym3 (by unfold Nm; decide) (by unfold Nm; decide) (by unfold Nm; decide), by decide⟩
def lowO (s : Str) : Nat := if s = ("def" : Str) then 0 else 2
theorem low_get (s : Str) : (valV (mergeK [] [((.inr ("def" : Str) : Key), V.int 0)]) (.inr s)).getD (.int 2) = .int ((lowO s : Nat) : Int) := by
  have e : mergeK ([] : List (Key × V)) [((.inr ("def" : Str) : Key), V.int 0)] = [((.inr ("def" : Str) : Key), V.int 0)] := rfl
  rw [e]
  unfold lowO
  by_cases c : s = ("def" : Str)
  · subst c
    rw [if_pos rfl, valV_pos rfl]
    rfl
  · rw [if_neg c, valV_neg (fun z => c (Sum.inr.inj z).symm)]
    rfl
section
variable {K : PySem.W.Frag} {C : Addr} {H : Hp} {n r e : Addr} {S : NetS} {σ : L2.St} {Q : Bool → Hp → Prop} {b : Bool} {ro m : Int}
/-- a number told and a truth -/
theorem and_test (h5 : σ[5]? = some (some (.int ro))) (h4 : σ[4]? = some (some (.bl b))) (hT : Q true H) (hF : Q false H) : tAnd (tTest (tOp rEq (tVar 5) (tC (V.int m)))) (tB (tVar 4)) σ H Q := by
  refine ⟨_, h5, rfl, _, rfl, ?_⟩
  by_cases c : decide (V.int ro = V.int m) = true
  · refine iteTx c ⟨_, h4, b, rfl, ?_⟩
    cases b
    · exact hF
    · exact hT
  · exact iteFx (Bool.eq_false_iff.mpr c) hF
theorem cut_test (hN : NetAt K C H n r e S) (h5 : σ[5]? = some (some (.int ro))) (h4 : σ[4]? = some (some (.bl b))) (h1 : σ[1]? = some (some (.ref n))) (hT : Q true H) (hF : Q false H) :
    tOr (tAnd (tTest (tOp rEq (tVar 5) (tC (V.int m)))) (tB (tVar 4))) (tAnd (tTest (tOp (rI0 fun i j => V.bl (decide (j < i))) (tCB (rLenO C (spLenN K C) E0) (tCons (tVar 1) tNil)) (tC (V.int 30)))) (tB (tVar 4))) σ H Q := by
  have second : tAnd (tTest (tOp (rI0 fun i j => V.bl (decide (j < i))) (tCB (rLenO C (spLenN K C) E0) (tCons (tVar 1) tNil)) (tC (V.int 30)))) (tB (tVar 4)) σ H Q := by
    obtain ⟨dx, g1⟩ := hN.ob
    have hlen := hN.ok.len
    refine ⟨_, h1, n, dx, _, rfl, g1, n, r, e, S, rfl, hN, S.rows.length, rfl, by omega, _, _, rfl, rfl, _, rfl, ?_⟩
    by_cases c : decide ((30 : Int) < (S.rows.length : Int)) = true
    · refine iteTx c ⟨_, h4, b, rfl, ?_⟩
      cases b
      · exact hF
      · exact hT
    · exact iteFx (Bool.eq_false_iff.mpr c) hF
  exact and_test (b := b) (ro := ro) h5 h4 (iteTx rfl hT) (iteFx rfl second)
theorem and_test2 {dd : Int} (h5 : σ[5]? = some (some (.int ro))) (h3 : σ[3]? = some (some (.int dd))) (hT : 0 < dd → Q true H) (hF : Q false H) : tAnd (tTest (tOp rEq (tVar 5) (tC (V.int m)))) (tTest (tOp (rI0 fun i j => V.bl (decide (j < i))) (tVar 3) (tC (V.int 0)))) σ H Q := by
  refine ⟨_, h5, rfl, _, rfl, ?_⟩
  by_cases c : decide (V.int ro = V.int m) = true
  · refine iteTx c ⟨_, h3, _, _, rfl, rfl, _, rfl, ?_⟩
    by_cases c2 : (0 : Int) < dd
    · rw [decide_eq_true c2]
      exact hT c2
    · rw [decide_eq_false c2]
      exact hF
  · exact iteFx (Bool.eq_false_iff.mpr c) hF
theorem and_test3 {dd : Int} (hN : NetAt K C H n r e S) (h1 : σ[1]? = some (some (.ref n))) (h3 : σ[3]? = some (some (.int dd))) (hT : 0 < dd → Q true H) (hF : Q false H) : tAnd (tTest (tOp (rI0 fun i j => V.bl (decide (j < i))) (tVar 3) (tC (V.int 0)))) (tTest (tOp (rI0 fun i j => V.bl (decide (i < j))) (tCB (rLenO C (spLenN K C) E0) (tCons (tVar 1) tNil)) (tC (V.int 30)))) σ H Q := by
  obtain ⟨dx, g1⟩ := hN.ob
  have hlen := hN.ok.len
  refine ⟨_, h3, _, _, rfl, rfl, _, rfl, ?_⟩
  by_cases c : (0 : Int) < dd
  · refine iteTx (decide_eq_true c) ⟨_, h1, n, dx, _, rfl, g1, n, r, e, S, rfl, hN, S.rows.length, rfl, by omega, _, _, rfl, rfl, _, rfl, ?_⟩
    by_cases c2 : ((S.rows.length : Int) < 30)
    · rw [decide_eq_true c2]
      exact hT c
    · rw [decide_eq_false c2]
      exact hF
  · exact iteFx (decide_eq_false c) hF
end
/-- trees of any of the depths -/
def spETrees (K : PySem.W.Frag) (C : Addr) : Sp := fun vs H Q E => ∃ dp, dp ≤ 5 ∧ spETree K C dp vs H Q E
def spEGrown (K : PySem.W.Frag) (C : Addr) : Sp := fun vs H Q _ => ∃ (p c : Addr) (z : Nat) (b : Bool), vs = [.ref p, .bl b] ∧ PenE H p c z ∧ z + 50000 < 400000000 ∧
  ∀ (t n r e : Addr) (S : NetS) (o : Nat) (v : V) (d : PyData) (ps : List (Option Nat)) (z' : Nat) (H' : Hp), H' t = some (.tup [.ref n, v]) → PenE H' p c z' → z' ≤ z + 40000 → NetAt K C H' n r e S → NetB S → S.rows.length ≤ 1500 → outsN S = [o] → Ws S (lk S.ends (o, 0)) d ps → Da K All H' v d → Fit 4000000 150 d → ps.length ≤ 2000 → cntS ps + 1 ≤ S.rows.length → Q (.ref t) H'
/-- a road of makers one in the other -/
inductive Chn (S : NetS) (x0 : Pt) : List Str → Pt → Prop
  | nil : Chn S x0 [] x0
  | snoc {ns : List Str} {y : Pt} {a : Nat} {nm : Str} (h : Chn S x0 ns y) (he : lk S.ends y = some (a, 0)) (hr : lk S.rows a = some (.tuple [.str ("make" : Str), .str nm], 1)) : Chn S x0 (ns ++ [nm]) (a, 1)
theorem Chn.ext {S S' : NetS} {X : Pt → Prop} {x0 y : Pt} {ns : List Str} (e : Ext S S' X) (h : Chn S x0 ns y) : Chn S' x0 ns y := by
  induction h with
  | nil => exact .nil
  | snoc h he hr ih => exact .snoc ih (e.tied _ _ he) (e.rows _ _ hr)
def wrapN : List Str → PyData → PyData
  | [], d => d
  | nm :: l, d => .tuple [.str ("#" : Str), .str nm, .tuple [wrapN l d]]
theorem wrap_app : ∀ (a b : List Str) (d : PyData), wrapN (a ++ b) d = wrapN a (wrapN b d)
  | [], _, _ => rfl
  | nm :: a, b, d => by
    show PyData.tuple [_, _, .tuple [wrapN (a ++ b) d]] = PyData.tuple [_, _, .tuple [wrapN a (wrapN b d)]]
    rw [wrap_app a b d]
theorem Chn.show {S : NetS} {x0 y : Pt} {ns : List Str} (h : Chn S x0 ns y) : ∀ {d : PyData} {ps : List (Option Nat)}, Ws S (lk S.ends y) d ps → ∃ qs, Ws S (lk S.ends x0) (wrapN ns d) qs ∧ qs.length = ns.length + ps.length ∧ cntS qs = ns.length + cntS ps := by
  induction h with
  | nil => exact fun h => ⟨_, h, by simp, by simp⟩
  | @snoc ns y a nm h he hr ih =>
    intro d ps hd
    have hl : WsL S a 1 1 [d] (ps ++ []) := .cons hd .nil
    have hw : Ws S (lk S.ends y) (.tuple [.str ("#" : Str), .str nm, .tuple [d]]) (some a :: (ps ++ [])) := by
      rw [he]
      exact .mk hr hl
    obtain ⟨qs, h1, h2, h3⟩ := ih hw
    refine ⟨qs, ?_, ?_, ?_⟩
    · rw [wrap_app]
      exact h1
    · rw [h2]
      simp
      omega
    · rw [h3, List.length_append]
      show ns.length + (cntS (ps ++ []) + 1) = ns.length + 1 + cntS ps
      rw [List.append_nil]
      omega
theorem fit_wrap : ∀ {ns : List Str} {d : PyData} {n m : Nat}, (∀ x ∈ ns, Nm x) → Fit n m d → Fit (n + ns.length * 200) (m + 2 * ns.length) (wrapN ns d)
  | [], _, _, _, _, f => f.le (by omega) (by omega)
  | nm :: ns, d, n, m, h, f => by
    have ih := fit_wrap (ns := ns) (fun x hx => h x (List.mem_cons_of_mem _ hx)) f
    refine (Fit.tup (m := m + 2 * ns.length + 1) (FitAll.cons ((fit_str (n := 1) (x := "#") (by decide +kernel) (by decide +kernel)).le (Nat.le_refl _) (Nat.zero_le _)) (FitAll.cons ((fit_nm (h nm (List.mem_cons_self ..))).le (Nat.le_refl _) (Nat.zero_le _)) (FitAll.cons (Fit.tup (FitAll.cons ih (FitAll.nil (n := 0)))) (FitAll.nil (n := 0)))))).le ?_ ?_
    · rw [List.length_cons]
      omega
    · rw [List.length_cons]
      omega
end Ow

namespace Ow
open PySem PySem.Spec PyProof.Rows L2
structure CopB (K : PySem.W.Frag) (C : Addr) (H : Hp) (n r e m r' e' : Addr) (S : NetS) (ks : List (List Key × V)) : Prop where
  N : NetAt K C H n r e S
  M : NetAt K C H m r' e' S
  e1 : H e = some (.dT ks)
  e2 : H e' = some (.dT ks)
  nd : (ks.map (·.1)).Nodup
  nm : m ∉ [n, r, e]
  nr : r' ∉ [n, r, e]
  ne : e' ∉ [n, r, e]
theorem CopB.same {K : PySem.W.Frag} {C : Addr} {H H' : Hp} {n r e m r' e' : Addr} {S : NetS} {ks : List (List Key × V)} (h : CopB K C H n r e m r' e' S ks) (s : Same H H') : CopB K C H' n r e m r' e' S ks :=
  ⟨h.N.same s, h.M.same s, s _ _ h.e1, s _ _ h.e2, h.nd, h.nm, h.nr, h.ne⟩
theorem fit_rowsB {S : NetS} (g : NetB S) (ok : S.Ok) (hr : S.rows.length ≤ 1500) : Fit 4000000 150 (rowsD S) := by
  have h1 : ∀ x ∈ S.rows, Fit 800 10 (PyData.int (x.1 : Int)) := fun x hx => (fit_nat x.1 (by have := ok.lt x hx; have := g.nx; omega)).le (by omega) (by omega)
  have h2 : ∀ x ∈ S.rows, Fit 800 10 (PyData.tuple [x.2.1, .int (x.2.2 : Int)]) := fun x hx => by
    obtain ⟨s, ds, e, f⟩ := g.sy x hx
    have f2 := fit_nat x.2.2 (by have := g.lo x hx; omega)
    exact (Fit.tup (m := 3) (FitAll.cons f (FitAll.cons (f2.le (Nat.le_refl _) (Nat.zero_le _)) (FitAll.nil (n := 0))))).le (by omega) (by omega)
  exact (fit_kv (k := 1500) h1 h2 hr).le (by decide) (by decide)
end Ow

/-! Moves, and nets that are ended. -/
namespace Ow
open PySem PySem.Spec PyProof.Rows L2
def faceB (S : NetS) (a : Nat) : Option Pt → Bool
  | some (b, p) => decide (p = 0) && decide (a ≤ b) && decide (headOf S b ≠ ("out" : Str)) && decide (headOf S b ≠ ("def" : Str))
  | none => false
def movB (S : NetS) (a : Nat) : Bool := decide (headOf S a = ("def" : Str)) || (decide (headOf S a ≠ ("out" : Str)) && faceB S a (lk S.ends (a, 0)))
def spMoveFrom (K : PySem.W.Frag) (C : Addr) : Sp := fun vs H Q _ => ∃ (n r e : Addr) (S : NetS) (a : Nat), vs = [.ref n, .int (a : Int)] ∧ NetAt K C H n r e S ∧ SyOk S ∧ isAgent S a ∧
  (movB S a = false → ∀ H', Same H H' → Q .non H') ∧ (movB S a = true → ∀ t H', Same H H' → Q (.ref t) H')
def MvV (S : NetS) (v : V) (a : Nat) : Prop := (movB S a = false ∧ v = .non) ∨ (movB S a = true ∧ ∃ t, v = .ref t)
def mvs (S : NetS) : List Nat := (S.rows.map (·.1)).filter (movB S)
def spMoves (K : PySem.W.Frag) (C : Addr) : Sp := fun vs H Q _ => ∃ (n r e : Addr) (S : NetS), vs = [.ref n] ∧ NetAt K C H n r e S ∧ SyOk S ∧ ∀ (L : Addr) (us : List V) (H' : Hp), H' L = some (.lst us) → us.length = (mvs S).length → Same H H' → Q (.ref L) H'
def endedB (S : NetS) (ps : List (Option Nat)) : Bool := decide (0 < ps.length) && !decide (none ∈ ps) && decide (ps.length + 1 = S.rows.length) && decide ((mvs S).length = 0)
def spIsEnded (K : PySem.W.Frag) (C : Addr) : Sp := fun vs H Q _ => ∃ (n r e : Addr) (S : NetS) (o : Nat) (d : PyData) (ps : List (Option Nat)), vs = [.ref n] ∧ NetAt K C H n r e S ∧ SyOk S ∧ outsN S = [o] ∧ Ws S (lk S.ends (o, 0)) d ps ∧ ps.length ≤ 100000 ∧
  ∀ (H' : Hp), Same H H' → Q (.bl (endedB S ps)) H'
theorem none_in : ∀ ps : List (Option Nat), inV .non (ps.map optV) = decide (none ∈ ps)
  | [] => rfl
  | none :: ps => by
    rw [decide_eq_true (List.mem_cons_self ..)]
    rfl
  | some b :: ps => by
    have ih := none_in ps
    show inV .non (V.int (b : Int) :: ps.map optV) = _
    unfold inV at ih ⊢
    rw [List.any_cons, ih]
    by_cases c : none ∈ ps
    · rw [decide_eq_true c, decide_eq_true (List.mem_cons_of_mem _ c), Bool.or_true]
    · rw [decide_eq_false c, decide_eq_false (fun z => by rcases List.mem_cons.mp z with z | z; cases z; exact c z)]
      rfl
theorem flat_opt : ∀ ps : List (Option Nat), (ps.map optV).all flatV = true
  | [] => rfl
  | none :: ps => by
    rw [List.map_cons, List.all_cons, flat_opt ps]
    rfl
  | some b :: ps => by
    rw [List.map_cons, List.all_cons, flat_opt ps]
    rfl
theorem mov_def {S : NetS} {a : Nat} (h : headOf S a = ("def" : Str)) : movB S a = true := by
  unfold movB
  rw [decide_eq_true h, Bool.true_or]
theorem mov_not {S : NetS} {a : Nat} (h : headOf S a ≠ ("def" : Str)) : movB S a = (decide (headOf S a ≠ ("out" : Str)) && faceB S a (lk S.ends (a, 0))) := by
  unfold movB
  rw [decide_eq_false h, Bool.false_or]
theorem filt_len {S : NetS} : ∀ {us : List V} {as : List Nat}, AP (MvV S) us as → (us.filter fun v => !decide (v = V.non)).length = (as.filter (movB S)).length
  | _, _, .nil => rfl
  | _, _, .cons h t => by
    have ih := filt_len t
    rcases h with ⟨h1, rfl⟩ | ⟨h1, q, rfl⟩
    · rw [List.filter_cons, List.filter_cons, h1]
      simpa using ih
    · rw [List.filter_cons, List.filter_cons, h1]
      simpa using ih
end Ow

/-! Agents put and tied beside. -/
namespace Ow
open PySem PySem.Spec PyProof.Rows L2
/-- arguments of put, with what is left out -/
def EvP (K : PySem.W.Frag) (ta : TA) (dvs : List V) (sym : PyData) (low : Nat) : Prop := ∀ (σ : L2.St) (H : Hp) (X : List V → Hp → Prop), (∀ (v : V) (H' : Hp), Same H H' → Da K All H' v sym → X [v, .int (low : Int), .non] H') → ta σ H (fun vs H' => X (vs ++ dvs) H')
section
variable {K : PySem.W.Frag} {C : Addr} {H : Hp} {n r e : Addr} {S : NetS} {σ : L2.St} {sym sym2 : PyData} {low low2 pl : Nat} {ta tb : TA} {dvs dvs2 : List V}
theorem evp1 {a b : Str} : EvP K (tCons (tTup (tCons (tC (V.str a)) (tCons (tC (V.str b)) tNil))) tNil) [.int 0, .non] (.tuple [.str a, .str b]) 0 := fun σ H X k =>
  ⟨le_line (by show 2 ≤ 16000000; decide), fun t ht => k _ _ (same_new ht) (.tup (SqT.of upd_same) (.cons (.str _) (.cons (.str _) .nil)))⟩
theorem evp3 {a b c : Str} {l : Nat} : EvP K (tCons (tTup (tCons (tC (V.str a)) (tCons (tC (V.str b)) (tCons (tC (V.str c)) tNil)))) (tCons (tC (V.int (l : Int))) tNil)) [.non] (.tuple [.str a, .str b, .str c]) l := fun σ H X k =>
  ⟨le_line (by show 3 ≤ 16000000; decide), fun t ht => k _ _ (same_new ht) (.tup (SqT.of upd_same) (.cons (.str _) (.cons (.str _) (.cons (.str _) .nil))))⟩
theorem evpC {a : Str} {i : Int} {l : Nat} : EvP K (tCons (tTup (tCons (tC (V.str a)) (tCons (tC (V.int i)) tNil))) (tCons (tC (V.int (l : Int))) tNil)) [.non] (.tuple [.str a, .int i]) l := fun σ H X k =>
  ⟨le_line (by show 2 ≤ 16000000; decide), fun t ht => k _ _ (same_new ht) (.tup (SqT.of upd_same) (.cons (.str _) (.cons (.int _) .nil)))⟩
theorem put_eval {Q : VK} (hv : EvP K ta dvs sym low) (h1 : σ[1]? = some (some (.ref n))) (hN : NetAt K C H n r e S) (hB : NetB S) (hr : S.rows.length ≤ 5000) (hl : low ≤ 4) (ok : SymOk sym)
    (k : ∀ H', NetAt K C H' n r e (S.put sym low) → NetB (S.put sym low) → Kx [n, r, e] H H' → Q (.int (S.next : Int)) H') : tMeth C "put" (spPutN K C) dvs E0 (tVar 1) ta σ H Q := by
  obtain ⟨dx, g1⟩ := hN.ob
  refine ⟨_, h1, n, dx, _, rfl, g1, no3 (by decide +kernel), ?_⟩
  refine hv σ H (fun vs H' => spPutN K C (.ref n :: vs) H' Q E0) fun v H' s hd => ?_
  exact ⟨n, r, e, S, v, sym, low, rfl, hN.same s, hd, by omega, by have := hB.nx; omega, by omega, fun H2 hN2 k2 => k H2 hN2 (hB.put ok hl) ((Kx.of s).trans k2)⟩
/-- two new agents, tied -/
theorem tie_eval {Q : VK} (hv : EvP K ta dvs sym low) (hv2 : EvP K tb dvs2 sym2 low2) (h1 : σ[1]? = some (some (.ref n))) (hN : NetAt K C H n r e S) (hB : NetB S) (hr : S.rows.length ≤ 4000) (hl : low ≤ 4) (hl2 : low2 ≤ 4) (ok : SymOk sym) (ok2 : SymOk sym2) (o1 : symH sym ≠ ("out" : Str)) (o2 : symH sym2 ≠ ("out" : Str)) (hpl : pl ≤ low2)
    (k : ∀ (S' : NetS) (H' : Hp), NetAt K C H' n r e S' → NetB S' → Ext S S' (fun _ => False) → S'.rows.length = S.rows.length + 2 → outsN S' = outsN S → Kx [n, r, e] H H' → Q .non H') :
    tMeth C "tie" (spTieN K C) [] E0 (tVar 1) (tCons (tTup (tCons (tMeth C "put" (spPutN K C) dvs E0 (tVar 1) ta) (tCons (tC (V.int 0)) tNil))) (tCons (tTup (tCons (tMeth C "put" (spPutN K C) dvs2 E0 (tVar 1) tb) (tCons (tC (V.int (pl : Int))) tNil))) tNil)) σ H Q := by
  obtain ⟨dx, g1⟩ := hN.ob
  refine ⟨_, h1, n, dx, _, rfl, g1, no3 (by decide +kernel), ?_⟩
  refine put_eval hv h1 hN hB (by omega) hl ok fun H1 hN1 hB1 k1 => ⟨le_line (by show 2 ≤ 16000000; decide), fun t1 ht1 => ?_⟩
  have s1 := same_new ht1 (o := .tup (ptV (S.next, 0)))
  have r1 : (S.put sym low).rows.length = S.rows.length + 1 := by
    show (S.rows ++ [_]).length = _
    rw [List.length_append]
    rfl
  have okS := hN.ok
  refine put_eval hv2 h1 (hN1.same s1) hB1 (by omega) hl2 ok2 fun H2 hN2 hB2 k2 => ⟨le_line (by show 2 ≤ 16000000; decide), fun t2 ht2 => ?_⟩
  have s2 := same_new ht2 (o := .tup (ptV ((S.put sym low).next, pl)))
  have okS1 := hN1.ok
  have e1 : upd H1 t1 (.tup (ptV (S.next, 0))) t1 = some (.tup (ptV (S.next, 0))) := upd_same
  have e2 := s2 _ _ (tup_kx k2 (hN1.same s1).noTs e1)
  have p1 : (S.put sym low).port (S.next, 0) := ⟨_, _, new_row okS, Nat.zero_le _⟩
  have p12 : ((S.put sym low).put sym2 low2).port (S.next, 0) := NetS.port_put p1
  have p2 : ((S.put sym low).put sym2 low2).port ((S.put sym low).next, pl) := ⟨_, _, new_row okS1, hpl⟩
  have ne : ((S.next, 0) : Pt) ≠ ((S.put sym low).next, pl) := new_ne okS1 p1
  have f1 : lk ((S.put sym low).put sym2 low2).ends (S.next, 0) = none := new_free okS
  have f2 : lk ((S.put sym low).put sym2 low2).ends ((S.put sym low).next, pl) = none := new_free okS1
  have r2 : ((S.put sym low).put sym2 low2).rows.length = S.rows.length + 2 := by
    show ((S.put sym low).rows ++ [_]).length = _
    rw [List.length_append, r1]
    rfl
  have hel := hB.el
  have hel2 : ((S.put sym low).put sym2 low2).ends.length = S.ends.length := rfl
  refine ⟨n, r, e, t1, t2, _, (S.next, 0), ((S.put sym low).next, pl), rfl, hN2.same s2, e2, upd_same, p12, p2, ne, f1, f2, by omega, fun H3 hN3 k3 => ?_⟩
  have x1 : Ext S (S.put sym low) (fun _ => False) := .put
  have x2 : Ext (S.put sym low) ((S.put sym low).put sym2 low2) (fun _ => False) := .put
  have x3 : Ext ((S.put sym low).put sym2 low2) (((S.put sym low).put sym2 low2).tie (S.next, 0) ((S.put sym low).next, pl)) (fun y => y = (S.next, 0) ∨ y = ((S.put sym low).next, pl)) := .tie f1 f2 (.inl rfl) (.inr rfl)
  have x4 : Ext S ((S.put sym low).put sym2 low2) (fun _ => False) := x1.trans x2 fun _ _ h => h
  have x5 : Ext S (((S.put sym low).put sym2 low2).tie (S.next, 0) ((S.put sym low).next, pl)) (fun _ => False) := x4.trans x3 fun y hy h => by
    rcases h with h | h
    · exact new_ne okS hy h
    · exact new_ne okS1 (x1.port hy) h
  refine k _ H3 hN3 (hB2.tie ne f1 f2 (by rw [r2, hel2]; omega)) x5 r2 ((outs_put o2).trans (outs_put o1)) ?_
  exact ((k1.same s1).trans (k2.same s2)).trans k3
end
def spEMore (K : PySem.W.Frag) (C : Addr) : Sp := fun vs H Q _ => ∃ (p c n r e : Addr) (S : NetS) (z : Nat), vs = [.ref p, .ref n] ∧ PenE H p c z ∧ z + 100 < 400000000 ∧ NetAt K C H n r e S ∧ NetB S ∧ S.rows.length ≤ 1500 ∧
  ∀ (S' : NetS) (z' : Nat) (H' : Hp), PenE H' p c z' → z' ≤ z + 10 → NetAt K C H' n r e S' → NetB S' → Ext S S' (fun _ => False) → S.rows.length ≤ S'.rows.length → S'.rows.length ≤ S.rows.length + 12 → outsN S' = outsN S → Kx [p, n, r, e] H H' → Q .non H'
structure MoreF (K : PySem.W.Frag) (C : Addr) (S : NetS) (p c n r e : Addr) (z : Nat) (H0 : Hp) (k : Nat) (S' : NetS) (z' : Nat) (H' : Hp) : Prop where
  P : PenE H' p c z'
  hz : z' ≤ z + 1 + k
  N : NetAt K C H' n r e S'
  B : NetB S'
  X : Ext S S' (fun _ => False)
  r0 : S.rows.length ≤ S'.rows.length
  r1 : S'.rows.length ≤ S.rows.length + 2 * k
  o : outsN S' = outsN S
  kx : Kx [p, n, r, e] H0 H'
def MoreI (K : PySem.W.Frag) (C : Addr) (S : NetS) (p c n r e : Addr) (z : Nat) (ro : Int) (H0 : Hp) (k : Nat) : L2.St → Hp → Prop := fun σ H' => ∃ (S' : NetS) (z' : Nat), σ = [some (.ref p), some (.ref n), some (.int ro)] ∧ MoreF K C S p c n r e z H0 k S' z' H'
section
variable {K : PySem.W.Frag} {C : Addr} {S S' S2 : NetS} {p c n r e : Addr} {z z' z2 : Nat} {ro m : Int} {H0 H1 H2 : Hp} {k : Nat} {D : Ends} {tb : L2.TS} {σ : L2.St}
theorem MoreF.mono (h : MoreF K C S p c n r e z H0 k S' z' H1) : MoreF K C S p c n r e z H0 (k + 1) S' z' H1 := ⟨h.P, by have := h.hz; omega, h.N, h.B, h.X, h.r0, by have := h.r1; omega, h.o, h.kx⟩
theorem more_if (h : MoreI K C S p c n r e z ro H0 k σ H1) (hD : ∀ σ H, MoreI K C S p c n r e z ro H0 (k + 1) σ H → D.nx σ H)
    (body : ∀ S' z', MoreF K C S p c n r e z H0 k S' z' H1 → (∀ S2 z2 H2, MoreF K C S p c n r e z H0 (k + 1) S2 z2 H2 → D.nx [some (.ref p), some (.ref n), some (.int ro)] H2) → tb D [some (.ref p), some (.ref n), some (.int ro)] H1) : tIfS (tTest (tOp rEq (tVar 2) (tC (V.int m)))) tb tNext D σ H1 := by
  obtain ⟨S', z', rfl, hf⟩ := h
  refine ⟨_, rfl, rfl, _, rfl, ?_⟩
  by_cases c0 : decide (V.int ro = V.int m) = true
  · exact iteTx c0 (body S' z' hf fun S2 z2 H2 h2 => hD _ _ ⟨S2, z2, rfl, h2⟩)
  · exact iteFx (Bool.eq_false_iff.mpr c0) (hD _ _ ⟨S', z', rfl, hf.mono⟩)
theorem MoreF.put {sym : PyData} {low : Nat} (h : MoreF K C S p c n r e z H0 k S' z' H1) (hN : NetAt K C H2 n r e (S'.put sym low)) (hB : NetB (S'.put sym low)) (o : symH sym ≠ ("out" : Str)) (kx : Kx [n, r, e] H1 H2) : MoreF K C S p c n r e z H0 (k + 1) (S'.put sym low) z' H2 := by
  have r2 : (S'.put sym low).rows.length = S'.rows.length + 1 := by
    show (S'.rows ++ [_]).length = _
    rw [List.length_append]
    rfl
  exact ⟨h.P.net h.N kx, by have := h.hz; omega, hN, hB, h.X.trans (.put (X := fun _ => False)) fun _ _ h => h, by have := h.r0; omega, by have := h.r1; omega, (outs_put o).trans h.o, h.kx.trans (kx.mono fun b hb => List.mem_cons_of_mem _ hb)⟩
theorem MoreF.two (h : MoreF K C S p c n r e z H0 k S' z' H1) (hN : NetAt K C H2 n r e S2) (hB : NetB S2) (x : Ext S' S2 (fun _ => False)) (r2 : S2.rows.length = S'.rows.length + 2) (o : outsN S2 = outsN S') (kx : Kx [n, r, e] H1 H2) : MoreF K C S p c n r e z H0 (k + 1) S2 z' H2 :=
  ⟨h.P.net h.N kx, by have := h.hz; omega, hN, hB, h.X.trans x fun _ _ h => h, by have := h.r0; omega, by have := h.r1; omega, o.trans h.o, h.kx.trans (kx.mono fun b hb => List.mem_cons_of_mem _ hb)⟩
end
theorem mk_s2 {a b : Str} (h : Nm a) (g : Nm b) : SymOk (.tuple [.str a, .str b]) := sym2 h g
end Ow

/-! How many agents a worth has; nets that are still. -/
namespace Ow
open PySem PySem.Spec PyProof.Rows L2
def valP : List (Option Nat) → Int
  | [] => 0
  | none :: l => -1000 + valP l
  | some _ :: l => 1 + valP l
theorem valP_app : ∀ (a b : List (Option Nat)), valP (a ++ b) = valP a + valP b
  | [], b => by
    show valP b = 0 + valP b
    omega
  | none :: a, b => by
    show -1000 + valP (a ++ b) = -1000 + valP a + valP b
    rw [valP_app a b]
    omega
  | some _ :: a, b => by
    show 1 + valP (a ++ b) = 1 + valP a + valP b
    rw [valP_app a b]
    omega
mutual
inductive Wf : Nat → PyData → Int → Prop
  | non {j : Nat} : Wf (j + 1) .none (-1000)
  | mk {j : Nat} {nm : Str} {ds : List PyData} {ms : List Int} (h : WfL j ds ms) : Wf (j + 1) (.tuple [.str ("#" : Str), .str nm, .tuple ds]) (1 + ms.sum)
  | pr {j : Nat} {ds : List PyData} {ms : List Int} (h : WfL j ds ms) : Wf (j + 1) (.tuple (.str ("&" : Str) :: ds)) (1 + ms.sum)
inductive WfL : Nat → List PyData → List Int → Prop
  | nil {j : Nat} : WfL j [] []
  | cons {j : Nat} {d : PyData} {ds : List PyData} {m : Int} {ms : List Int} (h : Wf j d m) (t : WfL j ds ms) : WfL j (d :: ds) (m :: ms)
end
theorem WfL.len {j : Nat} : ∀ {ds : List PyData} {ms : List Int}, WfL j ds ms → ms.length = ds.length
  | _, _, .nil => rfl
  | _, _, .cons _ t => congrArg Nat.succ t.len
theorem WfL.get {j : Nat} : ∀ {ds : List PyData} {ms : List Int}, WfL j ds ms → ∀ {i : Nat} {d : PyData}, ds[i]? = some d → ∃ m, ms[i]? = some m ∧ Wf j d m
  | _, _, .nil, i, d, h => by simp at h
  | _, _, .cons h t, 0, d, e => by
    cases e
    exact ⟨_, rfl, h⟩
  | _, _, .cons h t, i + 1, d, e => t.get (i := i) e
mutual
theorem Ws.wf {S : NetS} : ∀ {en : Option Pt} {d : PyData} {ps : List (Option Nat)}, Ws S en d ps → ∀ {j : Nat}, d.depth < j → Wf j d (valP ps)
  | _, _, _, .cut _, 0, h => absurd h (Nat.not_lt_zero _)
  | _, _, _, .cut _, j + 1, h => .non
  | _, _, _, .mk _ hs, 0, h => absurd h (Nat.not_lt_zero _)
  | _, _, _, .pr _ hs, 0, h => absurd h (Nat.not_lt_zero _)
  | _, _, _, .mk (ds := ds) (ps := ps) _ hs, j + 1, h => by
    have hd : PyData.depthAll ds < j := by
      simp only [PyData.depth, PyData.depthAll] at h
      omega
    obtain ⟨ms, h1, h2⟩ := WsL.wf hs hd
    show Wf (j + 1) _ (1 + valP ps)
    rw [← h2]
    exact .mk h1
  | _, _, _, .pr (ds := ds) (ps := ps) _ hs, j + 1, h => by
    have hd : PyData.depthAll ds < j := by
      simp only [PyData.depth, PyData.depthAll] at h
      omega
    obtain ⟨ms, h1, h2⟩ := WsL.wf hs hd
    show Wf (j + 1) _ (1 + valP ps)
    rw [← h2]
    exact .pr h1
theorem WsL.wf {S : NetS} : ∀ {b p n : Nat} {ds : List PyData} {ps : List (Option Nat)}, WsL S b p n ds ps → ∀ {j : Nat}, PyData.depthAll ds < j → ∃ ms, WfL j ds ms ∧ ms.sum = valP ps
  | _, _, _, _, _, .nil, j, _ => ⟨[], .nil, rfl⟩
  | _, _, _, _, _, .cons (ps := ps) (qs := qs) h t, j, hd => by
    rw [PyData.depthAll] at hd
    obtain ⟨ms, h1, h2⟩ := WsL.wf t (j := j) (by omega)
    refine ⟨valP ps :: ms, .cons (Ws.wf h (by omega)) h1, ?_⟩
    rw [List.sum_cons, h2, valP_app]
end
theorem valP_le : ∀ (ps : List (Option Nat)), (none ∉ ps → valP ps = (ps.length : Int) ∧ cntS ps = ps.length) ∧ (none ∈ ps → valP ps ≤ (cntS ps : Int) - 1000)
  | [] => ⟨fun _ => ⟨rfl, rfl⟩, fun h => nomatch h⟩
  | some b :: ps => by
    obtain ⟨h1, h2⟩ := valP_le ps
    refine ⟨fun h => ?_, fun h => ?_⟩
    · obtain ⟨a1, a2⟩ := h1 fun z => h (List.mem_cons_of_mem _ z)
      refine ⟨?_, ?_⟩
      · show 1 + valP ps = ((ps.length + 1 : Nat) : Int)
        omega
      · show cntS ps + 1 = ps.length + 1
        omega
    · have := h2 (by rcases List.mem_cons.mp h with z | z; cases z; exact z)
      show 1 + valP ps ≤ ((cntS ps + 1 : Nat) : Int) - 1000
      omega
  | none :: ps => by
    obtain ⟨h1, h2⟩ := valP_le ps
    refine ⟨fun h => absurd (List.mem_cons_self ..) h, fun _ => ?_⟩
    show -1000 + valP ps ≤ (cntS ps : Int) - 1000
    by_cases c : none ∈ ps
    · have := h2 c
      omega
    · obtain ⟨a1, a2⟩ := h1 c
      omega
def spEFull (K : PySem.W.Frag) (j : Nat) : Sp := fun vs H Q _ => ∃ (v : V) (d : PyData) (m : Int), vs = [v] ∧ Da K All H v d ∧ Wf j d m ∧ Fit 4000000 150 d ∧ ∀ H', Same H H' → Q (.int m) H'
/-- an agent at which a net isn't still -/
def loudB (S : NetS) (a : Nat) : Bool := decide (headOf S a = ("def" : Str)) || (decide (headOf S a ≠ ("out" : Str)) && match lk S.ends (a, 0) with
  | some (b, p) => decide (p = 0) && decide (headOf S b ≠ ("out" : Str))
  | none => false)
def spEStill (K : PySem.W.Frag) (C : Addr) : Sp := fun vs H Q _ => ∃ (n r e : Addr) (S : NetS), vs = [.ref n] ∧ NetAt K C H n r e S ∧ SyOk S ∧ ∀ H', Same H H' → Q (.bl (!(S.rows.map (·.1)).any (loudB S))) H'
theorem loud_def {S : NetS} {a : Nat} (h : headOf S a = ("def" : Str)) : loudB S a = true := by
  unfold loudB
  rw [decide_eq_true h, Bool.true_or]
theorem loud_not {S : NetS} {a : Nat} (h : headOf S a ≠ ("def" : Str)) : loudB S a = (decide (headOf S a ≠ ("out" : Str)) && match lk S.ends (a, 0) with
  | some (b, p) => decide (p = 0) && decide (headOf S b ≠ ("out" : Str))
  | none => false) := by
  unfold loudB
  rw [decide_eq_false h, Bool.false_or]
theorem fit_rowsC {S : NetS} (g : NetB S) (ok : S.Ok) (hr : S.rows.length ≤ 1600) : Fit 4000000 150 (rowsD S) := by
  have h1 : ∀ x ∈ S.rows, Fit 800 10 (PyData.int (x.1 : Int)) := fun x hx => (fit_nat x.1 (by have := ok.lt x hx; have := g.nx; omega)).le (by omega) (by omega)
  have h2 : ∀ x ∈ S.rows, Fit 800 10 (PyData.tuple [x.2.1, .int (x.2.2 : Int)]) := fun x hx => by
    obtain ⟨s, ds, e, f⟩ := g.sy x hx
    have f2 := fit_nat x.2.2 (by have := g.lo x hx; omega)
    exact (Fit.tup (m := 3) (FitAll.cons f (FitAll.cons (f2.le (Nat.le_refl _) (Nat.zero_le _)) (FitAll.nil (n := 0))))).le (by omega) (by omega)
  exact (fit_kv (k := 1600) h1 h2 hr).le (by decide) (by decide)
theorem mov_loud {S : NetS} {a : Nat} (h : movB S a = true) : loudB S a = true := by
  by_cases c : headOf S a = ("def" : Str)
  · exact loud_def c
  · rw [mov_not c, Bool.and_eq_true] at h
    obtain ⟨h1, h2⟩ := h
    rw [loud_not c, h1, Bool.true_and]
    cases e : lk S.ends (a, 0) with
    | none =>
      rw [e] at h2
      cases h2
    | some y =>
      obtain ⟨b, p⟩ := y
      rw [e] at h2
      have h2 : (decide (p = 0) && decide (a ≤ b) && decide (headOf S b ≠ ("out" : Str)) && decide (headOf S b ≠ ("def" : Str))) = true := h2
      simp only [Bool.and_eq_true] at h2
      show (decide (p = 0) && decide (headOf S b ≠ ("out" : Str))) = true
      rw [h2.1.1.1, h2.1.2]
      rfl
theorem loud_mov {S : NetS} (ok : S.Ok) (sm : ∀ x y, lk S.ends x = some y → lk S.ends y = some x) {a : Nat} (ha : a ∈ S.rows.map (·.1)) (h : loudB S a = true) : ∃ b ∈ S.rows.map (·.1), movB S b = true := by
  by_cases c : headOf S a = ("def" : Str)
  · exact ⟨a, ha, mov_def c⟩
  · rw [loud_not c, Bool.and_eq_true] at h
    obtain ⟨h1, h2⟩ := h
    cases e : lk S.ends (a, 0) with
    | none =>
      rw [e] at h2
      cases h2
    | some y =>
      obtain ⟨b, p⟩ := y
      rw [e] at h2
      have h2 : (decide (p = 0) && decide (headOf S b ≠ ("out" : Str))) = true := h2
      rw [Bool.and_eq_true] at h2
      obtain ⟨h3, h4⟩ := h2
      obtain rfl := of_decide_eq_true h3
      obtain ⟨v, hv⟩ := (end_port ok e).agent
      have hb : b ∈ S.rows.map (·.1) := List.mem_map.mpr ⟨_, lk_mem hv, rfl⟩
      by_cases c2 : headOf S b = ("def" : Str)
      · exact ⟨b, hb, mov_def c2⟩
      by_cases c3 : a ≤ b
      · refine ⟨a, ha, ?_⟩
        rw [mov_not c, h1, e]
        show (true && (decide (0 = 0) && decide (a ≤ b) && decide (headOf S b ≠ ("out" : Str)) && decide (headOf S b ≠ ("def" : Str)))) = true
        rw [h4, decide_eq_true c3, decide_eq_true (p := headOf S b ≠ ("def" : Str)) c2]
        rfl
      · refine ⟨b, hb, ?_⟩
        rw [mov_not c2, h4, sm _ _ e]
        show (true && (decide (0 = 0) && decide (b ≤ a) && decide (headOf S a ≠ ("out" : Str)) && decide (headOf S a ≠ ("def" : Str)))) = true
        rw [h1, decide_eq_true (show b ≤ a by omega), decide_eq_true (p := headOf S a ≠ ("def" : Str)) c]
        rfl
theorem mvs_still {S : NetS} (ok : S.Ok) (sm : ∀ x y, lk S.ends x = some y → lk S.ends y = some x) : decide ((mvs S).length = 0) = !(S.rows.map (·.1)).any (loudB S) := by
  cases e : (S.rows.map (·.1)).any (loudB S) with
  | true =>
    obtain ⟨a, ha, h⟩ := List.any_eq_true.mp e
    obtain ⟨b, hb, hm⟩ := loud_mov ok sm ha h
    have : b ∈ mvs S := List.mem_filter.mpr ⟨hb, hm⟩
    have := List.length_pos_of_mem this
    exact decide_eq_false (by omega)
  | false =>
    refine decide_eq_true (List.length_eq_zero_iff.mpr (List.filter_eq_nil_iff.mpr fun a ha hm => ?_))
    have := List.any_eq_false.mp e a ha
    exact this (mov_loud hm)
theorem ended_due {S : NetS} (ok : S.Ok) (sm : ∀ x y, lk S.ends x = some y → lk S.ends y = some x) {ps : List (Option Nat)} (h1 : 1 ≤ ps.length) (hc : cntS ps + 1 ≤ S.rows.length) :
    endedB S ps = ((!(S.rows.map (·.1)).any (loudB S)) && decide (valP ps = (S.rows.length : Int) - 1)) := by
  unfold endedB
  rw [mvs_still ok sm, decide_eq_true (show 0 < ps.length by omega), Bool.true_and]
  obtain ⟨v1, v2⟩ := valP_le ps
  have e : (!decide (none ∈ ps) && decide (ps.length + 1 = S.rows.length)) = decide (valP ps = (S.rows.length : Int) - 1) := by
    by_cases c : none ∈ ps
    · have := v2 c
      rw [decide_eq_true c, decide_eq_false (show ¬ valP ps = (S.rows.length : Int) - 1 by omega)]
      rfl
    · obtain ⟨a1, a2⟩ := v1 c
      rw [decide_eq_false c, a1]
      by_cases d : ps.length + 1 = S.rows.length
      · rw [decide_eq_true d, decide_eq_true (by omega)]
        rfl
      · rw [decide_eq_false d, decide_eq_false (by omega)]
        rfl
  rw [e, Bool.and_comm]
end Ow

/-! del d[k], tuple keys. -/
namespace Ow
open PySem PySem.Spec PyProof.Rows L2
section
open PySem.W PySem.Calls PyProof.V
variable {K : Type} [DecidableEq K] {prog : Program} {w : World} {knd : HeapKind prog w K}
theorem delT_meets {d b : Addr} {k : K} : MeetsIn prog w (Builtin.«dict.__delitem__» ⟨[.ref d, .ref b], []⟩) (fun A R s => ∃ xs, knd.room A.in1 ∧ knd.is s.heap k b ∧ s.heap.DictOfH knd d xs ∧ xs.length ≤ sizeLine ∧ (atKey xs k).isSome = true ∧
      ∀ h' tk, h'.DictOfH knd d (DT.dropH xs k) → Heap.SameBut d s.heap h' → R (.ok (.ret .none)) { s with heap := h', toks := tk }) :=
  .of_wp fun A R s ⟨xs, room, key, hm, big, there, fin⟩ => by
    unfold Builtin.«dict.__delitem__»
    apply wpAny_bind
    unfold Builtin.Dict.dictSlotArgs
    apply wpAny_bind
    apply wpAny_notOrdered_dict hm.typeIs
    show wpAny (model prog w) _ (pure (Value.ref d, Value.ref b)) _ _ s
    apply wpAny_pure
    show wpAny (model prog w) _ (Builtin.Dict.takeOut d (.ref b) >>= _) _ _ s
    apply wpAny_bind
    refine DT.takeH room key hm big (fun no => ?_) fun p e hp hev h' hm' hs' => wpAny_bind (wpAny_letGo (wpAny_pure ⟨Value.none, rfl, fin h' _ hm' hs'⟩))
    rw [no] at there
    cases there
end
section
variable {X : Cx} {pins : List (Addr × Obj)} {σ : L2.St} {H : Hp} {s : Shared} {a b : Addr} {kvs : List (List L2.Key × V)} {k : List L2.Key} {v : V} {A : Around} {E : Value → Shared → Prop}
/-- del a[b], b a tuple that is a key of a -/
theorem delT_run {Q : Unit → Shared → Prop} (hu : X.A.units + 1 < cLine) (I : Inv X pins σ H s) (ha : H a = some (.dT kvs)) (hb : H b = some (.tup (k.map kV))) (hv : valV kvs k = some v) (fin : ∀ s', Inv X pins σ (upd H a (.dT (dropK kvs k))) s' → Q () s') :
    wpAny (model X.prog X.w) X.A (delItem (.ref a) (.ref b)) Q E s := by
  obtain ⟨z, hd, xs', rel, dd⟩ := dt_of I.hok ha
  have big : xs'.length ≤ sizeLine := by
    rw [← Paired.length rel]
    exact z
  have there : (atKey xs' k).isSome = true := by
    have r := rel.val k
    rw [hv] at r
    cases q : atKey xs' k with
    | none =>
      rw [q] at r
      exact (show False from r).elim
    | some p => rfl
  refine wpAny_delItem_slot dd.typeIs (by decide) PySem.F.slot_dict_delitem (call_meetsIn PySem.F.slot_dict_delitem dd.typeIs PySem.F.entry_dict_delitem (PySem.F.args_dict_delitem_2 _ _) (delT_meets (knd := tupleKind (mixKind X.prog X.w)) (k := k)) ⟨xs', tupleKind_room_in1 hu, key_of I.hok hb, dd, big, there, fun h' tk dd' hs => fin _ ?_⟩)
  obtain ⟨o, es, ep, hq, h2, h3, h4, _, h5⟩ := dd'
  refine d_write I (by rw [ha]; exact True.intro) hs ⟨o, hq⟩ ⟨Nat.le_trans (dropK_le kvs k) z, hd, _, ?_, o, es, ep, hq, h2, h3, h4, h5⟩
  exact (L2.DX.KT_drop k rel).keeps fun c ys ec => by
    rw [upd_ne (ne_of ec ha (fun z => nomatch z))]
    exact ec
end
def sDDelT (td ty : TE) : L2.TS := fun D σ H => td σ H fun x H1 => ty σ H1 fun y H2 => ∃ (a b : Addr) (kvs : List (List L2.Key × V)) (k : List L2.Key) (v : V), x = .ref a ∧ y = .ref b ∧ H2 a = some (.dT kvs) ∧ H2 b = some (.tup (k.map kV)) ∧ valV kvs k = some v ∧ D.nx σ (upd H2 a (.dT (dropK kvs k)))
theorem ps_ddelT {X : Cx} {o i : Expr} {td ty : TE} {pos tpos : Pos} (hu : X.A.units + 1 < cLine) (po : PE X o td) (pi : PE X i ty) : PS X (.Delete [.Subscript o i tpos] pos) (sDDelT td ty) := by
  constructor
  intro pins s σ H D I want
  apply wpAny_Delete
  apply wpAny_deleteEach_cons
  apply wpAny_delete_Subscript
  refine thn (po.run pins s σ H _ I want) ?_
  rintro u s1 ⟨x, H1, I1, rx, q1⟩
  refine thn (pi.run pins s1 σ H1 _ I1 q1) ?_
  rintro iv s2 ⟨y, H2, I2, ry, a, b, kvs, k, v, rfl, rfl, ha, hb, hv, q2⟩
  obtain rfl : u = Value.ref a := rx
  obtain rfl : iv = Value.ref b := ry
  exact delT_run hu I2 ha hb hv fun s3 I3 => wpAny_deleteEach_nil ⟨σ, _, I3, q2⟩
end Ow

/-! An agent taken away. -/
namespace Ow
open PySem PySem.Spec PyProof.Rows L2
def NetS.away (S : NetS) (a : Nat) : NetS := ⟨S.rows.filter fun x => decide (x.1 ≠ a), S.ends.filter fun x => decide (x.1.1 ≠ a) && decide (x.2.1 ≠ a), S.next⟩
/-- a pair of ends that is gone behind the first places -/
def gone (a i : Nat) (z : Pt × Pt) : Bool := (decide (z.1.1 = a) && decide (z.1.2 < i)) || (decide (z.2.1 = a) && decide (z.2.2 < i))
def endsI (S : NetS) (a i : Nat) : List (Pt × Pt) := S.ends.filter fun z => !gone a i z
theorem paired_drop {κ α : Type} [DecidableEq κ] {R : κ × V → α → Prop} {f : α → Bool} {k : κ} : ∀ {kvs : List (κ × V)} {xs : List α}, Paired R kvs xs → (∀ kv x, R kv x → (decide (kv.1 ≠ k) = f x)) → Paired R (dropK kvs k) (xs.filter f)
  | _, _, .nil, _ => .nil
  | _, _, .cons (a := kv) (b := x) h t, hf => by
    have ih := paired_drop t hf
    have e := hf kv x h
    unfold dropK at ih ⊢
    rw [List.filter_cons, List.filter_cons, e]
    cases f x with
    | true => exact .cons h ih
    | false => exact ih
theorem lk_filter {l : List (Pt × Pt)} (nd : (l.map (·.1)).Nodup) {f : Pt × Pt → Bool} {x : Pt} : lk (l.filter f) x = match lk l x with | some y => if f (x, y) = true then some y else none | none => none := by
  have nd2 : ((l.filter f).map (·.1)).Nodup := (List.filter_sublist.map _).nodup nd
  cases e : lk l x with
  | none =>
    cases e2 : lk (l.filter f) x with
    | none => rfl
    | some y =>
      have := (List.mem_filter.mp (lk_mem e2)).1
      exact absurd rfl (lk_none e _ this)
  | some y =>
    have hm := lk_mem e
    show _ = if f (x, y) = true then some y else none
    by_cases c : f (x, y) = true
    · rw [if_pos c]
      exact lk_of_mem nd2 (List.mem_filter.mpr ⟨hm, c⟩)
    · rw [if_neg c]
      cases e2 : lk (l.filter f) x with
      | none => rfl
      | some y' =>
        obtain ⟨h1, h2⟩ := List.mem_filter.mp (lk_mem e2)
        have := lk_of_mem nd h1
        rw [e] at this
        cases this
        exact absurd h2 c
section
variable {S : NetS} {a i : Nat}
theorem endsI_zero : endsI S a 0 = S.ends := by
  unfold endsI
  refine List.filter_eq_self.mpr fun z _ => ?_
  simp [gone]
theorem endsI_end {low : Nat} (h : ∀ z ∈ S.ends, (z.1.1 = a → z.1.2 < low) ∧ (z.2.1 = a → z.2.2 < low)) : endsI S a low = S.ends.filter fun x => decide (x.1.1 ≠ a) && decide (x.2.1 ≠ a) := by
  unfold endsI
  refine List.filter_congr fun z hz => ?_
  obtain ⟨h1, h2⟩ := h z hz
  unfold gone
  by_cases c1 : z.1.1 = a
  · simp [c1, h1 c1]
  · by_cases c2 : z.2.1 = a
    · simp [c1, c2, h2 c2]
    · simp [c1, c2]
/-- a place with nothing left at it -/
theorem endsI_none (nd : (S.ends.map (·.1)).Nodup) (sm : ∀ x y, lk S.ends x = some y → lk S.ends y = some x) (h : lk (endsI S a i) (a, i) = none) : endsI S a (i + 1) = endsI S a i := by
  unfold endsI
  refine List.filter_congr fun z hz => ?_
  have key : gone a i z = false → z.1 ≠ (a, i) ∧ z.2 ≠ (a, i) := fun hg => by
    unfold endsI at h
    rw [lk_filter nd] at h
    constructor
    · intro e
      have e1 : lk S.ends (a, i) = some z.2 := by
        rw [← e]
        exact lk_of_mem nd hz
      rw [e1] at h
      have h : (if (!gone a i ((a, i), z.2)) = true then some z.2 else none) = none := h
      rw [show (((a, i), z.2) : Pt × Pt) = z from by rw [← e], hg] at h
      cases h
    · intro e
      have e1 : lk S.ends (a, i) = some z.1 := by
        rw [← e]
        exact sm _ _ (lk_of_mem nd hz)
      rw [e1] at h
      have h : (if (!gone a i ((a, i), z.1)) = true then some z.1 else none) = none := h
      have hg2 : gone a i ((a, i), z.1) = false := by
        unfold gone at hg ⊢
        rw [Bool.or_comm, ← e]
        exact hg
      rw [hg2] at h
      cases h
  cases hg : gone a i z with
  | true =>
    have : gone a (i + 1) z = true := by
      unfold gone at hg ⊢
      simp only [Bool.or_eq_true, Bool.and_eq_true, decide_eq_true_eq] at hg ⊢
      rcases hg with ⟨h1, h2⟩ | ⟨h1, h2⟩
      · exact .inl ⟨h1, by omega⟩
      · exact .inr ⟨h1, by omega⟩
    rw [this]
  | false =>
    obtain ⟨k1, k2⟩ := key hg
    have : gone a (i + 1) z = false := by
      unfold gone at hg ⊢
      simp only [Bool.or_eq_false_iff, Bool.and_eq_false_iff, decide_eq_false_iff_not] at hg ⊢
      refine ⟨?_, ?_⟩
      · by_cases c : z.1.1 = a
        · refine .inr fun q => k1 (Prod.ext c ?_)
          rcases hg.1 with h | h
          · exact absurd c h
          · show z.1.2 = i
            omega
        · exact .inl c
      · by_cases c : z.2.1 = a
        · refine .inr fun q => k2 (Prod.ext c ?_)
          rcases hg.2 with h | h
          · exact absurd c h
          · show z.2.2 = i
            omega
        · exact .inl c
    rw [this]
/-- a place that is tied yet: it and what it is tied to go -/
theorem endsI_some (nd : (S.ends.map (·.1)).Nodup) (sm : ∀ x y, lk S.ends x = some y → lk S.ends y = some x) {y : Pt} (h : lk (endsI S a i) (a, i) = some y) : ((endsI S a i).filter fun z => decide (z.1 ≠ (a, i))).filter (fun z => decide (z.1 ≠ y)) = endsI S a (i + 1) := by
  have hy : lk S.ends (a, i) = some y := by
    unfold endsI at h
    rw [lk_filter nd] at h
    cases e : lk S.ends (a, i) with
    | none =>
      rw [e] at h
      cases h
    | some y' =>
      rw [e] at h
      have h : (if (!gone a i ((a, i), y')) = true then some y' else none) = some y := h
      by_cases c : (!gone a i ((a, i), y')) = true
      · rw [if_pos c] at h
        exact h
      · rw [if_neg c] at h
        cases h
  unfold endsI
  rw [List.filter_filter, List.filter_filter]
  refine List.filter_congr fun z hz => ?_
  have hz1 := lk_of_mem nd hz
  have i1 : z.1 = y ↔ z.2 = (a, i) := by
    constructor
    · intro e
      rw [e, sm _ _ hy] at hz1
      exact (Option.some.inj hz1).symm
    · intro e
      have := sm _ _ hz1
      rw [e, hy] at this
      exact (Option.some.inj this).symm
  have g : gone a (i + 1) z = (gone a i z || decide (z.1 = (a, i)) || decide (z.2 = (a, i))) := by
    unfold gone
    obtain ⟨⟨p, q⟩, ⟨r, s⟩⟩ := z
    rw [Bool.eq_iff_iff]
    simp only [Bool.or_eq_true, Bool.and_eq_true, decide_eq_true_eq, Prod.mk.injEq]
    omega
  rw [g]
  by_cases c1 : z.1 = (a, i)
  · simp [c1]
  · by_cases c2 : z.2 = (a, i)
    · simp [c1, c2, i1.mpr c2]
    · have c3 : z.1 ≠ y := fun q => c2 (i1.mp q)
      simp [c1, c2, c3]
end
def NetS.partly (S : NetS) (a i : Nat) : NetS := ⟨S.rows, endsI S a i, S.next⟩
theorem partly_ok {S : NetS} {a i : Nat} (ok : S.Ok) : (S.partly a i).Ok := ⟨ok.inc, ok.lt, ok.big, ok.len, ok.low, Nat.le_trans (List.length_filter_le ..) ok.el, fun z hz => ok.ep z (List.mem_filter.mp hz).1⟩
theorem away_ok {S : NetS} {a : Nat} (ok : S.Ok) : (S.away a).Ok := by
  refine ⟨ok.inc.filter _, fun x hx => ok.lt x (List.mem_filter.mp hx).1, ok.big, Nat.le_trans (List.length_filter_le ..) ok.len, fun x hx => ok.low x (List.mem_filter.mp hx).1, Nat.le_trans (List.length_filter_le ..) ok.el, fun z hz => ?_⟩
  obtain ⟨h1, h2⟩ := List.mem_filter.mp hz
  simp only [Bool.and_eq_true, decide_eq_true_eq] at h2
  have one : ∀ {x : Pt}, x.1 ≠ a → S.port x → (S.away a).port x := fun {x} hx hp => by
    obtain ⟨s, l, e, hl⟩ := hp
    exact ⟨s, l, lk_of_mem (((List.filter_sublist (p := fun x => decide (x.1 ≠ a)) (l := S.rows)).map (·.1)).nodup ok.nd) (List.mem_filter.mpr ⟨lk_mem e, by simpa using hx⟩), hl⟩
  exact ⟨one h2.1 (ok.ep z h1).1, one h2.2 (ok.ep z h1).2⟩
def spTakeN (K : PySem.W.Frag) (C : Addr) : Sp := fun vs H Q _ => ∃ (n r e : Addr) (S : NetS) (a : Nat) (sym : PyData) (low : Nat), vs = [.ref n, .int (a : Int)] ∧ NetAt K C H n r e S ∧ lk S.rows a = some (sym, low) ∧ (S.ends.map (·.1)).Nodup ∧ (∀ x y, lk S.ends x = some y → lk S.ends y = some x) ∧ (∀ x, lk S.ends x ≠ some x) ∧
  ∀ H', NetAt K C H' n r e (S.away a) → Kx [n, r, e] H H' → Q .non H'
theorem endsI_back {S : NetS} {a i : Nat} (nd : (S.ends.map (·.1)).Nodup) (sm : ∀ x y, lk S.ends x = some y → lk S.ends y = some x) {x y : Pt} (h : lk (endsI S a i) x = some y) : lk (endsI S a i) y = some x ∧ lk S.ends x = some y := by
  unfold endsI at h ⊢
  rw [lk_filter nd] at h ⊢
  cases e : lk S.ends x with
  | none =>
    rw [e] at h
    cases h
  | some y' =>
    rw [e] at h
    have h : (if (!gone a i (x, y')) = true then some y' else none) = some y := h
    by_cases c : (!gone a i (x, y')) = true
    · rw [if_pos c] at h
      cases h
      rw [sm _ _ e]
      have g2 : gone a i (y, x) = gone a i (x, y) := by
        unfold gone
        rw [Bool.or_comm]
      refine ⟨?_, rfl⟩
      show (if (!gone a i (y, x)) = true then some x else none) = some x
      rw [g2, if_pos c]
    · rw [if_neg c] at h
      cases h
end Ow

/-! The pairs of a dict with tuple keys, each held by one name. -/
namespace Ow
open PySem PySem.Spec PyProof.Rows
section
open PySem.W PySem.Calls PyProof.V DT
variable {prog : Program} {w : World} {A : Around} {E : Value → Shared → Prop} {s : Shared}
theorem dead_load {a : Addr} {Q : Option Obj → Shared → Prop} (ho : s.heap.get? a = none) (h : Q none s) : wpAny (model prog w) A (loadIfAlive a) Q E s := by
  have z : Q (s.heap.get? a) s := ho ▸ h
  exact fun _ _ _ => z
/-- a further pair, where the tuple that was handed out is no more -/
theorem nextDead {it d a : Addr} {f : Bool} {i ep : Nat} {es : Array DictEntry} {ok ov : Value} {Q : Option Value → Shared → Prop} (hit : KdxIt s.heap it d i es.size ep ok ov a f) (ha : s.heap.get? a = none)
    (hm : Raw s.heap d es ep) (hi : i < es.size)
    (hQ : ∀ h' ok' ov' a' f', KdxIt h' it d (i + 1) es.size ep ok' ov' a' f' → a' ≠ it → h'.get? s.heap.objs.size = some { cls := .type "tuple", data := .seq #[es[i].key, es[i].val] } → (∀ b o, b ≠ it → s.heap.get? b = some o → h'.get? b = some o) → Q (some (.ref s.heap.objs.size)) { s with heap := h' }) :
    wpAny (model prog w) A (pyNext (.ref it)) Q E s := by
  obtain ⟨hp, g, dr, tk, os⟩ := s
  obtain ⟨od, hod, hcd, hdd⟩ := id hm
  have hT : Shared.TypeIs ⟨hp, g, dr, tk, os⟩ (.ref it) "dict_itemiterator" := ⟨_, hit, rfl⟩
  unfold pyNext; refine wpAny_bind (wpAny_attempt (wpAny_callSpecial?_slot (name := Str.ofString "__next__") hT PySem.F.slot_dict_itemiterator_next (wpAny_call_entry PySem.F.slot_dict_itemiterator_next hT PySem.F.entry_dict_itemiterator_next ?_ (PySem.F.args_dict_itemiterator_next_1 _))))
  refine wpAny_bind (wpAny_pure ?_); refine wpAny_bind ?_; refine wpAny_bind ?_
  first | refine wpAny_bind (wpAny_typeNameOfWhole_itemiter hT (wpAny_pure ?_)); skip | refine wpAny_bind (wpAny_typeNameOf_itemiter hT (wpAny_pure ?_))
  refine wpAny_bind (wpAny_fieldsOf hit rfl ?_); have hown : Builtin.Dict_items.ownsTuple "dict_itemiterator" = true := by decide
  simp only [hown, if_true]; show wpAny _ _ (if (Value.ref d == Value.none) = true then _ else _) _ _ _
  rw [if_neg (show ¬ ((Value.ref d == Value.none) = true) from Bool.false_ne_true)]; refine wpAny_bind (wpAny_pure ?_)
  refine wpAny_bind (wpAny_dictEntries hod hdd ?_); rw [if_neg (by simp)]
  refine wpAny_bind (wpAny_pure ?_); refine wpAny_bind (wpAny_dictEpoch hod hdd ?_)
  rw [if_neg (by simp)]; refine wpAny_pure ?_
  simp only [show ¬ ((i : Int) < 0) from by omega, if_false, Int.toNat_natCast, Array.getElem?_eq_getElem hi]; refine wpAny_bind ?_
  first | refine wpAny_bind (wpAny_typeNameOfWhole_itemiter hT (wpAny_pure ?_)); skip | refine wpAny_bind (wpAny_typeNameOf_itemiter hT (wpAny_pure ?_))
  refine wpAny_bind (wpAny_isOneOf_itemiter hT ?_); show wpAny _ _ (setField (.ref it) 3 (rawInt ((i : Int) + 1)) >>= _) _ _ ⟨hp, g, dr, tk, os⟩
  refine wpAny_bind (wpAny_setField_rec hit (by simp) fun h1 he1 hs1 => ?_)
  replace hs1 : Heap.SameBut it hp h1 := hs1
  replace he1 : KdxIt h1 it d (i + 1) es.size ep ok ov a f := by
    have e : ((i + 1 : Nat) : Int) = (i : Int) + 1 := by omega
    unfold KdxIt
    rw [e]
    simpa [rawInt] using he1
  have hT1 : Shared.TypeIs ⟨h1, g, dr, tk, os⟩ (.ref it) "dict_itemiterator" := ⟨_, he1, rfl⟩
  refine wpAny_bind (wpAny_holding ?_); refine wpAny_bind (wpAny_isOneOf_itemiter hT1 ?_)
  refine wpAny_bind (wpAny_isOneOf_itemiter hT1 ?_)
  show wpAny _ _ (Builtin.Dict_items.pairFromOwner (.ref it) 6 es[i].key es[i].val) _ _ ⟨h1, g, dr, tk, os⟩
  unfold Builtin.Dict_items.pairFromOwner; refine wpAny_bind (wpAny_newTuple ?_)
  have he2 : KdxIt (h1.push { cls := .type "tuple", data := .seq #[es[i].key, es[i].val] }) it d (i + 1) es.size ep ok ov a f := Heap.get?_push_of_some _ he1
  have hz1 : h1.objs.size = hp.objs.size := hs1.1
  have hil : it < hp.objs.size := Heap.lt_size hit
  have ait : a ≠ it := fun z => by
    have h0 : hp.get? it = none := z ▸ ha
    have h1 : hp.get? it = some _ := hit
    rw [h0] at h1
    cases h1
  have ha2 : a ≠ hp.objs.size → (h1.push { cls := .type "tuple", data := .seq #[es[i].key, es[i].val] }).get? a = none := fun ne => by
    rw [Heap.get?_push_ne _ _ _ (by rw [hz1]; exact ne), hs1.2 a ait]
    exact ha
  generalize hh2 : h1.push { cls := .type "tuple", data := .seq #[es[i].key, es[i].val] } = h2 at he2 ha2
  have ht2 : h2.get? hp.objs.size = some { cls := .type "tuple", data := .seq #[es[i].key, es[i].val] } := by rw [← hh2, ← hz1]; exact Heap.get?_push_size _ rfl
  have hk2 : ∀ b o, b ≠ it → hp.get? b = some o → h2.get? b = some o := fun b o hb e => by rw [← hh2]; exact Heap.get?_push_of_some _ (hs1.extBut b o hb e)
  show wpAny _ _ (Builtin.Dict_items.ownedTupleIsFree (.ref it) >>= _) _ _ ⟨h2, g, dr, tk, os⟩
  rw [hz1]
  clear hh2 he1 hs1 hT1 hz1 h1
  refine wpAny_bind ?_; unfold Builtin.Dict_items.ownedTupleIsFree
  refine wpAny_bind (wpAny_field he2 rfl (x := rawInt a) rfl ?_)
  show wpAny _ _ (loadIfAlive ((a : Int).toNat) >>= _) _ _ _
  rw [Int.toNat_natCast]
  by_cases ne : a = hp.objs.size
  · subst ne
    refine wpAny_bind (kdx_alive ht2 ?_)
    simp only [Option.isNone_some, Bool.false_eq_true, if_false]
    refine wpAny_bind (wpAny_field he2 rfl (x := .bool f) rfl ?_)
    cases f with
    | true =>
      rw [if_neg (show ¬ ((Value.bool true != Value.bool true) = true) from Bool.false_ne_true)]
      refine wpAny_pure ?_
      simp only [Bool.false_eq_true, if_false]
      exact wpAny_pure (wpAny_pure ⟨_, rfl, wpAny_pure (hQ h2 _ _ _ _ he2 ait ht2 hk2)⟩)
    | false =>
      rw [if_pos (show (Value.bool false != Value.bool true) = true from rfl)]
      refine wpAny_bind (wpAny_setField_rec he2 (by simp) fun h3 he3 hs3 => ?_)
      replace hs3 : Heap.SameBut it h2 h3 := hs3
      replace he3 : KdxIt h3 it d (i + 1) es.size ep ok ov hp.objs.size true := he3
      refine wpAny_pure ?_
      simp only [Bool.false_eq_true, if_false]
      exact wpAny_pure (wpAny_pure ⟨_, rfl, wpAny_pure (hQ h3 _ _ _ _ he3 ait (hs3.extBut _ _ (Nat.ne_of_gt hil) ht2) fun b o hb e => hs3.extBut b o hb (hk2 b o hb e))⟩)
  refine wpAny_bind (dead_load (ha2 ne) ?_)
  simp only [Option.isNone_none, if_true]
  refine wpAny_pure ?_
  try simp only [if_true]
  refine wpAny_bind (wpAny_field he2 rfl (x := ok) rfl ?_); refine wpAny_bind (wpAny_field he2 rfl (x := ov) rfl ?_)
  refine wpAny_bind (wpAny_setField_rec he2 (by simp) fun h3 he3 hs3 => ?_)
  replace hs3 : Heap.SameBut it h2 h3 := hs3
  replace he3 : KdxIt h3 it d (i + 1) es.size ep es[i].key ov a f := he3
  refine wpAny_bind (wpAny_setField_rec he3 (by simp) fun h4 he4 hs4 => ?_)
  replace hs4 : Heap.SameBut it h3 h4 := hs4
  replace he4 : KdxIt h4 it d (i + 1) es.size ep es[i].key es[i].val a f := he4
  refine wpAny_bind (wpAny_setField_rec he4 (by simp) fun h5 he5 hs5 => ?_)
  replace hs5 : Heap.SameBut it h4 h5 := hs5
  replace he5 : KdxIt h5 it d (i + 1) es.size ep es[i].key es[i].val hp.objs.size f := he5
  refine wpAny_bind (wpAny_setField_rec he5 (by simp) fun h6 he6 hs6 => ?_)
  replace hs6 : Heap.SameBut it h5 h6 := hs6
  replace he6 : KdxIt h6 it d (i + 1) es.size ep es[i].key es[i].val hp.objs.size false := he6
  have all : ∀ b o, b ≠ it → h2.get? b = some o → h6.get? b = some o := fun b o hb e => hs6.extBut b o hb (hs5.extBut b o hb (hs4.extBut b o hb (hs3.extBut b o hb e)))
  refine wpAny_bind (wpAny_letGo (wpAny_pure (wpAny_pure ⟨_, rfl, wpAny_pure (hQ h6 _ _ _ _ he6 (Nat.ne_of_gt hil) (all _ _ (Nat.ne_of_gt hil) ht2) fun b o hb e => all b o hb (hk2 b o hb e))⟩)))
/-- the iterator's state, whether a tuple of its is out, or no more, or none was yet -/
def ItAny (h : Heap) (it d : Addr) (i n ep : Nat) : Prop := ∃ ok ov, IsItemIter h it d i n ep ok ov ∨ ∃ a f, KdxIt h it d i n ep ok ov a f ∧ a ≠ it
theorem next_any {it d : Addr} {i ep : Nat} {es : Array DictEntry} {Q : Option Value → Shared → Prop} (hit : ItAny s.heap it d i es.size ep) (hm : Raw s.heap d es ep) (hi : i < es.size)
    (hQ : ∀ h', ItAny h' it d (i + 1) es.size ep → h'.get? s.heap.objs.size = some { cls := .type "tuple", data := .seq #[es[i].key, es[i].val] } → (∀ b o, b ≠ it → s.heap.get? b = some o → h'.get? b = some o) → Q (some (.ref s.heap.objs.size)) { s with heap := h' }) :
    wpAny (model prog w) A (pyNext (.ref it)) Q E s := by
  obtain ⟨ok, ov, hit | ⟨a, f, hit, ne⟩⟩ := hit
  · exact nextI hit hm hi fun h' h1 h2 _ h4 => hQ h' ⟨_, _, .inr ⟨_, _, h1, Nat.ne_of_gt (Heap.lt_size hit)⟩⟩ h2 h4
  · cases ha : s.heap.get? a with
    | some oa => exact nextO hit ha ne hm hi fun h' h1 h2 _ h4 => hQ h' ⟨_, _, .inr ⟨_, _, h1, ne⟩⟩ h2 h4
    | none => exact nextDead hit ha hm hi fun h' _ _ _ _ h1 h2 h3 h4 => hQ h' ⟨_, _, .inr ⟨_, _, h1, h2⟩⟩ h3 h4
theorem end_any {it d : Addr} {i ep : Nat} {es : Array DictEntry} {Q : Option Value → Shared → Prop} (hh : A.handled = none) (hit : ItAny s.heap it d i es.size ep) (hm : Raw s.heap d es ep) (hge : es.size ≤ i)
    (hQ : ∀ h', Heap.ExtBut it s.heap h' → Q none { s with heap := h' }) : wpAny (model prog w) A (pyNext (.ref it)) Q E s := by
  obtain ⟨ok, ov, hit | ⟨a, f, hit, ne⟩⟩ := hit
  · exact endI hh hit hm hge hQ
  · exact endO hh hit hm hge hQ
end
end Ow
namespace Ow
open PySem PySem.Spec PyProof.Rows L2
section
variable {X : Cx} {pins : List (Addr × Obj)} {σ : L2.St} {H : Hp} {s : Shared} {d : Addr} {o : Obj}
/-- a locked dict with tuple keys: its entries, with their values -/
theorem frzTv {kvs : List (List Key × V)} (I : Inv X pins σ H s) (h : H d = some (.frz o (.dT kvs))) :
    (d == sysModules) = false ∧ ∃ (es : Array DictEntry) (ep : Nat), DT.Raw s.heap d es ep ∧ o.data = .dict es ep ∧ es.size = kvs.length ∧
      ∀ (i : Nat) (k : List Key) (v : V), kvs[i]? = some (k, v) → ∃ (en : DictEntry) (q : Addr), es[i]? = some en ∧ en.key = .ref q ∧ H q = some (.tup (k.map kV)) ∧ RelV v en.val := by
  obtain ⟨hd, z, hs, xs, pr, o', es, ep, ho, hx, hdt, he, r⟩ := I.hok d _ h
  rw [hd] at ho
  cases ho
  refine ⟨hs, es, ep, ⟨o, hd, hx, hdt⟩, hdt, ?_, fun i k v e => ?_⟩
  · have l1 : es.size = xs.length := size_of_entries he
    have l2 : kvs.length = xs.length := Paired.length pr
    omega
  · obtain ⟨b, hb, e1, e2, e3⟩ := paired_get pr e
    have q := entry_at he i
    rw [hb] at q
    exact ⟨_, b.2.1, q, rfl, e2, e3⟩
/-- the pairs of the locked dict at d, each a new tuple of the key's own tuple and the value -/
def ItiT (d : Addr) (o : Obj) (kvs : List (List Key × V)) : It :=
  ⟨fun i H => H d = some (.frz o (.dT kvs)) ∧ i < kvs.length, fun i H x H' => ∃ (T : Addr) (k : List Key) (v : V) (q : Addr), kvs[i]? = some (k, v) ∧ x = .ref T ∧ H q = some (.tup (k.map kV)) ∧ H T = none ∧ H' = upd H T (.tup [.ref q, v]), fun i H => H d = some (.frz o (.dT kvs)) ∧ kvs.length ≤ i⟩
theorem turn_itemsT {P : Program} {w : World} {K : PySem.W.Frag} {es : Array DictEntry} {ep : Nat} {kvs : List (List Key × V)} {x : Str} {tpos : Pos} (it : Addr) (hod : o.data = .dict es ep) (hlen : es.size = kvs.length) :
    Turn P w K (.Name x tpos) (ItiT d o kvs) [it] it (fun i h => ItAny h it d i es.size ep) where
  mem := List.mem_singleton.mpr rfl
  obj := fun i h st b hb => by
    obtain rfl : b = it := List.mem_singleton.mp hb
    obtain ⟨ok, ov, e | ⟨a, f, e, _⟩⟩ := st
    · exact ⟨_, e, fun v z => nomatch z⟩
    · exact ⟨_, e, fun v z => nomatch z⟩
  keep := fun i h h' st k => by
    obtain ⟨ok, ov, e | ⟨a, f, e, ne⟩⟩ := st
    · exact ⟨ok, ov, .inl (k it (List.mem_singleton.mpr rfl) _ e)⟩
    · exact ⟨ok, ov, .inr ⟨a, f, k it (List.mem_singleton.mpr rfl) _ e, ne⟩⟩
  item := by
    intro X hP hw hK hc i pins s σ H E I hf st hg
    subst hP hw hK
    obtain ⟨hd, hi⟩ := hg
    obtain ⟨hs, es', ep', hm, hdt, hsz, ent⟩ := frzTv I hd
    obtain ⟨rfl, rfl⟩ := dict_ep hod hdt
    obtain ⟨⟨k, v⟩, hkv⟩ : ∃ p, kvs[i]? = some p := ⟨kvs[i], List.getElem?_eq_getElem hi⟩
    obtain ⟨en, q, hen, hkey, hq, hrv⟩ := ent i k v hkv
    have hi' : i < es'.size := by omega
    have e3 : es'[i] = en := Option.some.inj ((Array.getElem?_eq_getElem hi').symm.trans hen)
    have hil : it < s.heap.objs.size := by
      obtain ⟨ok, ov, e | ⟨a, f, e, _⟩⟩ := st
      · exact Heap.lt_size e
      · exact Heap.lt_size e
    refine next_any st hm hi' fun h' st' hT hk => ?_
    rw [e3, hkey] at hT
    have new : ObjOk X.prog X.w (upd H s.heap.objs.size (.tup [.ref q, v])) h' s.heap.objs.size (.tup [.ref q, v]) :=
      ⟨by show 2 ≤ sizeLine; decide, [.ref q, en.val], .cons rfl (.cons hrv .nil), ⟨_, hT, rfl, _, rfl⟩⟩
    have I1 : Inv X pins σ (upd H s.heap.objs.size (.tup [.ref q, v])) { s with heap := h' } :=
      I.turnedNew (t' := s.toks) (ch := [it]) (fun b ob hb e => hk b ob (fun z => hb (List.mem_singleton.mpr z)) e) hf (Nat.le_refl _) new
    refine ⟨_, rfl, ?_⟩
    unfold letOwnedTupleGo
    refine wpAny_pure ⟨.ref s.heap.objs.size, _, I1, rfl, ⟨_, k, v, q, hkv, rfl, hq, I.hok.fresh (Nat.le_refl _), rfl⟩, st', fun b hb => ?_⟩
    obtain rfl : b = it := List.mem_singleton.mp hb
    rw [upd_ne (Nat.ne_of_lt hil)]
    exact (hf _ (List.mem_singleton.mpr rfl)).1
  done := by
    intro X hP hw hK hc i pins s σ H E I hf st hg
    subst hP hw hK
    obtain ⟨hd, hi⟩ := hg
    obtain ⟨f0, f1, f2, f3, f4, f5⟩ := hf it (List.mem_singleton.mpr rfl)
    obtain ⟨hs, es', ep', hm, hdt, hsz, ent⟩ := frzTv I hd
    obtain ⟨rfl, rfl⟩ := dict_ep hod hdt
    exact end_any (I.ok.hd hc) st hm (by omega) fun h' eb => ⟨rfl, I.turned (t' := s.toks) (fun b ob hb e => eb b ob hb e) f0 f1 f3 f4 f5⟩
  self := fun A i s Q E st h => by
    obtain ⟨ok, ov, e | ⟨a, f, e, ne⟩⟩ := st
    · exact PySem.W.kcp_self e h
    · refine wpAny_pyIter_slot ⟨_, e, rfl⟩ F.slot_dict_itemiterator_iter (wpAny_call_entry F.slot_dict_itemiterator_iter ⟨_, e, rfl⟩ PySem.W.kcp_entry ?_ (F.args_dict_itemiterator_iter_1 _))
      show wpAny _ _ (ret (.ref it)) _ _ s
      exact wpAny_pure ⟨_, rfl, "dict_itemiterator", _, ⟨_, e, rfl⟩, F.slot_dict_itemiterator_next.lookup, h⟩
/-- for x in d.items(), tuple keys; d is locked -/
def iItemsT (td : TE) : TI := fun σ H R => td σ H fun x H1 => ∃ d o kvs, x = .ref d ∧ H1 d = some (.frz o (.dT kvs)) ∧ R (ItiT d o kvs) H1
theorem pi_itemsT {X : Cx} {e : Expr} {td : TE} {apos cpos tpos : Pos} {x : Str} (he : PE X e td) (hbase : attributeBase e "items" X.env (eval e X.env) = eval e X.env := by rfl) (hline : (apos.endLine == cpos.line) = true := by rfl) :
    PI X (.Name x tpos) (.Call (.Attribute e "items" apos) [] [] cpos) (iItemsT td) := by
  refine ⟨fun pins s σ H R I h => ?_⟩
  refine wpAny_Call_method (T := "dict") (id := "dict.items") hbase rfl hline F.plainAttrs_dict F.slot_dict_items F.type_dict_items (thn (he.run pins s σ H _ I h) fun u s1 ⟨x, H1, I1, rx, d, o, kvs, ex, hd, q⟩ => ?_); subst ex
  obtain rfl : u = Value.ref d := rx
  obtain ⟨hs, es, ep, hm, hdt, hsz, ent⟩ := frzTv I1 hd
  obtain ⟨o', ho', hx', hdt'⟩ := id hm
  refine ⟨hm.typeIs, fun b z => by cases z; exact ⟨o', ho', hx'.2.1⟩, ?_⟩
  have I2 : Inv X pins σ H1 { s1 with heap := s1.heap.push { cls := .type "dict_items", data := .fields #[.ref d] } } := I1.kept (t' := s1.toks) fun b ob q => Heap.get?_push_of_some _ q
  have fin : wpAny (model X.prog X.w) X.A (pyIter (.ref s1.heap.objs.size)) (PIE X pins σ (.Name x tpos) R) X.xe { s1 with heap := s1.heap.push { cls := .type "dict_items", data := .fields #[.ref d] } } := by
    refine DT.iterI (d := d) ⟨_, Heap.get?_push_size _ rfl, rfl, rfl⟩ (hm.push _) (pi_one (tk := s1.toks) I2 _ (turn_itemsT _ hdt hsz) ⟨.none, .none, .inl ?_⟩ q)
    exact Heap.get?_push_size _ rfl
  show wpAny _ _ (callWith cpos (.builtin "dict.items") [.ref d] [] []) _ X.xe s1
  exact method_meetsIn F.slot_dict_items F.entry_dict_items rfl (PySem.evalArgs_none ⟨rfl, hm.typeIs, F.args_dict_items_1 _, _, DT.meetsItems (es := es) (ep := ep) hs, hm, fin⟩)
end
end Ow

/-! Dicts with tuple keys: written down, brought up to date, made of pairs. -/
namespace Ow
open PySem PySem.Spec PyProof.Rows L2
/-! ### {k: v, ..} whatever the keys are -/
def tPuts (D : Addr) : List (V × V) → Hp → (Hp → Prop) → Prop
  | [], H, Z => Z H
  | (y, v) :: r, H, Z => ∃ H', DPut H D y v H' ∧ tPuts D r H' Z
def tDispA (o0 : HO) (trs : List (TE × TE)) : TE := fun σ H Q => ∀ p, H p = none → tPairs trs σ (upd H p o0) fun ps H2 => tPuts p ps H2 (Q (.ref p))
section
variable {X : Cx} {pins : List (Addr × Obj)} {σ : L2.St} {E : Value → Shared → Prop} {D : Addr} {Z : Hp → Prop} {Q : PUnit → Shared → Prop}
theorem store_all (hu : X.A.units < cLine) : ∀ {ps : List (V × V)} {ws : List (Value × Value)} {H : Hp} {s : Shared}, VV ps ws → Inv X pins σ H s → tPuts D ps H Z → (∀ s' H', Inv X pins σ H' s' → Z H' → Q PUnit.unit s') → wpAny (model X.prog X.w) X.A (storeAll D ws) Q E s
  | _, _, H, s, .nil, I, g, fin => by
    unfold storeAll
    rw [List.forIn_nil]
    exact wpAny_pure (fin s H I g)
  | _, _, H, s, .cons (a := p) (b := q) h t, I, g, fin => by
    obtain ⟨H', g1, g2⟩ := g
    unfold storeAll
    rw [List.forIn_cons]
    exact wpAny_bind (wpAny_bind (put_dict hu I g1 h.1 h.2 fun s' I' => wpAny_pure (store_all hu t I' g2 fin)))
theorem pe_dispA {o0 : HO} {pos : Pos} {keys : List (Option Expr)} {values : List Expr} {trs : List (TE × TE)} (ho : o0 = .dK [] ∨ o0 = .dT []) (hu : X.A.units < cLine) (h : PPs X pos keys values trs) (hall : keys.all (·.isSome) = true) (hl : keys.length = values.length) (h0 : keys ≠ [])
    (h15 : keys.length ≤ 15) : PE X (.Dict keys values pos) (tDispA o0 trs) := by
  refine ⟨fun pins s σ H Q I q => ?_⟩
  have hn := I.hok.fresh (Nat.le_refl s.heap.objs.size)
  have I1 : Inv X pins σ (upd H s.heap.objs.size o0) { s with heap := s.heap.push { cls := .type "dict", data := .dict #[] }, toks := s.toks } := by
    rcases ho with rfl | rfl
    · exact I.laid (t' := s.toks) (fun _ _ q => Heap.get?_push_of_some _ q) (Nat.le_refl _) (dk_empty s.heap I.big)
    · exact I.laid (t' := s.toks) (fun _ _ q => Heap.get?_push_of_some _ q) (Nat.le_refl _) (dt_empty s.heap I.big)
  refine wpAny_Dict_any hall hl h0 h15 (thn (h.run pins _ σ _ _ I1 (q _ hn)) fun ws s2 ⟨ps, H2, I2, rel, q2⟩ => ?_)
  exact store_all hu rel I2 q2 fun s' H' I' z => ⟨.ref s.heap.objs.size, H', I', rfl, z⟩
end
/-! ### d.update(d2), tuple keys -/
def mergeT (kvs more : List (List Key × V)) : List (List Key × V) := more.foldl (fun acc kv => putK acc kv.1 kv.2) kvs
theorem mergeT_le : ∀ (more kvs : List (List Key × V)), (mergeT kvs more).length ≤ kvs.length + more.length
  | [], kvs => Nat.le_refl _
  | p :: r, kvs => by
    have h1 := mergeT_le r (putK kvs p.1 p.2)
    have h2 := length_putK kvs p.1 p.2
    show (mergeT (putK kvs p.1 p.2) r).length ≤ _
    rw [List.length_cons]
    omega
theorem merge_new : ∀ (more kvs : List (List Key × V)), (∀ k ∈ more.map (·.1), valV kvs k = none) → (more.map (·.1)).Nodup → mergeT kvs more = kvs ++ more
  | [], kvs, _, _ => (List.append_nil _).symm
  | p :: r, kvs, h, nd => by
    rw [List.map_cons, List.nodup_cons] at nd
    have e : putK kvs p.1 p.2 = kvs ++ [p] := putK_new p.2 (h p.1 (List.mem_cons_self ..))
    show mergeT (putK kvs p.1 p.2) r = _
    rw [e, merge_new r (kvs ++ [p]) (fun k hk => ?_) nd.2, List.append_assoc]
    · rfl
    · have ne : p.1 ≠ k := fun z => nd.1 (z ▸ hk)
      have h1 := h k (List.mem_cons_of_mem _ hk)
      clear e
      induction kvs with
      | nil => exact valV_neg ne
      | cons y kvs ih =>
        by_cases c : y.1 = k
        · rw [valV_pos c] at h1
          cases h1
        · rw [valV_neg c] at h1
          rw [List.cons_append, valV_neg c]
          exact ih (fun k' hk' => by
            have h2 := h k' hk'
            by_cases c2 : y.1 = k'
            · rw [valV_pos c2] at h2
              cases h2
            · rw [valV_neg c2] at h2
              exact h2) h1
theorem KT_merge {H : Hp} : ∀ {more : List (List Key × V)} {ys : List (List Key × Addr × Value)} {kvs : List (List Key × V)} {xs : List (List Key × Addr × Value)}, KT H more ys → KT H kvs xs → KT H (mergeT kvs more) (storedAllH xs ys)
  | _, _, _, _, .nil, r0 => r0
  | _, _, kvs, xs, .cons (a := p) (b := q) (l₁ := more) (l₂ := ys) h t, r0 => by
    have e : KT H (putK kvs p.1 p.2) (storedH xs q.1 q.2.1 q.2.2) := by
      have z := r0.put p.1 h.2.1 h.2.2
      rw [← h.1]
      exact z
    have z := KT_merge t e
    exact z
section
variable {X : Cx}
def rUpdT (P : Program) (w : World) : V → List V → Hp → VK → Prop := fun x xs H Q => ∃ (a b : Addr) (kvs more : List (List Key × V)), x = .ref a ∧ xs = [.ref b] ∧ H a = some (.dT kvs) ∧ H b = some (.dT more) ∧ a ≠ b ∧ (kvs ≠ [] ∨ (more.map fun kv => (tupleKind (mixKind P w)).hash kv.1).Nodup) ∧ kvs.length + more.length ≤ sizeLine ∧ Q .non (upd H a (.dT (mergeT kvs more)))
theorem kt_hash {H : Hp} {f : List Key → Int} : ∀ {more : List (List Key × V)} {ys : List (List Key × Addr × Value)}, KT H more ys → (ys.map fun x => f x.1) = more.map fun kv => f kv.1
  | _, _, .nil => rfl
  | _, _, .cons h t => by rw [List.map_cons, List.map_cons, kt_hash t, h.1]
theorem kt_there {H : Hp} : ∀ {more : List (List Key × V)} {ys : List (List Key × Addr × Value)}, KT H more ys → ∀ x ∈ ys, ∃ k : List Key, H x.2.1 = some (.tup (k.map kV))
  | _, _, .nil, x, hx => nomatch hx
  | _, _, .cons h t, x, hx => by
    rcases List.mem_cons.mp hx with rfl | hx
    · exact ⟨_, h.2.1⟩
    · exact kt_there t x hx
theorem mt_updateT (hu : X.A.units + 1 < cLine) : MtR X "dict.update" (rUpdT X.prog X.w) := by
  intro pins s σ H x xs v us Q I rx rxs h
  obtain ⟨a, b, kvs, more, rfl, rfl, ha, hb, ne, hap, hl, q⟩ := h
  cases rx
  cases rxs with
  | cons r1 rn =>
    cases rn
    cases r1
    obtain ⟨_, da, xs, ra, ea⟩ := dt_of I.hok ha
    obtain ⟨_, db, ys, rb, eb⟩ := dt_of I.hok hb
    have l1 := Paired.length ra
    have l2 := Paired.length rb
    refine call_update_dictH (knd := tupleKind (mixKind X.prog X.w)) (tupleKind_room_in1 hu) ne db ea eb ?_ (by omega) fun h' e' _ hs => ?_
    · rcases hap with z | z
      · left
        rintro rfl
        cases ra
        exact z rfl
      · right
        refine ⟨fun x hx => ?_, by rw [kt_hash rb]; exact z⟩
        obtain ⟨k, hk⟩ := kt_there rb x hx
        obtain ⟨_, its, _, o, ho, hc, _⟩ := I.hok _ _ hk
        exact ⟨o, ho, hc⟩
    · obtain ⟨o, es, ep, hq, h2, h3, h4, _, h5⟩ := e'
      refine ⟨.non, _, d_write (t' := s.toks) I (by rw [ha]; exact True.intro) hs ⟨o, hq⟩ (show ObjOk X.prog X.w _ h' a (.dT (mergeT kvs more)) from ⟨Nat.le_trans (mergeT_le more kvs) hl, da, _, (KT_merge rb ra).keeps fun c zs ec => ?_, o, es, ep, hq, h2, h3, h4, h5⟩), rfl, q⟩
      rw [upd_ne (ne_of ec ha (fun z => nomatch z)), ec]
/-! ### dict(pairs), tuple keys -/
/-- a pair: a tuple of a key's own tuple and a value -/
def PairT (K : PySem.W.Frag) (H : Hp) (p : Addr) (kv : List Key × V) : Prop := ∃ q : Addr, H p = some (.tup [.ref q, kv.2]) ∧ H q = some (.tup (kv.1.map kV))
theorem pairsT_of {pins : List (Addr × Obj)} {σ : L2.St} {H : Hp} {s : Shared} (I : Inv X pins σ H s) : ∀ {ps : List Addr} {kvs : List (List Key × V)}, Paired (PairT X.K H) ps kvs →
    ∃ ys : List (List Key × Addr × Value), KT H kvs ys ∧ ys.length = ps.length ∧ ∀ (j : Nat) (y : List Key × Addr × Value), ys[j]? = some y → ∃ b : Addr, ps[j]? = some b ∧ s.heap.IsTuple b #[.ref y.2.1, y.2.2]
  | _, _, .nil => ⟨[], .nil, rfl, fun j q e => by simp at e⟩
  | _, _, .cons (a := p) (b := kv) h t => by
    obtain ⟨ys, r, hl, hp⟩ := pairsT_of I t
    obtain ⟨q, h1, h2⟩ := h
    obtain ⟨_, its, rv, o, ho, hc, n, hd⟩ := I.hok _ _ h1
    obtain ⟨u, y, rfl, ru, ry⟩ := vals2 rv
    obtain rfl : u = Value.ref q := ru
    refine ⟨(kv.1, q, y) :: ys, .cons ⟨rfl, h2, ry⟩ r, by rw [List.length_cons, List.length_cons, hl], fun j y' e => ?_⟩
    cases j with
    | zero =>
      obtain rfl := Option.some.inj e
      exact ⟨p, rfl, o, ho, hc, n, hd⟩
    | succ j =>
      obtain ⟨b, e1, e2⟩ := hp j y' (by simpa using e)
      exact ⟨b, by simpa using e1, e2⟩
theorem call_dictPT (hcalm : X.calm = true) (hu : X.A.units + 2 < cLine) : CallR X (.type "dict") (fun xs H Q => ∃ (a : Addr) (ps : List Addr) (kvs : List (List Key × V)), xs = [.ref a] ∧ SqL X.K H a (ps.map V.ref) ∧ Paired (PairT X.K H) ps kvs ∧ ∀ p, H p = none → Q (.ref p) (upd H p (.dT (mergeT [] kvs)))) := by
  intro pins s σ H xs us Q I r q
  obtain ⟨a, ps, kvs, rfl, hq, hp, q⟩ := q
  obtain ⟨u, rfl, rx⟩ := vals1 r
  cases rx
  obtain ⟨its, rv, pl, hz⟩ := I.list hq
  obtain rfl := refs_at rv
  rw [List.length_map] at hz
  obtain ⟨ys, rel, hl, hys⟩ := pairsT_of I hp
  obtain ⟨o, n, ho, hc, hd, hdat⟩ := pl
  have hk2 : ∀ y ∈ ys, (tupleKind (mixKind X.prog X.w)).is s.heap y.1 y.2.1 := fun y hy => by
    have all : ∀ {kvs : List (List Key × V)} {ys : List (List Key × Addr × Value)}, KT H kvs ys → ∀ y ∈ ys, (tupleKind (mixKind X.prog X.w)).is s.heap y.1 y.2.1 := by
      intro kvs ys r
      induction r with
      | nil => exact fun y hy => nomatch hy
      | cons h t ih =>
        intro y hy
        rcases List.mem_cons.mp hy with rfl | hy
        · rw [← h.1]
          exact key_of I.hok h.2.1
        · exact ih y hy
    exact all rel y hy
  have key : PairItems s.heap (ps.map Value.ref).toArray (fun j => ps.getD j 0) (ys.map fun y => (Value.ref y.2.1, y.2.2)) := by
    refine ⟨by simp [hl], fun j k v e => ?_⟩
    rw [List.getElem?_map] at e
    obtain ⟨y, hy, e2⟩ := Option.map_eq_some_iff.mp e
    cases e2
    obtain ⟨b, hb, ht⟩ := hys j y hy
    have e3 : ps.getD j 0 = b := by rw [List.getD_eq_getElem?_getD, hb]; rfl
    show (ps.map Value.ref).toArray[j]? = some (Value.ref (ps.getD j 0)) ∧ PairAt s.heap (ps.getD j 0) _ _
    rw [e3]
    exact ⟨by simp [hb], .inl ht⟩
  refine call_dict_pairsH (knd := tupleKind (mixKind X.prog X.w)) (ps := ys) (PairArg.list a _ (fun j => ps.getD j 0) (ys.map fun y => (Value.ref y.2.1, y.2.2))) (I.ok.hd hcalm) (tupleKind_room_in1 (A := X.A.in1) ?_) ⟨⟨o, n, ho, hc, hd, hdat⟩, key⟩ ⟨by simp, fun i k v e => ?_⟩ (fun h' k x hx => ?_) (by rw [List.length_map, hl]; exact hz) fun h' tk hd' k => ?_
  · have z : X.A.in1.units = X.A.units + 1 := rfl
    omega
  · have e : (ys.map fun y => (Value.ref y.2.1, y.2.2))[i]? = some (k, v) := e
    rw [List.getElem?_map] at e
    obtain ⟨y, hy, e2⟩ := Option.map_eq_some_iff.mp e
    cases e2
    exact ⟨y.1, y.2.1, hy, rfl⟩
  · have e : ∀ b o, s.heap.get? b = some o → h'.get? b = some o := fun b o e => k b o (Nat.ne_of_lt (Heap.lt_size e)) (fun z => nomatch z) e
    obtain ⟨ob, it3, n3, ho3, r3⟩ := hk2 x hx
    exact ⟨ob, it3, n3, e _ _ ho3, r3⟩
  · have hm : (s.heap.objs.size == sysModules) = false := beq_eq_false_iff_ne.mpr (Nat.ne_of_gt I.big)
    have lk := Paired.length rel
    have hlen : (mergeT [] kvs).length ≤ sizeLine := by
      refine Nat.le_trans (mergeT_le kvs []) ?_
      rw [List.length_nil, Nat.zero_add, lk, hl]
      exact hz
    obtain ⟨o', es, ep, hq', h2, h3, h4, _, h5⟩ := hd'
    have rel2 : KT (upd H s.heap.objs.size (.dT (mergeT [] kvs))) (mergeT [] kvs) (storedAllH [] ys) := (KT_merge rel .nil).keeps fun c zs ec => by
      rw [upd_ne (ne_of_none ec (I.hok.fresh (Nat.le_refl _))), ec]
    refine ⟨.ref s.heap.objs.size, upd H s.heap.objs.size (.dT (mergeT [] kvs)), I.laid (t' := tk) (fun b o e => k b o (fun z => nomatch z) e) (Nat.le_refl _) (show ObjOk X.prog X.w _ h' _ (.dT (mergeT [] kvs)) from ⟨hlen, hm, _, rel2, o', es, ep, hq', h2, h3, h4, h5⟩), rfl, q _ (I.hok.fresh (Nat.le_refl _))⟩
end
end Ow

/-! Ports have hashes of their own; lists of tuples that rise by their first numbers are sorted. -/
namespace Ow
open PySem PySem.Spec PyProof.Rows
def ptH (x : Pt) : Int := reduceHash (Builtin.Tuple.tupleHashOf [hashInt (x.1 : Int), hashInt (x.2 : Int)])
theorem ptH_eq (P : Program) (w : World) (x : Pt) : (tupleKind (L2.mixKind P w)).hash (pk x) = ptH x := rfl
def ptsAll : List Pt := (List.range 16).flatMap fun i => (List.range 6).map fun j => (i, j)
def allNe : List Int → Bool
  | [] => true
  | x :: r => (r.all fun y => decide (y ≠ x)) && allNe r
theorem allNe_nd : ∀ {l : List Int}, allNe l = true → l.Nodup
  | [], _ => List.nodup_nil
  | x :: r, h => by
    unfold allNe at h
    rw [Bool.and_eq_true] at h
    rw [List.nodup_cons]
    refine ⟨fun hx => ?_, allNe_nd h.2⟩
    have := List.all_eq_true.mp h.1 x hx
    simp at this
theorem ptsAll_nd : (ptsAll.map ptH).Nodup := allNe_nd (by decide +kernel)
theorem mem_ptsAll {x : Pt} (h1 : x.1 < 16) (h2 : x.2 < 6) : x ∈ ptsAll := by
  unfold ptsAll
  rw [List.mem_flatMap]
  exact ⟨x.1, List.mem_range.mpr h1, List.mem_map.mpr ⟨x.2, List.mem_range.mpr h2, rfl⟩⟩
theorem nd_inj {α : Type} {f : α → Int} : ∀ {l : List α}, (l.map f).Nodup → ∀ x ∈ l, ∀ y ∈ l, f x = f y → x = y
  | [], _, x, hx, _, _, _ => nomatch hx
  | z :: l, h, x, hx, y, hy, e => by
    rw [List.map_cons, List.nodup_cons] at h
    rcases List.mem_cons.mp hx with e1 | hx'
    · rcases List.mem_cons.mp hy with e2 | hy'
      · rw [e1, e2]
      · exact absurd (List.mem_map.mpr ⟨y, hy', by rw [← e, e1]⟩) h.1
    · rcases List.mem_cons.mp hy with e2 | hy'
      · exact absurd (List.mem_map.mpr ⟨x, hx', by rw [e, e2]⟩) h.1
      · exact nd_inj h.2 x hx' y hy' e
theorem ptH_ne {x y : Pt} (h1 : x.1 < 16) (h2 : x.2 < 6) (h3 : y.1 < 16) (h4 : y.2 < 6) (ne : x ≠ y) : ptH x ≠ ptH y := fun e => ne (nd_inj ptsAll_nd x (mem_ptsAll h1 h2) y (mem_ptsAll h3 h4) e)
end Ow
namespace TS
open PySem PyProof.Rows
/-- tuples of numbers, told apart by their first ones -/
def TupsF (h : Heap) (vs : List Value) : Prop := (∀ v ∈ vs, ∃ n ns, TupInts h v (n :: ns)) ∧ ∀ v ∈ vs, ∀ u ∈ vs, ∀ n ns m ms, TupInts h v (n :: ns) → TupInts h u (m :: ms) → n = m → v = u
def fstI (h : Heap) (v : Value) : Int := (intsOf h v).headD 0
theorem fstI_of {h : Heap} {v : Value} {n : Int} {ns : List Int} (t : TupInts h v (n :: ns)) : fstI h v = n := by
  unfold fstI
  rw [t.ints]
  rfl
section
variable {prog : Program} {w : World} {A : Around} {E : Value → Shared → Prop} {s : Shared} {Q : Bool → Shared → Prop}
theorem lex_self {b : Bool} {xs : List Value} {ns : List Int} (i : Nat) (hx : IntsAre xs ns) (h : Q false s) : PySem.W.KatLex prog w A b false Q (xs.zip xs) i s := by
  induction hx generalizing i with
  | nil => exact PySem.W.kat_nil h
  | @cons p t xs ns hx ih =>
    refine PySem.W.kat_cons (wpAny_eqBool_int ?_)
    rw [beq_self_eq_true]
    exact PySem.W.kat_yes (ih (i + 1))
theorem firsts_ofF {h : Heap} : ∀ vs : List Value, (∀ v ∈ vs, ∃ n ns, TupInts h v (n :: ns)) → ∃ fs, PySem.W.KatTups h vs fs ∧ fs.length = vs.length ∧ ∀ f ∈ fs, ∃ n t, f = Value.int n t
  | [], _ => ⟨[], PySem.W.KatTups.nil, rfl, fun f hf => nomatch hf⟩
  | v :: vs, x => by
    obtain ⟨fs, k, hl, hi⟩ := firsts_ofF vs fun u hu => x u (List.mem_cons_of_mem _ hu)
    obtain ⟨m, ns, a, xs, rfl, ⟨o, ho, hc, n, hdt⟩, i⟩ := x v (List.mem_cons_self ..)
    generalize e : xs.toList = l at i
    cases i with
    | @cons p t l ns i =>
      refine ⟨.int m t :: fs, PySem.W.KatTups.cons ho hc hdt ?_ k, by rw [List.length_cons, List.length_cons, hl], fun f hf => ?_⟩
      · have z := congrArg (fun l : List Value => l[0]?) e
        simpa using z
      · rcases List.mem_cons.mp hf with rfl | hf
        · exact ⟨m, t, rfl⟩
        · exact hi f hf
theorem kind_first {vs : List Value} (h2 : 2 ≤ vs.length) (x : TupsF s.heap vs) (r : Value → Int) (hr : ∀ v ∈ vs, ∀ n ns, TupInts s.heap v (n :: ns) → r v = n) (Q : SortKind → Shared → Prop)
    (h : ∀ κ, Cmp prog w A s κ (pairsOf vs) r → Q κ s) : wpAny (model prog w) A (keyKind' vs.toArray) Q E s := by
  obtain ⟨fs, k, hl, hi⟩ := firsts_ofF vs x.1
  refine PySem.W.kat_kind (T := Value.type "int") k (by omega) (fun f hf => ?_) rfl (h _ ?_)
  · obtain ⟨n, t, rfl⟩ := hi f hf
    exact PySem.W.Looks.of_pure rfl
  · intro p q hp hq Q' E' hQ
    rw [pairsOf_toList] at hp hq
    have mp := (mem_zip_self hp).2
    have mq := (mem_zip_self hq).2
    obtain ⟨n, ns, tp⟩ := x.1 _ mp
    obtain ⟨m, ms, tq⟩ := x.1 _ mq
    have same : n = m → p.1 = q.1 := x.2 _ mp _ mq n ns m ms tp tq
    have hQ' : Q' (decide (n < m)) s := by
      have z : decide (r p.1 < r q.1) = decide (n < m) := by rw [hr _ mp _ _ tp, hr _ mq _ _ tq]
      rw [← z]
      exact hQ
    by_cases e : n = m
    · have e1 := same e
      rw [← e1]
      obtain ⟨a, xs, e2, ⟨o, ho, hc, c, hdt⟩, i⟩ := tp
      rw [e2]
      refine PySem.W.kat_lt ho hdt ho hdt ?_
      rw [decide_eq_false (Nat.lt_irrefl _)]
      refine lex_self 0 i ?_
      rw [decide_eq_false (by omega)] at hQ'
      exact hQ'
    · obtain ⟨a, xs, e1, ⟨o, ho, hc, c, hdt⟩, i⟩ := tp
      obtain ⟨a', ys, e2, ⟨o', ho', hc', c', hdt'⟩, i'⟩ := tq
      rw [e1, e2]
      refine PySem.W.kat_lt ho hdt ho' hdt' ?_
      generalize decide (xs.size < ys.size) = fin
      generalize xs.toList = l at i
      generalize ys.toList = l' at i'
      cases i with
      | @cons _ t l _ i =>
        cases i' with
        | @cons _ t' l' _ i' =>
          refine PySem.W.kat_cons (wpAny_eqBool_int ?_)
          rw [show (n == m) = false from beq_eq_false_iff_ne.mpr e]
          exact PySem.W.kat_no (oneLt_ints _ hQ')
theorem TupsF.keeps {h h' : Heap} {vs : List Value} (x : TupsF h vs) (k : ∀ b o, h.get? b = some o → o.cls = .type "tuple" → h'.get? b = some o) : TupsF h' vs := by
  have back : ∀ v ∈ vs, ∀ n ns, TupInts h' v (n :: ns) → TupInts h v (n :: ns) := fun v hv n ns t => by
    obtain ⟨n0, ns0, t0⟩ := x.1 v hv
    have e : n :: ns = n0 :: ns0 := t.ints.symm.trans (t0.keeps k).ints
    rw [e]
    exact t0
  refine ⟨fun v hv => ?_, fun v hv u hu n ns m ms t1 t2 e => x.2 v hv u hu n ns m ms (back v hv _ _ t1) (back u hu _ _ t2) e⟩
  obtain ⟨n, ns, t⟩ := x.1 v hv
  exact ⟨n, ns, t.keeps k⟩
theorem sort_first {a : Addr} {vs : List Value} {n : Nat} {P : PySem.Fin → Shared → Prop} (ho : s.heap.get? a = some (seqObj "list" vs.toArray n)) (h64 : vs.length < 64) (x : TupsF s.heap vs)
    (r : Value → Int) (hr : ∀ v ∈ vs, ∀ n ns, TupInts s.heap v (n :: ns) → r v = n)
    (h : ∀ out : Array Value, out.toList.Perm vs → out.toList.Pairwise (fun u v => r u ≤ r v) → P (.done (.ret .none)) { s with heap := sortedHeap s.heap a vs out }) :
    wpAny (model prog w) A (Builtin.«list.sort» ⟨[.ref a], []⟩) P E s := by
  have keep : ∀ b o, s.heap.get? b = some o → o.cls = .type "tuple" → (midHeap s.heap a vs).get? b = some o := fun b o e hc => by
    refine midHeap_old (fun z => ?_) e
    subst z
    rw [ho] at e
    obtain rfl : seqObj "list" vs.toArray n = o := Option.some.inj e
    exact absurd (Value.type.inj hc) (by decide)
  refine SK.plain_sort (r := r) ho h64 (fun h2 Q hQ => ?_) fun ps out h1 h2 h3 => ?_
  · refine kind_first (s := { s with heap := midHeap s.heap a vs }) h2 (x.keeps keep) r (fun v hv n ns t => ?_) Q hQ
    obtain ⟨n0, ns0, t0⟩ := x.1 v hv
    have e : n :: ns = n0 :: ns0 := t.ints.symm.trans (t0.keeps keep).ints
    obtain ⟨rfl, rfl⟩ := List.cons.inj e
    exact hr v hv n ns t0
  · obtain ⟨p, o⟩ := out_rank h1 h2 h3
    exact h out p o
theorem sorted_first {l : Addr} {vs : List Value} {Q : Value → Shared → Prop} (hl : s.heap.IsList l vs.toArray) (h64 : vs.length < 64) (x : TupsF s.heap vs)
    (h : ∀ out : Array Value, out.toList.Perm vs → out.toList.Pairwise (fun u v => fstI s.heap u ≤ fstI s.heap v) → Q (.ref (s.heap.objs.size + 1)) { s with heap := sortedAll s.heap vs out }) :
    wpAny (model prog w) A (call (.builtin "sorted") [.ref l]) Q E s := by
  refine Calls.call_function_entry kind_sorted plain_sorted entry_sorted (args_sorted1 _) ?_
  unfold Builtin.«sorted»; refine wpAny_bind (m := checkCount "sorted" 1 1 _) (wpAny_pure ?_)
  refine wpAny_bind (collect_list hl ?_ (by rw [sizeLine_eq]; omega)); refine wpAny_bind (wpAny_newList ?_ (by rw [sizeLine_eq]; omega))
  generalize eH : (s.heap.push (seqObj "list" #[] 0)).update s.heap.objs.size (Obj.mapSeq (· ++ vs.toArray)) = hM
  have hsz : hM.objs.size = s.heap.objs.size + 1 := by
    rw [← eH, Heap.size_update, size_push']
  have hoL : (hM.push (seqObj "list" vs.toArray 0)).get? (s.heap.objs.size + 1) = some (seqObj "list" vs.toArray 0) := by
    rw [← hsz]; exact Heap.get?_push_size _ rfl
  have keep : ∀ b o, s.heap.get? b = some o → o.cls = .type "tuple" → (hM.push (seqObj "list" vs.toArray 0)).get? b = some o := fun b o q _ => by
    have hlt : b < s.heap.objs.size := Heap.lt_size q
    rw [Heap.get?_push_ne _ _ _ (by rw [hsz]; exact Nat.ne_of_lt (Nat.lt_succ_of_lt hlt)), ← eH, Heap.get?_update_ne _ _ _ _ (Nat.ne_of_lt hlt), Heap.get?_push_ne _ _ _ (Nat.ne_of_lt hlt)]
    exact q
  show wpAny _ _ _ _ _ { s with heap := hM.push (seqObj "list" vs.toArray 0) }
  rw [hsz]
  refine wpAny_bind (wpAny_holding (wpAny_call_entry slot_list_sort ⟨_, hoL, rfl⟩ entry_list_sort (sort_first hoL h64 (x.keeps keep) (fun v => fstI s.heap v) (fun v hv n ns t => ?_) fun out a1 a2 => ⟨_, rfl, ?_⟩) (args_list_sort _)))
  · obtain ⟨n0, ns0, t0⟩ := x.1 v hv
    have e : n :: ns = n0 :: ns0 := t.ints.symm.trans (t0.keeps keep).ints
    obtain ⟨rfl, rfl⟩ := List.cons.inj e
    exact fstI_of t0
  · subst eH
    exact wpAny_pure ⟨_, rfl, h out a1 a2⟩
end
end TS
namespace Ow
open PySem PySem.Spec PyProof.Rows L2
/-- x is a tuple of numbers, n the first -/
def FstI (H : Hp) (x : V) (n : Int) : Prop := ∃ (t : Addr) (ns : List Int), x = .ref t ∧ H t = some (.tup ((n :: ns).map V.int))
/-- sorted(xs), where the first numbers rise already -/
def rSortF (K : PySem.W.Frag) : List V → Hp → VK → Prop := fun vs H Q => ∃ (a : Addr) (xs : List V) (ks : List Int), vs = [V.ref a] ∧ SqL K H a xs ∧ xs.length < 64 ∧ Paired (FstI H) xs ks ∧ ks.Pairwise (· < ·) ∧ ∀ p, H p = none → Q (.ref p) (upd H p (.lst xs))
theorem paired_in {α β : Type} {R : α → β → Prop} : ∀ {as : List α} {bs : List β}, Paired R as bs → ∀ a ∈ as, ∃ b ∈ bs, R a b
  | _, _, .nil, a, h => nomatch h
  | _, _, .cons r t, a, h => by
    rcases List.mem_cons.mp h with rfl | h
    · exact ⟨_, List.mem_cons_self .., r⟩
    · obtain ⟨b, hb, hr⟩ := paired_in t a h
      exact ⟨b, List.mem_cons_of_mem _ hb, hr⟩
theorem sorted_same {α : Type} {f : α → Int} : ∀ {xs ys : List α}, ys.Perm xs → xs.Pairwise (fun a b => f a < f b) → ys.Pairwise (fun a b => f a ≤ f b) → ys = xs
  | [], ys, p, _, _ => p.eq_nil
  | x :: xs, [], p, _, _ => by
    have := p.length_eq
    simp at this
  | x :: xs, y :: ys, p, h1, h2 => by
    rw [List.pairwise_cons] at h1 h2
    have key : y = x := Classical.byContradiction fun ne => by
      have m1 : y ∈ xs := by
        rcases List.mem_cons.mp (p.mem_iff.mp (List.mem_cons_self ..)) with z | z
        · exact absurd z ne
        · exact z
      have m2 : x ∈ ys := by
        rcases List.mem_cons.mp (p.mem_iff.mpr (List.mem_cons_self ..)) with z | z
        · exact absurd z.symm ne
        · exact z
      have a1 := h1.1 _ m1
      have a2 := h2.1 _ m2
      omega
    subst key
    rw [sorted_same (List.Perm.cons_inv p) h1.2 h2.2]
section
variable {X : Cx}
theorem fsts_raw {pins : List (Addr × Obj)} {σ : L2.St} {H : Hp} {s : Shared} (I : Inv X pins σ H s) {x : V} {n : Int} (h : FstI H x n) : ∃ (t : Addr) (ns : List Int), x = .ref t ∧ TS.TupInts s.heap (.ref t) (n :: ns) := by
  obtain ⟨t, ns, rfl, ht⟩ := h
  exact ⟨t, ns, rfl, tupI_raw I (SqT.of ht)⟩
theorem cr_sortedF : CallR X (.builtin "sorted") (rSortF X.K) := by
  intro pins s σ H vs us Q I r h
  obtain ⟨a, xs, ks, rfl, hs, h64, hx, inc, q⟩ := h
  obtain ⟨its, rv, hl, hz⟩ := I.list hs
  rw [Vals.ref1 r]
  obtain ⟨e1, e2⟩ := bkV_refs rv fun x m => by
    obtain ⟨n, _, t, ns, e, _⟩ := paired_in hx x m
    exact ⟨t, e⟩
  have rise : its.Pairwise fun u v => TS.fstI s.heap u < TS.fstI s.heap v := by
    have g : ∀ {xs : List V} {us : List Value} {ks : List Int}, Vals xs us → Paired (FstI H) xs ks → ks.Pairwise (· < ·) → us.Pairwise (fun u v => TS.fstI s.heap u < TS.fstI s.heap v) ∧ ∀ u ∈ us, ∃ k ∈ ks, TS.fstI s.heap u = k := by
      intro xs us ks r p i
      induction p generalizing us with
      | nil =>
        cases r
        exact ⟨.nil, fun u hu => nomatch hu⟩
      | cons h t ih =>
        cases r with
        | cons r1 r2 =>
          rw [List.pairwise_cons] at i
          obtain ⟨g1, g2⟩ := ih r2 i.2
          obtain ⟨tt, ns, rfl, hT⟩ := fsts_raw I h
          cases r1
          have e := TS.fstI_of hT
          refine ⟨List.pairwise_cons.mpr ⟨fun u hu => ?_, g1⟩, fun u hu => ?_⟩
          · obtain ⟨k, hk, ek⟩ := g2 u hu
            rw [e, ek]
            exact i.1 k hk
          · rcases List.mem_cons.mp hu with rfl | hu
            · exact ⟨_, List.mem_cons_self .., e⟩
            · obtain ⟨k, hk, ek⟩ := g2 u hu
              exact ⟨k, List.mem_cons_of_mem _ hk, ek⟩
    exact (g rv hx inc).1
  have ok : TS.TupsF s.heap its := by
    have one : ∀ v ∈ its, ∃ n ns, TS.TupInts s.heap v (n :: ns) := fun v hv => by
      obtain ⟨t, rfl⟩ := e2 v hv
      have hm : V.ref t ∈ xs := by
        rw [e1]
        exact List.mem_map.mpr ⟨_, hv, rfl⟩
      obtain ⟨n, _, hf⟩ := paired_in hx _ hm
      obtain ⟨t', ns, e, hT⟩ := fsts_raw I hf
      cases e
      exact ⟨n, ns, hT⟩
    refine ⟨one, fun v hv u hu n ns m ms t1 t2 e => Classical.byContradiction fun ne => ?_⟩
    have d : TS.fstI s.heap v ≠ TS.fstI s.heap u := by
      have g : ∀ {l : List Value}, l.Pairwise (fun u v => TS.fstI s.heap u < TS.fstI s.heap v) → ∀ v ∈ l, ∀ u ∈ l, v ≠ u → TS.fstI s.heap v ≠ TS.fstI s.heap u := by
        intro l hp
        induction hp with
        | nil => exact fun v hv => nomatch hv
        | cons h t ih =>
          intro v hv u hu ne
          rcases List.mem_cons.mp hv with c1 | hv'
          · rcases List.mem_cons.mp hu with c2 | hu'
            · exact absurd (c1.trans c2.symm) ne
            · have := h u hu'
              rw [c1]
              omega
          · rcases List.mem_cons.mp hu with c2 | hu'
            · have := h v hv'
              rw [c2]
              omega
            · exact ih v hv' u hu' ne
      exact g rise v hv u hu ne
    exact d (by rw [TS.fstI_of t1, TS.fstI_of t2, e])
  refine TS.sorted_first hl.isList (by rw [← rv.length]; exact h64) ok fun out h1 h2 => ?_
  have e3 : out = its.toArray := by
    rw [← sorted_same h1 rise h2]
  subst e3
  obtain ⟨ep, he'⟩ := PyProof.Rows.sortedAll_at s.heap its its.toArray
  exact ⟨.ref _, upd H (s.heap.objs.size + 1) (.lst xs), I.laid (t' := s.toks) (fun _ _ => PyProof.Rows.sortedAll_old) (Nat.le_succ _) ⟨hz, its, ep, rv, he'⟩, rfl, q _ (I.hok.fresh (Nat.le_succ _))⟩
end
end Ow

/-! A net and the model that a law keeps of it; moves. -/
namespace Ow
open PySem PySem.Spec PyProof.Rows L2
theorem hu0_of {A : Around} {k : Nat} (hr : Room k A) : A.units < cLine := by
  have := hr.units
  omega
theorem hu2_of {A : Around} {k : Nat} (hr : Room k A) : A.units + 2 < cLine := by
  have := hr.units
  omega
theorem op_neDK {X : Cx} {K : PySem.W.Frag} (h : X.K = K) (hu : X.A.units + 64 < cLine) : OpR X (compareOp .NotEq) (rNeD K) := h ▸ op_neD hu
/-! ### data without dicts -/
section
variable {K : PySem.W.Frag} {N : Addr → Prop} {H : Hp}
mutual
theorem da_dp : ∀ (d : PyData) (v : V), d.canLay0 = true → Da K N H v d → Dp K H v d
  | .none, _, _, h => by cases h; exact .non
  | .bool b, _, _, h => by cases h; exact .bl b
  | .int i, _, _, h => by cases h; exact .int i
  | .str x, _, _, h => by cases h; exact .str x
  | .list ds, _, c, h => by
    cases h with
    | lst e _ r => exact .lst (SqL.of e) (da_dps ds _ (by simpa only [PyData.canLay0] using c) r)
  | .tuple ds, _, c, h => by
    cases h with
    | tup e r => exact .tup e (da_dps ds _ (by simpa only [PyData.canLay0] using c) r)
  | .dict ds, _, c, _ => by simp [PyData.canLay0] at c
theorem da_dps : ∀ (ds : List PyData) (vs : List V), PyData.canLayAll0 ds = true → DaAll K N H vs ds → DpAll K H vs ds
  | [], _, _, h => by cases h; exact .nil
  | d :: ds, _, c, h => by
    cases h with
    | cons a r =>
      simp only [PyData.canLayAll0, Bool.and_eq_true] at c
      exact .cons (da_dp d _ c.1 a) (da_dps ds _ c.2 r)
end
mutual
theorem eqv_self : ∀ d : PyData, d.canLay0 = true → PyData.eqv d d = true
  | .none, _ => rfl
  | .bool b, _ => by simp [PyData.eqv]
  | .int i, _ => by simp [PyData.eqv]
  | .str x, _ => by simp [PyData.eqv]
  | .list ds, c => by
    have := eqv_selfs ds (by simpa only [PyData.canLay0] using c)
    simpa only [PyData.eqv] using this
  | .tuple ds, c => by
    have := eqv_selfs ds (by simpa only [PyData.canLay0] using c)
    simpa only [PyData.eqv] using this
  | .dict ds, c => by simp [PyData.canLay0] at c
theorem eqv_selfs : ∀ ds : List PyData, PyData.canLayAll0 ds = true → PyData.eqvAll ds ds = true
  | [], _ => rfl
  | d :: ds, c => by
    simp only [PyData.canLayAll0, Bool.and_eq_true] at c
    simp only [PyData.eqvAll, eqv_self d c.1, eqv_selfs ds c.2, Bool.and_true]
end
end
/-- shapes: no dict, n deep at the most -/
structure Shp (n : Nat) (d : PyData) : Prop where
  c : d.canLay0 = true
  d : d.depth ≤ n
structure Shps (n : Nat) (ds : List PyData) : Prop where
  c : PyData.canLayAll0 ds = true
  d : PyData.depthAll ds ≤ n
theorem Shps.nil {n : Nat} : Shps n [] := ⟨rfl, by simp [PyData.depthAll]⟩
theorem Shps.cons {n : Nat} {d : PyData} {ds : List PyData} (h : Shp n d) (t : Shps n ds) : Shps n (d :: ds) := by
  refine ⟨by simp only [PyData.canLayAll0, h.c, t.c, Bool.and_true], ?_⟩
  have := h.d
  have := t.d
  simp only [PyData.depthAll]
  omega
theorem Shps.app {n : Nat} {es : List PyData} : ∀ {ds : List PyData}, Shps n ds → Shps n es → Shps n (ds ++ es)
  | [], _, g => g
  | d :: ds, h, g => by
    have c := h.c
    have e := h.d
    simp only [PyData.canLayAll0, Bool.and_eq_true] at c
    simp only [PyData.depthAll] at e
    exact Shps.cons ⟨c.1, by omega⟩ (Shps.app ⟨c.2, by omega⟩ g)
theorem Shps.map {α : Type} {n : Nat} {f : α → PyData} : ∀ {xs : List α}, (∀ x ∈ xs, Shp n (f x)) → Shps n (xs.map f)
  | [], _ => .nil
  | x :: xs, h => .cons (h x (List.mem_cons_self ..)) (Shps.map fun y hy => h y (List.mem_cons_of_mem _ hy))
theorem Shps.tup {n : Nat} {ds : List PyData} (h : Shps n ds) : Shp (n + 1) (.tuple ds) := ⟨by simp only [PyData.canLay0, h.c], by have := h.d; simp only [PyData.depth]; omega⟩
theorem Shps.lst {n : Nat} {ds : List PyData} (h : Shps n ds) : Shp (n + 1) (.list ds) := ⟨by simp only [PyData.canLay0, h.c], by have := h.d; simp only [PyData.depth]; omega⟩
theorem Shp.shaped {n : Nat} {d : PyData} (h : Shp n d) (hn : n ≤ 64) : SeqAt.shaped d = true := by
  unfold SeqAt.shaped
  rw [h.c, decide_eq_true (Nat.le_trans h.d hn)]
  rfl
theorem Shp.le {n m : Nat} {d : PyData} (h : Shp n d) (k : n ≤ m) : Shp m d := ⟨h.c, Nat.le_trans h.d k⟩
theorem sh_int {n : Nat} (i : Int) : Shp n (.int i) := ⟨rfl, by simp [PyData.depth]⟩
theorem sh_non {n : Nat} : Shp n .none := ⟨rfl, by simp [PyData.depth]⟩
theorem sh_pt (x : Pt) : Shp 1 (ptD x) := ⟨by simp [ptD, PyData.canLay0, PyData.canLayAll0], by simp [ptD, PyData.depth, PyData.depthAll]⟩
/-! ### drawn nets of few agents -/
def symsK : List PyData := [.tuple [.str "out", .str "n"], .tuple [.str "def", .str "f"], .tuple [.str "fun", .str "n", .str "n"], .tuple [.str "call", .str "n", .str "n"], .tuple [.str "make", .str "s"], .tuple [.str "copy", .str "n"], .tuple [.str "x"]]
theorem symsK_ok : ∀ d ∈ symsK, SymOk d := by
  intro d hd
  simp only [symsK, List.mem_cons, List.not_mem_nil, or_false] at hd
  rcases hd with rfl | rfl | rfl | rfl | rfl | rfl | rfl
  · exact sym2 (by unfold Nm; decide) (by unfold Nm; decide)
  · exact sym2 (by unfold Nm; decide) (by unfold Nm; decide)
  · exact sym3 (by unfold Nm; decide) (by unfold Nm; decide) (by unfold Nm; decide)
  · exact sym3 (by unfold Nm; decide) (by unfold Nm; decide) (by unfold Nm; decide)
  · exact sym2 (by unfold Nm; decide) (by unfold Nm; decide)
  · exact sym2 (by unfold Nm; decide) (by unfold Nm; decide)
  · refine ⟨_, _, rfl, ?_⟩
    exact (Fit.tup (FitAll.cons (fit_nm (by unfold Nm; decide)) (FitAll.nil (n := 0) (m := 0)))).le (by omega) (by omega)
theorem symsK_sh : ∀ d ∈ symsK, Shp 1 d := by
  have h : symsK.all (fun d => d.canLay0 && decide (d.depth ≤ 1)) = true := by decide +kernel
  intro d hd
  have := List.all_eq_true.mp h d hd
  simp only [Bool.and_eq_true, decide_eq_true_eq] at this
  exact ⟨this.1, this.2⟩
structure NetK (S : NetS) : Prop where
  sy : ∀ x ∈ S.rows, x.2.1 ∈ symsK
  lo : ∀ x ∈ S.rows, x.2.2 ≤ 3
  ro : S.rows.length ≤ S.next
  nd : (S.ends.map (·.1)).Nodup
  sm : ∀ x y, lk S.ends x = some y → lk S.ends y = some x
  ir : ∀ x, lk S.ends x ≠ some x
section
variable {S : NetS} {sym : PyData} {low a : Nat} {x y : Pt}
theorem NetK.syOk (g : NetK S) (h : S.next ≤ 100000) : SyOk S := ⟨fun x hx => by
  obtain ⟨s, ds, e, f⟩ := symsK_ok _ (g.sy x hx)
  exact ⟨s, ds, e, f.le (by omega) (by omega)⟩, Nat.le_trans g.ro h⟩
theorem NetK.fresh : NetK ⟨[], [], 0⟩ := ⟨fun x hx => (nomatch hx), fun x hx => (nomatch hx), Nat.le_refl _, List.nodup_nil, fun x y h => (nomatch h), fun x h => nomatch h⟩
theorem NetK.put (g : NetK S) (hs : sym ∈ symsK) (hl : low ≤ 3) : NetK (S.put sym low) := by
  refine ⟨fun x hx => ?_, fun x hx => ?_, ?_, g.nd, g.sm, g.ir⟩
  · rcases List.mem_append.mp hx with hx | hx
    · exact g.sy x hx
    · rw [List.mem_singleton.mp hx]
      exact hs
  · rcases List.mem_append.mp hx with hx | hx
    · exact g.lo x hx
    · rw [List.mem_singleton.mp hx]
      exact hl
  · show (S.rows ++ [_]).length ≤ S.next + 1
    rw [List.length_append]
    exact Nat.succ_le_succ g.ro
theorem NetK.tie (g : NetK S) (ne : x ≠ y) (hx : lk S.ends x = none) (hy : lk S.ends y = none) : NetK (S.tie x y) := by
  have ir : ∀ a, lk (S.tie x y).ends a ≠ some a := fun a h => by
    rw [lk_tie hx hy] at h
    by_cases a1 : a = x
    · rw [if_pos a1] at h
      exact ne (a1.symm.trans (Option.some.inj h).symm)
    · rw [if_neg a1] at h
      by_cases a2 : a = y
      · rw [if_pos a2] at h
        exact a1 (Option.some.inj h).symm
      · rw [if_neg a2] at h
        exact g.ir a h
  refine ⟨g.sy, g.lo, g.ro, ?_, fun a b h => ?_, ir⟩
  · show ((S.ends ++ [(x, y), (y, x)]).map (·.1)).Nodup
    rw [List.map_append, List.nodup_append]
    refine ⟨g.nd, by simpa using ne, fun a ha b hb => ?_⟩
    rintro rfl
    simp only [List.map_cons, List.map_nil, List.mem_cons, List.not_mem_nil, or_false] at hb
    rcases hb with rfl | rfl
    · exact lk_nkey hx ha
    · exact lk_nkey hy ha
  · rw [lk_tie hx hy] at h ⊢
    by_cases a1 : a = x
    · rw [if_pos a1] at h
      cases h
      rw [if_neg (fun z => ne z.symm), if_pos rfl, a1]
    · rw [if_neg a1] at h
      by_cases a2 : a = y
      · rw [if_pos a2] at h
        cases h
        rw [if_pos rfl, a2]
      · rw [if_neg a2] at h
        have hb := g.sm a b h
        have b1 : b ≠ x := fun z => by
          rw [z, hx] at hb
          cases hb
        have b2 : b ≠ y := fun z => by
          rw [z, hy] at hb
          cases hb
        rw [if_neg b1, if_neg b2]
        exact hb
theorem NetK.away (g : NetK S) : NetK (S.away a) := by
  have key : ∀ {x y}, lk (S.away a).ends x = some y → lk S.ends x = some y ∧ x.1 ≠ a ∧ y.1 ≠ a := fun {x y} h => by
    obtain ⟨h1, h2⟩ := List.mem_filter.mp (lk_mem h)
    simp only [Bool.and_eq_true, decide_eq_true_eq] at h2
    exact ⟨lk_of_mem g.nd h1, h2.1, h2.2⟩
  have nd : ((S.away a).ends.map (·.1)).Nodup := (List.filter_sublist.map _).nodup g.nd
  refine ⟨fun x hx => g.sy x (List.mem_filter.mp hx).1, fun x hx => g.lo x (List.mem_filter.mp hx).1, Nat.le_trans (List.length_filter_le ..) g.ro, nd, fun x y h => ?_, fun x h => g.ir x (key h).1⟩
  obtain ⟨h1, h2, h3⟩ := key h
  refine lk_of_mem nd (List.mem_filter.mpr ⟨lk_mem (g.sm _ _ h1), ?_⟩)
  simp only [Bool.and_eq_true, decide_eq_true_eq]
  exact ⟨h3, h2⟩
end
/-! ### the model -/
def modV (A E : Addr) : List (Key × V) := [(.inr "agents", .ref A), (.inr "ends", .ref E)]
structure Mod (K : PySem.W.Frag) (C : Addr) (H : Hp) (n r e m A E : Addr) (S : NetS) : Prop where
  N : NetAt K C H n r e S
  md : H m = some (.dK (modV A E))
  ag : ∃ kvs, H A = some (.dK kvs) ∧ Paired (NRow K H) kvs S.rows
  en : ∃ ks, H E = some (.dT ks) ∧ Paired (NEnd H) ks S.ends
  rA : r ≠ A
  rm : r ≠ m
  eE : e ≠ E
  mA : m ≠ A
section
variable {K : PySem.W.Frag} {C : Addr} {H H' : Hp} {n r e m A E : Addr} {S : NetS} {L : List Addr} {p c : Addr} {z : Nat}
theorem Mod.kx (h : Mod K C H n r e m A E S) (k : Kx L H H') (nt : NoTs H L) (out : ∀ b ∈ [n, r, e, m, A, E], b ∉ L) : Mod K C H' n r e m A E S := by
  obtain ⟨kvs, h2, h3⟩ := h.ag
  obtain ⟨ks, h4, h5⟩ := h.en
  exact ⟨h.N.kx k nt (out n (by simp)) (out r (by simp)) (out e (by simp)), k _ _ h.md (out m (by simp)), ⟨kvs, k _ _ h2 (out A (by simp)), L2.Paired.mapP h3 fun _ _ z => z.kx k nt⟩, ⟨ks, k _ _ h4 (out E (by simp)), L2.Paired.mapP h5 fun _ _ z => z.kx k nt⟩, h.rA, h.rm, h.eE, h.mA⟩
theorem Mod.same (h : Mod K C H n r e m A E S) (s : Same H H') : Mod K C H' n r e m A E S :=
  h.kx (L := []) (.of s) (fun _ h => nomatch h) (fun _ _ h => nomatch h)
/-- no list is one of the net's or the model's places -/
theorem Mod.lst {a : Addr} {xs : List V} (h : Mod K C H n r e m A E S) (ha : H a = some (.lst xs)) : ∀ b ∈ [n, r, e, m, A, E], b ≠ a := fun b hb => by
  obtain ⟨kvs, h2, _⟩ := h.ag
  obtain ⟨ks, h4, _⟩ := h.en
  have h0 := h.N.lst ha
  simp only [List.mem_cons, List.not_mem_nil, or_false, not_or] at hb h0
  rcases hb with rfl | rfl | rfl | rfl | rfl | rfl
  · exact fun z => h0.1 z.symm
  · exact fun z => h0.2.1 z.symm
  · exact fun z => h0.2.2 z.symm
  · exact ne_of h.md ha (fun z => nomatch z)
  · exact ne_of h2 ha (fun z => nomatch z)
  · exact ne_of h4 ha (fun z => nomatch z)
theorem Mod.kp {xs : List V} (h : Mod K C H n r e m A E S) (hp : H p = some (.lst xs)) (k : Kp p H H') : Mod K C H' n r e m A E S :=
  h.kx (L := [p]) (.kp k (List.mem_cons_self ..)) (fun q hq => by rw [List.mem_singleton.mp hq]; exact noTup_of hp (fun _ z => nomatch z) (fun _ _ z => nomatch z)) fun b hb hm => h.lst hp b hb (List.mem_singleton.mp hm)
theorem Mod.pen (h : Mod K C H n r e m A E S) (hP : PenE H p c z) (k : Kp p H H') : Mod K C H' n r e m A E S := by
  obtain ⟨⟨i, h1⟩, _⟩ := hP
  exact h.kp h1 k
theorem Mod.noTs (h : Mod K C H n r e m A E S) : NoTs H [n, r, e, m, A, E] := fun b hb => by
  obtain ⟨kvs, h2, _⟩ := h.ag
  obtain ⟨ks, h4, _⟩ := h.en
  have h0 := h.N.noTs
  simp only [List.mem_cons, List.not_mem_nil, or_false] at hb
  rcases hb with rfl | rfl | rfl | rfl | rfl | rfl
  · exact h0 _ (by simp)
  · exact h0 _ (by simp)
  · exact h0 _ (by simp)
  · exact noTup_of h.md (fun _ z => nomatch z) (fun _ _ z => nomatch z)
  · exact noTup_of h2 (fun _ z => nomatch z) (fun _ _ z => nomatch z)
  · exact noTup_of h4 (fun _ z => nomatch z) (fun _ _ z => nomatch z)
theorem PenE.mod (hP : PenE H p c z) (h : Mod K C H n r e m A E S) (k : Kx [n, r, e, m, A, E] H H') : PenE H' p c z := by
  obtain ⟨⟨i, h1⟩, cs, h2, hl⟩ := hP
  have out : ∀ (a : Addr) (xs : List V), H a = some (.lst xs) → a ∉ [n, r, e, m, A, E] := fun a xs ha hm => h.lst ha a hm rfl
  exact ⟨⟨i, k _ _ h1 (out _ _ h1)⟩, cs, k _ _ h2 (out _ _ h2), hl⟩
end
/-! ### what the defs promise -/
def movN (S : NetS) (a : Nat) : List Nat := if headOf S a = ("def" : Str) then [a] else [a, ((lk S.ends (a, 0)).getD (0, 0)).1]
def MvL (H : Hp) (S : NetS) (us : List V) (as : List Nat) : Prop := AP (fun v a => ∃ t : Addr, v = .ref t ∧ H t = some (.tup ((movN S a).map fun i : Nat => V.int (i : Int)))) us as
def spMoveFrom2 (K : PySem.W.Frag) (C : Addr) : Sp := fun vs H Q _ => ∃ (n r e : Addr) (S : NetS) (a : Nat), vs = [.ref n, .int (a : Int)] ∧ NetAt K C H n r e S ∧ SyOk S ∧ isAgent S a ∧
  (movB S a = false → ∀ H', Same H H' → Q .non H') ∧ (movB S a = true → ∀ t H', H' t = some (.tup ((movN S a).map fun i : Nat => V.int (i : Int))) → Same H H' → Q (.ref t) H')
def spMoves2 (K : PySem.W.Frag) (C : Addr) : Sp := fun vs H Q _ => ∃ (n r e : Addr) (S : NetS), vs = [.ref n] ∧ NetAt K C H n r e S ∧ SyOk S ∧ ∀ (L : Addr) (us : List V) (H' : Hp), H' L = some (.lst us) → H L = none → MvL H' S us (mvs S) → Same H H' → Q (.ref L) H'
def spESymK (K : PySem.W.Frag) : Sp := fun vs H Q _ => ∃ (p c : Addr) (z : Nat), vs = [.ref p] ∧ PenE H p c z ∧ z + 10 < 400000000 ∧ ∀ (t : Addr) (sym : PyData) (z' : Nat) (H' : Hp), sym ∈ symsK → Da K All H' (.ref t) sym → PenE H' p c z' → z' ≤ z + 1 → Kp p H H' → Q (.ref t) H'
def spEPutK (K : PySem.W.Frag) (C : Addr) : Sp := fun vs H Q _ => ∃ (p c n r e m A E : Addr) (S : NetS) (z : Nat), vs = [.ref p, .ref n, .ref m] ∧ PenE H p c z ∧ z + 10 < 400000000 ∧ Mod K C H n r e m A E S ∧ NetK S ∧ S.next ≤ 1000 ∧
  ∀ (sym : PyData) (low z' : Nat) (H' : Hp), sym ∈ symsK → low ≤ 3 → PenE H' p c z' → z' ≤ z + 2 → Mod K C H' n r e m A E (S.put sym low) → Q .non H'
def spEFreeK (K : PySem.W.Frag) (C : Addr) : Sp := fun vs H Q _ => ∃ (n r e m A E : Addr) (S : NetS) (b : Bool), vs = [.ref m, .bl b] ∧ Mod K C H n r e m A E S ∧ NetK S ∧ S.next ≤ 13 ∧
  ∀ (L : Addr) (us : List V) (xs : List Pt) (H' : Hp), H' L = some (.lst us) → Pts H' S us xs → us.length ≤ 60 → Same H H' → H L = none → Q (.ref L) H'
def spETieK (K : PySem.W.Frag) (C : Addr) : Sp := fun vs H Q _ => ∃ (p c n r e m A E : Addr) (S : NetS) (z : Nat), vs = [.ref p, .ref n, .ref m] ∧ PenE H p c z ∧ z + 10 < 400000000 ∧ Mod K C H n r e m A E S ∧ NetK S ∧ S.next ≤ 13 ∧ S.ends.length ≤ 1000 ∧
  ∀ (S' : NetS) (z' : Nat) (H' : Hp), PenE H' p c z' → z' ≤ z + 4 → Mod K C H' n r e m A E S' → NetK S' → S'.next = S.next → S'.ends.length ≤ S.ends.length + 2 → Q .non H'
def spEAwayK (K : PySem.W.Frag) (C : Addr) : Sp := fun vs H Q _ => ∃ (p c n r e m A E : Addr) (S : NetS) (z : Nat), vs = [.ref p, .ref n, .ref m] ∧ PenE H p c z ∧ z + 10 < 400000000 ∧ Mod K C H n r e m A E S ∧ NetK S ∧ S.next ≤ 13 ∧ S.ends.length ≤ 1000 ∧
  ∀ (S' : NetS) (E' : Addr) (z' : Nat) (H' : Hp), PenE H' p c z' → z' ≤ z + 1 → Mod K C H' n r e m A E' S' → NetK S' → S'.next = S.next → S'.ends.length ≤ S.ends.length → Q .non H'
def spEDueK (K : PySem.W.Frag) (C : Addr) : Sp := fun vs H Q _ => ∃ (n r e m A E : Addr) (S : NetS), vs = [.ref m] ∧ Mod K C H n r e m A E S ∧ NetK S ∧ S.next ≤ 13 ∧
  ∀ (L : Addr) (us : List V) (H' : Hp), H' L = some (.lst us) → MvL H' S us (mvs S) → Same H H' → Q (.ref L) H'
def endD (S : NetS) (x : Pt) : PyData := match lk S.ends x with
  | some y => ptD y
  | none => .none
def rowSt (S : NetS) (x : Nat × PyData × Nat) : List PyData := .tuple [.int (x.1 : Int), x.2.1] :: (List.range (x.2.2 + 1)).map fun p => endD S (x.1, p)
def stD (S : NetS) : List PyData := S.rows.flatMap (rowSt S)
def spEStateK (K : PySem.W.Frag) (C : Addr) : Sp := fun vs H Q _ => ∃ (n r e : Addr) (S : NetS), vs = [.ref n] ∧ NetAt K C H n r e S ∧ NetK S ∧ S.next ≤ 13 ∧
  ∀ (L : Addr) (us : List V) (H' : Hp), H' L = some (.lst us) → DaAll K All H' us (stD S) → Same H H' → H L = none → Q (.ref L) H'
def spERightK (K : PySem.W.Frag) (C : Addr) : Sp := fun vs H Q _ => ∃ (n r e m A E : Addr) (S : NetS), vs = [.ref n, .ref m] ∧ Mod K C H n r e m A E S ∧ NetK S ∧ S.next ≤ 13 ∧ ∀ H', Same H H' → Q (.bl true) H'
theorem stD_sh {S : NetS} (g : NetK S) : Shp 3 (.list (stD S)) := by
  refine Shps.lst ?_
  unfold stD
  have all : ∀ x ∈ S.rows, Shps 2 (rowSt S x) := fun x hx => by
    refine .cons ((Shps.cons (sh_int _) (Shps.cons (symsK_sh _ (g.sy x hx)) .nil)).tup) (Shps.map fun p _ => ?_)
    unfold endD
    split
    · exact (sh_pt _).le (by omega)
    · exact sh_non
  generalize S.rows = l at all
  induction l with
  | nil => exact .nil
  | cons x l ih =>
    rw [List.flatMap_cons]
    exact (all x (List.mem_cons_self ..)).app (ih fun y hy => all y (List.mem_cons_of_mem _ hy))
end Ow

/-! The model, looked at and changed. -/
namespace Ow
open PySem PySem.Spec PyProof.Rows L2
theorem lc_itemsT {d : Addr} {od : Obj} {kvs : List (List Key × V)} {g : TG} {tt : L2.TT} {te : TE} {vs : List Nat} {σ : L2.St} {H1 : Hp} {D : Addr} {Qd : Hp → Prop} (Pv : Nat → Hp → Prop) (h0 : Pv 0 (upd H1 D (.lst [])))
    (hq : ∀ i H, Pv i H → H d = some (.frz od (.dT kvs)))
    (hs : ∀ i k v q T H, kvs[i]? = some (k, v) → Pv i H → H q = some (.tup (k.map kV)) → H T = none → g (.ref T) (wipe σ vs) (upd H T (.tup [.ref q, v])) fun σ2 H2 => wipe σ2 vs = wipe σ vs ∧ tt σ2 H2 fun b H3 =>
      if b = true then te σ2 H3 fun y H4 => ∃ acc, H4 D = some (.lst acc) ∧ acc.length < sizeLine ∧ Pv (i + 1) (upd H4 D (.lst (acc ++ [y]))) else Pv (i + 1) H3) (hd : ∀ H, Pv kvs.length H → Qd H) : LcG (ItiT d od kvs) g tt te vs σ H1 D Qd := by
  refine ⟨fun i m H => m = kvs.length - i ∧ i ≤ kvs.length ∧ Pv i H, ⟨_, rfl, Nat.zero_le _, h0⟩, ?_⟩
  rintro i m H ⟨rfl, hi, p⟩
  have qx := hq i H p
  by_cases lt : i < kvs.length
  · refine .inr ⟨⟨qx, lt⟩, Pv (i + 1), fun H' p' => ⟨kvs.length - (i + 1), by omega, rfl, lt, p'⟩, fun v H' y => ?_⟩
    obtain ⟨T, k, z, q, hk, rfl, hT, hn, rfl⟩ := y
    exact hs i k z q T H hk p hT hn
  · obtain rfl : i = kvs.length := by omega
    exact .inl ⟨⟨qx, Nat.le_refl _⟩, hd H p⟩
theorem rows_keys {K : PySem.W.Frag} {H : Hp} : ∀ {kvs : List (Key × V)} {rows : List (Nat × PyData × Nat)}, Paired (NRow K H) kvs rows → kvs.map (·.1) = (rows.map fun x => (x.1 : Int)).map Sum.inl
  | _, _, .nil => rfl
  | _, _, .cons h t => by
    rw [List.map_cons, List.map_cons, List.map_cons, rows_keys t, h.1]
    rfl
theorem nums_inc {S : NetS} (ok : S.Ok) : (S.rows.map fun x => (x.1 : Int)).Pairwise (· < ·) := by
  rw [List.pairwise_map]
  exact ok.inc.imp fun h => by omega
theorem nums_sorted {S : NetS} (ok : S.Ok) {ys : List Int} (p : ys.Perm (S.rows.map fun x => (x.1 : Int))) (h : ys.Pairwise (· ≤ ·)) : ys = S.rows.map fun x => (x.1 : Int) :=
  sorted_same (f := fun i => i) p (nums_inc ok) h
section
variable {K : PySem.W.Frag} {C : Addr} {H H' : Hp} {n r e m A E : Addr} {S S' : NetS}
theorem modA {A E : Addr} : valV (modV A E) (.inr "agents") = some (.ref A) := valV_pos rfl
theorem modE {A E : Addr} : valV (modV A E) (.inr "ends") = some (.ref E) := (valV_neg (fun z => by injection z with z; exact absurd z (by decide))).trans (valV_pos rfl)
theorem Mod.gA (h : Mod K C H n r e m A E S) : DGet H m (.str "agents") (some (.ref A)) := modA (A := A) (E := E) ▸ DGet.k (k := .inr "agents") h.md
theorem Mod.gE (h : Mod K C H n r e m A E S) : DGet H m (.str "ends") (some (.ref E)) := modE (A := A) (E := E) ▸ DGet.k (k := .inr "ends") h.md
theorem Mod.outN (h : Mod K C H n r e m A E S) : m ∉ [n, r, e] ∧ A ∉ [n, r, e] ∧ E ∉ [n, r, e] := by
  obtain ⟨⟨dx, h1⟩, ⟨kvs, h2, _⟩, ⟨ks, h3, _⟩, _⟩ := h.N
  obtain ⟨kvs', h4, _⟩ := h.ag
  obtain ⟨ks', h5, _⟩ := h.en
  have h6 := h.md
  simp only [List.mem_cons, List.not_mem_nil, or_false, not_or]
  exact ⟨⟨ne_of h6 h1 (fun z => nomatch z), fun z => h.rm z.symm, ne_of h6 h3 (fun z => nomatch z)⟩, ⟨ne_of h4 h1 (fun z => nomatch z), fun z => h.rA z.symm, ne_of h4 h3 (fun z => nomatch z)⟩, ⟨ne_of h5 h1 (fun z => nomatch z), ne_of h5 h2 (fun z => nomatch z), fun z => h.eE z.symm⟩⟩
/-- the model's half stays while the net changes -/
theorem Mod.half (h : Mod K C H n r e m A E S) (k : Kx [n, r, e] H H') : H' m = some (.dK (modV A E)) ∧ (∃ kvs, H' A = some (.dK kvs) ∧ Paired (NRow K H') kvs S.rows) ∧ ∃ ks, H' E = some (.dT ks) ∧ Paired (NEnd H') ks S.ends := by
  obtain ⟨kvs, h2, h3⟩ := h.ag
  obtain ⟨ks, h4, h5⟩ := h.en
  obtain ⟨o1, o2, o3⟩ := h.outN
  have nt := h.N.noTs
  exact ⟨k _ _ h.md o1, ⟨kvs, k _ _ h2 o2, L2.Paired.mapP h3 fun _ _ z => z.kx k nt⟩, ks, k _ _ h4 o3, L2.Paired.mapP h5 fun _ _ z => z.kx k nt⟩
/-- the agent's row, in the model -/
theorem Mod.row (h : Mod K C H n r e m A E S) {a : Nat} {sym : PyData} {low : Nat} (hl : lk S.rows a = some (sym, low)) : ∃ (t : Addr) (sv : V), DGet H A (.int (a : Int)) (some (.ref t)) ∧ SqT K H t [sv, .int (low : Int)] ∧ Da K All H sv sym := by
  obtain ⟨kvs, h2, h3⟩ := h.ag
  rcases rows_val h3 a with ⟨_, z⟩ | ⟨t, sv, sym', low', z1, z2, z3, z4⟩
  · rw [hl] at z
    cases z
  · rw [hl] at z2
    cases z2
    exact ⟨t, sv, z1 ▸ DGet.k (k := ik a) h2, z3, z4⟩
/-- a port's end, in the model -/
theorem Mod.fin (h : Mod K C H n r e m A E S) {x : Pt} {q : Addr} (hq : H q = some (.tup (ptV x))) : (lk S.ends x = none ∧ DGet H E (.ref q) none) ∨ ∃ (t : Addr) (y : Pt), lk S.ends x = some y ∧ H t = some (.tup (ptV y)) ∧ DGet H E (.ref q) (some (.ref t)) := by
  obtain ⟨ks, h4, h5⟩ := h.en
  have g := DGet.t (k := pk x) h4 hq
  rcases ends_val h5 x with ⟨z1, z2⟩ | ⟨t, y, z1, z2, z3⟩
  · exact .inl ⟨z2, z1 ▸ g⟩
  · exact .inr ⟨t, y, z2, z3, z1 ▸ g⟩
theorem Mod.isE (h : Mod K C H n r e m A E S) : IsD H E := by
  obtain ⟨ks, h4, _⟩ := h.en
  exact .inr ⟨ks, .inl h4⟩
theorem Mod.isA (h : Mod K C H n r e m A E S) : IsD H A := by
  obtain ⟨ks, h4, _⟩ := h.ag
  exact .inl ⟨ks, .inl h4⟩
/-- of a net of few agents: its numbers are few -/
theorem NetK.few (g : NetK S) (h : S.next ≤ 13) : S.rows.length ≤ 13 := Nat.le_trans g.ro h
end
end Ow
namespace Ow
open PySem PySem.Spec PyProof.Rows L2
/-- what is told of each agent -/
def MvA (H : Hp) (S : NetS) (us : List V) (as : List Nat) : Prop := AP (fun v a => (movB S a = false ∧ v = .non) ∨ (movB S a = true ∧ ∃ t : Addr, v = .ref t ∧ H t = some (.tup ((movN S a).map fun i : Nat => V.int (i : Int))))) us as
section
variable {H H' : Hp} {S : NetS} {us : List V} {as : List Nat} {D : Addr} {u u' : List V}
theorem MvA.same (h : MvA H S us as) (s : Same H H') : MvA H' S us as := ap_imp (fun _ _ h => by
  rcases h with h | ⟨h1, t, h2, h3⟩
  · exact .inl h
  · exact .inr ⟨h1, t, h2, s _ _ h3⟩) h
theorem MvA.put (h : MvA H S us as) (hD : H D = some (.lst u)) : MvA (upd H D (.lst u')) S us as := ap_imp (fun _ _ h => by
  rcases h with h | ⟨h1, t, h2, h3⟩
  · exact .inl h
  · exact .inr ⟨h1, t, h2, by rw [upd_ne (ne_of h3 hD (fun z => nomatch z))]; exact h3⟩) h
theorem MvL.same (h : MvL H S us as) (s : Same H H') : MvL H' S us as := ap_imp (fun _ _ ⟨t, h2, h3⟩ => ⟨t, h2, s _ _ h3⟩) h
theorem MvL.put (h : MvL H S us as) (hD : H D = some (.lst u)) : MvL (upd H D (.lst u')) S us as := ap_imp (fun _ _ ⟨t, h2, h3⟩ => ⟨t, h2, by rw [upd_ne (ne_of h3 hD (fun z => nomatch z))]; exact h3⟩) h
theorem mva_filter : ∀ {us : List V} {as : List Nat}, MvA H S us as → MvL H S (us.filter fun v => !decide (v = V.non)) (as.filter (movB S))
  | _, _, .nil => .nil
  | _, _, .cons (u := v) (us := us) (q := a) (qs := as) h t => by
    have ih := mva_filter t
    rcases h with ⟨h1, rfl⟩ | ⟨h1, q, rfl, h2⟩
    · rw [List.filter_cons, List.filter_cons, h1]
      simpa using ih
    · rw [List.filter_cons, List.filter_cons, h1]
      have : MvL H S (.ref q :: us.filter fun v => !decide (v = V.non)) (a :: as.filter (movB S)) := AP.cons ⟨q, rfl, h2⟩ ih
      simpa using this
end
end Ow
namespace Ow
open PySem PySem.Spec PyProof.Rows L2
theorem pts_mem {H : Hp} {S : NetS} : ∀ {us : List V} {xs : List Pt}, Pts H S us xs → ∀ {i : Nat} {q : Addr} {y : Pt}, us[i]? = some (.ref q) → H q = some (.tup (ptV y)) → y ∈ xs
  | _, _, .nil, i, q, y, h, _ => by simp at h
  | _, _, .cons (us := us) (q := x) g t, i, q, y, h, hq => by
    cases i with
    | zero =>
      obtain ⟨⟨q', rfl, e⟩, _⟩ := g
      rw [List.getElem?_cons_zero] at h
      cases h
      rw [hq] at e
      have e2 : ptV y = ptV x := HO.tup.inj (Option.some.inj e)
      have e3 : pk y = pk x := by
        unfold ptV at e2
        injection e2 with a1 a2
        injection a2 with a2 _
        show [ik y.1, ik y.2] = [ik x.1, ik x.2]
        unfold ik
        rw [V.int.inj a1, V.int.inj a2]
      rw [pk_inj e3]
      exact List.mem_cons_self ..
    | succ i =>
      rw [List.getElem?_cons_succ] at h
      exact List.mem_cons_of_mem _ (pts_mem t h hq)
theorem NetK.small {S : NetS} (g : NetK S) (ok : S.Ok) (h : S.next ≤ 13) {x : Pt} (hx : S.port x) : x.1 < 16 ∧ x.2 < 6 := by
  obtain ⟨s, l, h1, h2⟩ := hx
  have a := ok.lt _ (lk_mem h1)
  have b := g.lo _ (lk_mem h1)
  have a : x.1 < S.next := a
  have b : l ≤ 3 := b
  omega
end Ow

/-! The ends that are left, in the model. -/
namespace Ow
open PySem PySem.Spec PyProof.Rows L2
def leftB (a : Nat) (x : Pt × Pt) : Bool := decide (x.1.1 ≠ a) && decide (x.2.1 ≠ a)
theorem int_beq (b a : Nat) : ((b : Int) == (a : Int)) = decide (b = a) := by
  by_cases h : b = a
  · subst h
    simp
  · rw [decide_eq_false h]
    exact beq_eq_false_iff_ne.mpr (by omega)
theorem in_two (a b c : Nat) : (!inV (.int (a : Int)) [V.int (b : Int), V.int (c : Int)]) = (decide (b ≠ a) && decide (c ≠ a)) := by
  show (!(((b : Int) == (a : Int)) || (((c : Int) == (a : Int)) || false))) = _
  rw [int_beq, int_beq]
  by_cases h1 : b = a <;> by_cases h2 : c = a <;> simp [h1, h2]
theorem pd_at {α β : Type} {R : α → β → Prop} {i : Nat} {a : α} : ∀ {as : List α} {bs : List β}, Paired R as bs → as[i]? = some a → ∃ b, bs[i]? = some b ∧ R a b := fun h e => paired_get h e
theorem modPut {A E p : Addr} : putK (modV A E) (.inr "ends") (.ref p) = modV A p := by
  have ne : ¬ (Sum.inr ("agents" : Str) : Key) = .inr "ends" := fun z => by
    injection z with z
    exact absurd z (by decide)
  unfold putK modV
  simp [ne]
end Ow
namespace Ow
open PySem PySem.Spec PyProof.Rows L2
theorem mvl_fst {H : Hp} {S : NetS} : ∀ {us : List V} {as : List Nat}, MvL H S us as → Paired (FstI H) us (as.map fun a : Nat => (a : Int))
  | _, _, .nil => .nil
  | _, _, .cons (q := a) h t => by
    obtain ⟨t0, rfl, ht⟩ := h
    refine .cons ⟨t0, ((movN S a).tail).map (fun i : Nat => (i : Int)), rfl, ?_⟩ (mvl_fst t)
    rw [ht]
    unfold movN
    split <;> rfl
theorem mvs_inc {S : NetS} (ok : S.Ok) : ((mvs S).map fun a : Nat => (a : Int)).Pairwise (· < ·) := by
  rw [List.pairwise_map]
  unfold mvs
  refine List.Pairwise.imp (R := fun a b : Nat => a < b) (fun h => by omega) (List.Pairwise.filter _ ?_)
  rw [List.pairwise_map]
  exact ok.inc
end Ow
namespace Ow
open PySem PySem.Spec PyProof.Rows L2
theorem da_puts {K : PySem.W.Frag} {H : Hp} {L : Addr} {u u' : List V} {vs : List V} {ds : List PyData} (h : DaAll K All H vs ds) (hL : H L = some (.lst u)) : DaAll K All (upd H L (.lst u')) vs ds :=
  DaAll.kx (L := [L]) (.put (List.mem_singleton.mpr rfl)) (fun p hp => by rw [List.mem_singleton.mp hp]; exact noTup_of hL (fun _ z => nomatch z) (fun _ _ z => nomatch z)) h
def mvsD (S : NetS) : PyData := .list ((mvs S).map fun a => .tuple ((movN S a).map fun i : Nat => .int (i : Int)))
theorem mvl_da {K : PySem.W.Frag} {H : Hp} {S : NetS} {L : Addr} {us : List V} (h : MvL H S us (mvs S)) (e : H L = some (.lst us)) : Da K No H (.ref L) (mvsD S) := by
  refine .lst e (fun z => z) ?_
  clear e
  generalize mvs S = as at h
  induction h with
  | nil => exact .nil
  | @cons u us a as h t ih =>
    obtain ⟨t0, rfl, ht⟩ := h
    refine .cons (.tup (SqT.of ht) ?_) ih
    generalize movN S a = l
    clear ht ih
    induction l with
    | nil => exact .nil
    | cons i l ih => exact .cons (.int _) ih
theorem mvs_fit {S : NetS} (g : NetK S) (hnx : S.next ≤ 13) (ok : S.Ok) : Fit 100000 150 (mvsD S) := by
  have small : ∀ x ∈ S.rows, x.1 ≤ 1000000 := fun x hx => by
    have := ok.lt x hx
    omega
  have one : ∀ a ∈ mvs S, Fit 500 1 (PyData.tuple ((movN S a).map fun i : Nat => .int (i : Int))) := fun a ha => by
    have ha2 := (List.mem_filter.mp ha).1
    obtain ⟨x, hx, rfl⟩ := List.mem_map.mp ha2
    have f1 := fit_nat x.1 (small x hx)
    have fe : ((lk S.ends (x.1, 0)).getD (0, 0)).1 ≤ 1000000 := by
      cases hl : lk S.ends (x.1, 0) with
      | none => exact Nat.zero_le _
      | some y =>
        obtain ⟨s, l, h1, _⟩ := end_port ok hl
        exact small _ (lk_mem h1)
    have f2 := fit_nat _ fe
    unfold movN
    split
    · exact (Fit.tup (FitAll.cons f1 (FitAll.nil (n := 0)))).le (by omega) (by omega)
    · exact (Fit.tup (FitAll.cons f1 (FitAll.cons f2 (FitAll.nil (n := 0))))).le (by omega) (by omega)
  have hl : (mvs S).length ≤ 13 := by
    refine Nat.le_trans (List.length_filter_le ..) ?_
    rw [List.length_map]
    exact g.few hnx
  exact (Fit.lst (fit_map one hl)).le (by decide) (by decide)
end Ow
namespace Ow
open PySem PySem.Spec PyProof.Rows L2
theorem modMerge {A E : Addr} : mergeK [] [((.inr ("agents" : Str) : Key), V.ref A), (.inr ("ends" : Str), .ref E)] = modV A E := by
  have ne : ¬ (Sum.inr ("agents" : Str) : Key) = .inr "ends" := fun z => by
    injection z with z
    exact absurd z (by decide)
  show putK (putK [] (.inr ("agents" : Str) : Key) (.ref A)) (.inr ("ends" : Str)) (.ref E) = _
  rw [putK_new (kvs := []) _ rfl, putK_new _ (valV_neg ne)]
  rfl
end Ow

namespace Ow
open PySem PySem.Spec PyProof.Rows L2
def top (i : Nat) : Stmt := PySem.Challenge.pw_oncewire_k25_moves.main.body.getD i (.Pass ⟨0, 0, 0, 0⟩)
abbrev s_is_row : Stmt := top 6
abbrev sl_is_row : List Str := ["thing", "least", "most"]
theorem sc_is_row : FnScope sl_is_row ["thing", "least", "most"] (defScope s_is_row) := ⟨rfl, rfl, rfl, by decide +kernel, rfl, by decide +kernel, by decide +kernel⟩
abbrev s_is_whole : Stmt := top 7
abbrev sl_is_whole : List Str := ["thing"]
theorem sc_is_whole : FnScope sl_is_whole ["thing"] (defScope s_is_whole) := ⟨rfl, rfl, rfl, by decide +kernel, rfl, by decide +kernel, by decide +kernel⟩
abbrev s_Net_init : Stmt := inClass (top 10) 0
abbrev sl_Net_init : List Str := ["self"]
theorem sc_Net_init : FnScope sl_Net_init ["self"] (defScope s_Net_init) := ⟨rfl, rfl, rfl, by decide +kernel, rfl, by decide +kernel, by decide +kernel⟩
abbrev s_Net_put : Stmt := inClass (top 10) 1
abbrev sl_Net_put : List Str := ["self", "symbol", "lower", "at", "number"]
theorem sc_Net_put : FnScope sl_Net_put ["self", "symbol", "lower", "at"] (defScope s_Net_put) := ⟨rfl, rfl, rfl, by decide +kernel, rfl, by decide +kernel, by decide +kernel⟩
abbrev s_Net_tie : Stmt := inClass (top 10) 2
abbrev sl_Net_tie : List Str := ["self", "port", "other"]
theorem sc_Net_tie : FnScope sl_Net_tie ["self", "port", "other"] (defScope s_Net_tie) := ⟨rfl, rfl, rfl, by decide +kernel, rfl, by decide +kernel, by decide +kernel⟩
abbrev s_Net_take_away : Stmt := inClass (top 10) 3
abbrev sl_Net_take_away : List Str := ["self", "agent", "place", "end"]
theorem sc_Net_take_away : FnScope sl_Net_take_away ["self", "agent"] (defScope s_Net_take_away) := ⟨rfl, rfl, rfl, by decide +kernel, rfl, by decide +kernel, by decide +kernel⟩
abbrev s_Net_numbers : Stmt := inClass (top 10) 4
abbrev sl_Net_numbers : List Str := ["self"]
theorem sc_Net_numbers : FnScope sl_Net_numbers ["self"] (defScope s_Net_numbers) := ⟨rfl, rfl, rfl, by decide +kernel, rfl, by decide +kernel, by decide +kernel⟩
abbrev s_Net_symbol_of : Stmt := inClass (top 10) 5
abbrev sl_Net_symbol_of : List Str := ["self", "agent"]
theorem sc_Net_symbol_of : FnScope sl_Net_symbol_of ["self", "agent"] (defScope s_Net_symbol_of) := ⟨rfl, rfl, rfl, by decide +kernel, rfl, by decide +kernel, by decide +kernel⟩
abbrev s_Net_lower_of : Stmt := inClass (top 10) 6
abbrev sl_Net_lower_of : List Str := ["self", "agent"]
theorem sc_Net_lower_of : FnScope sl_Net_lower_of ["self", "agent"] (defScope s_Net_lower_of) := ⟨rfl, rfl, rfl, by decide +kernel, rfl, by decide +kernel, by decide +kernel⟩
abbrev s_Net_end_of : Stmt := inClass (top 10) 7
abbrev sl_Net_end_of : List Str := ["self", "port"]
theorem sc_Net_end_of : FnScope sl_Net_end_of ["self", "port"] (defScope s_Net_end_of) := ⟨rfl, rfl, rfl, by decide +kernel, rfl, by decide +kernel, by decide +kernel⟩
abbrev s_Net___len__ : Stmt := inClass (top 10) 9
abbrev sl_Net___len__ : List Str := ["self"]
theorem sc_Net___len__ : FnScope sl_Net___len__ ["self"] (defScope s_Net___len__) := ⟨rfl, rfl, rfl, by decide +kernel, rfl, by decide +kernel, by decide +kernel⟩
abbrev s_Net_has_agent : Stmt := inClass (top 10) 11
abbrev sl_Net_has_agent : List Str := ["self", "thing"]
theorem sc_Net_has_agent : FnScope sl_Net_has_agent ["self", "thing"] (defScope s_Net_has_agent) := ⟨rfl, rfl, rfl, by decide +kernel, rfl, by decide +kernel, by decide +kernel⟩
abbrev s_Net_need_agent : Stmt := inClass (top 10) 12
abbrev sl_Net_need_agent : List Str := ["self", "thing"]
theorem sc_Net_need_agent : FnScope sl_Net_need_agent ["self", "thing"] (defScope s_Net_need_agent) := ⟨rfl, rfl, rfl, by decide +kernel, rfl, by decide +kernel, by decide +kernel⟩
abbrev s_Net_has_port : Stmt := inClass (top 10) 13
abbrev sl_Net_has_port : List Str := ["self", "thing"]
theorem sc_Net_has_port : FnScope sl_Net_has_port ["self", "thing"] (defScope s_Net_has_port) := ⟨rfl, rfl, rfl, by decide +kernel, rfl, by decide +kernel, by decide +kernel⟩
abbrev s_Net_need_port : Stmt := inClass (top 10) 14
abbrev sl_Net_need_port : List Str := ["self", "thing"]
theorem sc_Net_need_port : FnScope sl_Net_need_port ["self", "thing"] (defScope s_Net_need_port) := ⟨rfl, rfl, rfl, by decide +kernel, rfl, by decide +kernel, by decide +kernel⟩
abbrev s_moves : Stmt := top 11
abbrev sl_moves : List Str := ["net", "told", "agent", "move"]
theorem sc_moves : FnScope sl_moves ["net"] (defScope s_moves) := ⟨rfl, rfl, rfl, by decide +kernel, rfl, by decide +kernel, by decide +kernel⟩
abbrev s_move_from : Stmt := top 12
abbrev sl_move_from : List Str := ["net", "agent", "sign", "end"]
theorem sc_move_from : FnScope sl_move_from ["net", "agent"] (defScope s_move_from) := ⟨rfl, rfl, rfl, by decide +kernel, rfl, by decide +kernel, by decide +kernel⟩
abbrev s_law_e_pen : Stmt := top 14
abbrev sl_law_e_pen : List Str := ["_law_script"]
theorem sc_law_e_pen : FnScope sl_law_e_pen ["_law_script"] (defScope s_law_e_pen) := ⟨rfl, rfl, rfl, by decide +kernel, rfl, by decide +kernel, by decide +kernel⟩
abbrev s_law_e_fresh : Stmt := top 15
abbrev sl_law_e_fresh : List Str := ["_law_pen", "_law_at", "_law_cell", "_law_one", "_law_two", "_law_mixed", "_law_other"]
theorem sc_law_e_fresh : FnScope sl_law_e_fresh ["_law_pen"] (defScope s_law_e_fresh) := ⟨rfl, rfl, rfl, by decide +kernel, rfl, by decide +kernel, by decide +kernel⟩
abbrev s_law_e_take : Stmt := top 16
abbrev sl_law_e_take : List Str := ["_law_pen", "_law_many", "_law_found"]
theorem sc_law_e_take : FnScope sl_law_e_take ["_law_pen", "_law_many"] (defScope s_law_e_take) := ⟨rfl, rfl, rfl, by decide +kernel, rfl, by decide +kernel, by decide +kernel⟩
abbrev s_law_e_symbol : Stmt := top 17
abbrev sl_law_e_symbol : List Str := ["_law_pen", "_law_some"]
theorem sc_law_e_symbol : FnScope sl_law_e_symbol ["_law_pen"] (defScope s_law_e_symbol) := ⟨rfl, rfl, rfl, by decide +kernel, rfl, by decide +kernel, by decide +kernel⟩
abbrev s_law_e_put : Stmt := top 18
abbrev sl_law_e_put : List Str := ["_law_pen", "_law_net", "_law_model", "_law_symbol", "_law_lower"]
theorem sc_law_e_put : FnScope sl_law_e_put ["_law_pen", "_law_net", "_law_model"] (defScope s_law_e_put) := ⟨rfl, rfl, rfl, by decide +kernel, rfl, by decide +kernel, by decide +kernel⟩
abbrev s_law_e_free : Stmt := top 19
abbrev sl_law_e_free : List Str := ["_law_model", "_law_heads", "_law_found", "_law_agent", "_law_place"]
theorem sc_law_e_free : FnScope sl_law_e_free ["_law_model", "_law_heads"] (defScope s_law_e_free) := ⟨rfl, rfl, rfl, by decide +kernel, rfl, by decide +kernel, by decide +kernel⟩
abbrev s_law_e_tie : Stmt := top 20
abbrev sl_law_e_tie : List Str := ["_law_pen", "_law_net", "_law_model", "_law_one", "_law_some", "_law_port", "_law_end"]
theorem sc_law_e_tie : FnScope sl_law_e_tie ["_law_pen", "_law_net", "_law_model"] (defScope s_law_e_tie) := ⟨rfl, rfl, rfl, by decide +kernel, rfl, by decide +kernel, by decide +kernel⟩
abbrev s_law_e_away : Stmt := top 21
abbrev sl_law_e_away : List Str := ["_law_pen", "_law_net", "_law_model", "_law_some", "_law_agent", "_law_pair"]
theorem sc_law_e_away : FnScope sl_law_e_away ["_law_pen", "_law_net", "_law_model"] (defScope s_law_e_away) := ⟨rfl, rfl, rfl, by decide +kernel, rfl, by decide +kernel, by decide +kernel⟩
abbrev s_law_e_due : Stmt := top 22
abbrev sl_law_e_due : List Str := ["_law_model", "_law_found", "_law_agent", "_law_sign", "_law_end"]
theorem sc_law_e_due : FnScope sl_law_e_due ["_law_model"] (defScope s_law_e_due) := ⟨rfl, rfl, rfl, by decide +kernel, rfl, by decide +kernel, by decide +kernel⟩
abbrev s_law_e_state : Stmt := top 23
abbrev sl_law_e_state : List Str := ["_law_net", "_law_found", "_law_agent", "_law_place"]
theorem sc_law_e_state : FnScope sl_law_e_state ["_law_net"] (defScope s_law_e_state) := ⟨rfl, rfl, rfl, by decide +kernel, rfl, by decide +kernel, by decide +kernel⟩
abbrev s_law_e_right : Stmt := top 24
abbrev sl_law_e_right : List Str := ["_law_net", "_law_model", "_law_seen", "_law_again", "_law_told"]
theorem sc_law_e_right : FnScope sl_law_e_right ["_law_net", "_law_model"] (defScope s_law_e_right) := ⟨rfl, rfl, rfl, by decide +kernel, rfl, by decide +kernel, by decide +kernel⟩
abbrev s_law : Stmt := top 25
abbrev sl_law : List Str := ["_law_script", "_law_pen", "_law_turn", "_law_net", "_law_model", "_law_k"]
theorem sc_law : FnScope sl_law ["_law_script"] (defScope s_law) := ⟨rfl, rfl, rfl, by decide +kernel, rfl, by decide +kernel, by decide +kernel⟩
section
variable {P : Program} {w : World} {K : PySem.W.Frag} {mg : Str → Option Value} {base : Heap}
theorem ok_is_row (D : DefAt K mg "is_row" s_is_row ["thing", "least", "most"]) (T : Bl mg) : CallOk P w K mg base 1 "is_row" ["thing", "least", "most"] (spIsRow K) := by
  refine D.ok sc_is_row (fun vs H Q E h => ?_) (fun f cdv A outer s H vs Q E hr h => ?_)
  · obtain ⟨p, v, d, a, b, rfl, _⟩ := h
    rfl
  · obtain ⟨p, v, d, a, b, rfl, hd, k⟩ := h
    refine ⟨_, (pss_one (ps_ret (pe_and (pe_callB call_isD (by rfl) T.isinstance_ (by decide +kernel) (pa_cons (pv 0) (pa_cons (pe_bltn (v := .ty "tuple") (by rfl) T.tuple_ (by decide +kernel) rfl) pa_nil))) (pe_one (pe_chain op_le op_le (pv 1) (pe_callB call_len (by rfl) T.len_ (by decide +kernel) (pa_cons (pv 0) pa_nil)) (pv 2)))))), ?_⟩
    refine ⟨_, rfl, p, v, d, "tuple", rfl, hd, .inr (.inl rfl), _, rfl, ?_⟩
    by_cases ht : tyD d = "tuple"
    · obtain ⟨ds, rfl⟩ := ty_tup ht
      obtain ⟨t, xs, rfl, h1, h2⟩ := hd.tupInv
      refine iteT ?_
      refine ⟨_, rfl, _, rfl, _, _, rfl, .inr ⟨_, h1, rfl⟩, _, _, rfl, rfl, _, rfl, ?_⟩
      rw [h2.length]
      by_cases c : a ≤ (ds.length : Int)
      · rw [decide_eq_true c]
        refine iteT ⟨_, rfl, _, _, rfl, rfl, ?_⟩
        have e : isRowD (.tuple ds) a b = decide ((ds.length : Int) ≤ b) := by
          show (decide (a ≤ (ds.length : Int)) && _) = _
          rw [decide_eq_true c, Bool.true_and]
        rw [e] at k
        exact k
      · rw [decide_eq_false c]
        refine iteF ?_
        have e : isRowD (.tuple ds) a b = false := by
          show (decide (a ≤ (ds.length : Int)) && _) = _
          rw [decide_eq_false c, Bool.false_and]
        rw [← e]
        exact k
    · rw [decide_eq_false ht]
      refine iteF ?_
      have e : isRowD d a b = false := by
        cases d <;> simp [isRowD, tyD] at ht ⊢
      rw [← e]
      exact k
end

section
variable {P : Program} {w : World} {K : PySem.W.Frag} {mg : Str → Option Value} {base : Heap}
theorem ok_penE (D : DefAt K mg "_law_e_pen" s_law_e_pen ["_law_script"]) (T : Bl mg) : CallOk P w K mg base 1 "_law_e_pen" ["_law_script"] (spPenE K) := by
  refine D.ok sc_law_e_pen (fun vs H Q E h => ?_) (fun f cdv A outer s H vs Q E hr h => ?_)
  · obtain ⟨a, ns, rfl, _⟩ := h
    rfl
  · obtain ⟨a, ns, rfl, hS, hl, k⟩ := h
    refine ⟨_, (pss_one (ps_ret (pe_lst (pa_cons (pe_callTy call_list_of (by rfl) T.list_ (by decide +kernel) (pa_cons (pe_slice sl_list (pv 0) po_none (po_some pe_int)) pa_nil)) (pa_cons pe_int (pa_cons pe_int pa_nil)))))), ?_⟩
    refine ⟨_, rfl, 60, rfl, a, ns.map V.int, rfl, hS, fun q hq => ?_⟩
    refine ⟨q, _, rfl, .inl (SqL.of upd_same), fun r hr2 => ?_⟩
    refine ⟨le_line (by show 3 ≤ 16000000; decide), fun p hp => ?_⟩
    have n1 : r ≠ p := ne_of_none upd_same hp
    have s1 : Same H (upd (upd (upd H q (.lst (cutV (ns.map V.int) none (some 60)))) r (.lst (cutV (ns.map V.int) none (some 60)))) p (.lst [.ref r, .int 0, .int 0])) := Same.lay (Same.lay (same_new hq) hr2) hp
    refine k p r _ ⟨⟨0, upd_same⟩, ns.take (min 60 ns.length), ?_, ?_⟩ s1 ?_ ?_
    · rw [upd_ne n1, upd_same, show ((60 : Int)) = ((60 : Nat) : Int) from rfl, cut_front]
    · rw [List.length_take]
      omega
    · exact (Same.lay (same_new hq) hr2).free hp
    · exact (same_new hq).free hr2
theorem pick_int (l : List Int) (i : Int) (h0 : 0 ≤ i) (h1 : i < l.length) (hl : ∀ x ∈ l, 2147483399 ≤ x ∧ x ≤ 2147483647) : ∃ m : Int, atI (l.map V.int) i = some (.int m) ∧ 2147483399 ≤ m ∧ m ≤ 2147483647 := by
  obtain ⟨j, rfl⟩ : ∃ j : Nat, i = (j : Int) := ⟨i.toNat, by omega⟩
  have hj : j < l.length := by omega
  refine ⟨l[j], at_natI ?_, hl _ (List.getElem_mem hj)⟩
  rw [List.getElem?_map, List.getElem?_eq_getElem hj]
  rfl
theorem ok_freshE (D : DefAt K mg "_law_e_fresh" s_law_e_fresh ["_law_pen"]) (T : Bl mg) : CallOk P w K mg base 1 "_law_e_fresh" ["_law_pen"] spFreshE := by
  refine D.ok sc_law_e_fresh (fun vs H Q E h => ?_) (fun f cdv A outer s H vs Q E hr h => ?_)
  · obtain ⟨p, c, z, rfl, _⟩ := h
    rfl
  · obtain ⟨p, c, z, rfl, hP, hz, k⟩ := h
    refine ⟨_, (pss_cons (ps_set (i := 1) sc_law_e_fresh.nd rfl (Or.inl rfl) (pe_ix ix_list (pv 0) pe_int (fun _ _ => rfl)))
        (pss_cons (ps_asg (pe_op opAdd (pv 1) pe_int) (pg_sub (pv 0) pe_int set_list))
        (pss_cons (ps_set (i := 2) sc_law_e_fresh.nd rfl (Or.inl rfl) pe_int)
        (Evl.pss_cut (ps_if (pt_cmpR (op_neD hr.units) (pe_ix ix_list (pv 0) pe_int (fun _ _ => rfl)) (pe_lst pa_nil) (nomark _)) (pss_one (ps_set (i := 2) sc_law_e_fresh.nd rfl (Or.inl rfl) (pe_op op_fdiv (pe_ix ix_list (pe_ix ix_list (pv 0) pe_int (fun _ _ => rfl)) (pe_op op_mod (pe_op op_mul (pv 1) pe_int) (pe_callB call_len_seq (by rfl) T.len_ (by decide +kernel) (pa_cons (pe_ix ix_list (pv 0) pe_int (fun _ _ => rfl)) pa_nil))) (fun _ _ => rfl)) (pe_op opAdd pe_int (pe_op op_fdiv (pv 1) (pe_callB call_len_seq (by rfl) T.len_ (by decide +kernel) (pa_cons (pe_ix ix_list (pv 0) pe_int (fun _ _ => rfl)) pa_nil))))))) pss_nil)
        (Evl.pss_cut (ps_if (pt_cmpR op_lt (pv 1) (pe_callB call_len_seq (by rfl) T.len_ (by decide +kernel) (pa_cons (pe_ix ix_list (pv 0) pe_int (fun _ _ => rfl)) pa_nil)) (nomark _)) (pss_one (ps_set (i := 2) sc_law_e_fresh.nd rfl (Or.inl rfl) (pe_ix ix_list (pe_ix ix_list (pv 0) pe_int (fun _ _ => rfl)) (pv 1) (fun _ _ => rfl)))) pss_nil)
        (pss_cons (ps_if (pt_cmpR op_ge (pv 2) (pe_op op_pow pe_int pe_int) (nomark _)) (pss_one (ps_ret (pv 2))) pss_nil)
        (pss_cons (ps_set (i := 3) sc_law_e_fresh.nd rfl (Or.inl rfl) (pe_ix ix_list (pe_lst (pa_cons pe_int (pa_cons pe_int (pa_cons pe_int (pa_cons pe_int (pa_cons pe_int (pa_cons pe_int (pa_cons pe_int pa_nil)))))))) (pe_op op_mod (pv 1) pe_int) (fun _ _ => rfl)))
        (pss_cons (ps_set (i := 4) sc_law_e_fresh.nd rfl (Or.inl rfl) (pe_ix ix_list (pe_lst (pa_cons pe_int (pa_cons pe_int (pa_cons pe_int (pa_cons pe_int (pa_cons pe_int pa_nil)))))) (pe_op op_mod (pv 1) pe_int) (fun _ _ => rfl)))
        (pss_cons (ps_set (i := 5) sc_law_e_fresh.nd rfl (Or.inl rfl) (pe_op op_mod (pe_op op_pow (pe_op opAdd (pe_op opAdd (pe_op op_mod (pv 2) (pv 3)) (pe_op op_mul pe_int (pv 1))) pe_int) pe_int) (pv 3)))
        (pss_cons (ps_set (i := 6) sc_law_e_fresh.nd rfl (Or.inl rfl) (pe_op op_mod (pe_op op_pow (pe_op opAdd (pe_op opAdd (pv 5) (pe_op op_mod (pv 2) (pv 4))) (pe_op op_mul (pv 1) (pv 1))) pe_int) (pv 4)))
        (pss_one (ps_ret (pe_op opAdd (pe_op op_mul (pe_op opAdd (pv 5) pe_int) (pv 4)) (pv 6)))))))))))))), ?_⟩
    obtain ⟨⟨r, h1⟩, _⟩ := id hP
    -- spot, and the next one's
    refine ⟨_, rfl, p, _, 1, _, rfl, rfl, SqL.of h1, rfl, ?_⟩
    refine ⟨_, rfl, .inl ⟨_, _, rfl, rfl, ?_⟩⟩
    refine ⟨_, rfl, p, _, 1, 1, rfl, rfl, h1, rfl, ?_⟩
    have hP1 : PenE (upd H p (.lst [.ref c, .int ((z + 1 : Nat) : Int), .int r])) p c (z + 1) := hP.put
    have k1 : Kp p H (upd H p (.lst [.ref c, .int ((z + 1 : Nat) : Int), .int r])) := Kp.self
    show tSeq _ _ _ _ (upd H p (.lst [.ref c, .int ((z + 1 : Nat) : Int), .int r]))
    generalize upd H p (.lst [.ref c, .int ((z + 1 : Nat) : Int), .int r]) = H1 at hP1 k1
    obtain ⟨⟨r1, h1'⟩, cs, h2, hl⟩ := id hP1
    -- the cell, where there are any
    refine ⟨fun σ H2 => ∃ v : Int, σ = [some (.ref p), some (.int (z : Int)), some (.int v), none, none, none, none] ∧ PenE H2 p c (z + 1) ∧ Kp p H H2, ?_, ?_⟩
    · refine ⟨_, rfl, p, _, 0, _, rfl, rfl, SqL.of h1', rfl, Nat.zero_le _, fun q hq => ?_⟩
      have h1q : upd H1 q (.lst []) p = some (.lst [.ref c, .int ((z + 1 : Nat) : Int), .int r1]) := by
        rw [upd_ne (hP1.pen.neP hq).symm]
        exact h1'
      have h2q : upd H1 q (.lst []) c = some (.lst (cs.map V.int)) := by
        rw [upd_ne (hP1.pen.neC hq).symm]
        exact h2
      have hPq : PenE (upd H1 q (.lst [])) p c (z + 1) := hP1.new hq
      have kq : Kp p H (upd H1 q (.lst [])) := k1.lay hq
      refine ⟨_, _, .lst (SqL.of h2q) (dp_ints _ _ cs), .lst (SqL.of upd_same) .nil, shaped_ints cs, shaped_nil, _, rfl, ?_⟩
      rw [eqv_nil]
      cases he : cs with
      | nil =>
        refine iteF ?_
        exact ⟨_, rfl, hPq, kq⟩
      | cons a t =>
        refine iteT ?_
        have hc0 : 0 < cs.length := by rw [he]; exact Nat.succ_pos _
        obtain ⟨v, hv⟩ := at_mod cs ((z : Int) * 7) hc0
        have lc : ((cs.map V.int).length : Int) = (cs.length : Int) := by rw [List.length_map]
        refine ⟨_, rfl, p, _, 0, _, rfl, rfl, SqL.of h1q, rfl, _, rfl, _, _, rfl, rfl, .inr ⟨by decide, by decide⟩, _, rfl, p, _, 0, _, rfl, rfl, SqL.of h1q, rfl, c, _, rfl, .inl (SqL.of h2q), _, _, rfl, rfl, ?_, c, cs.map V.int, _, .int v, rfl, rfl, SqL.of h2q, ?_, ?_⟩
        · rw [lc]
          omega
        · rw [List.length_map]
          exact hv
        have d0 : 0 ≤ (z : Int) / (cs.length : Int) := Int.ediv_nonneg (by omega) (by omega)
        have d1 : (z : Int) / (cs.length : Int) ≤ z := by
          have := Int.ediv_le_self (cs.length : Int) (show 0 ≤ (z : Int) by omega)
          exact this
        refine ⟨_, rfl, _, rfl, p, _, 0, _, rfl, rfl, SqL.of h1q, rfl, c, _, rfl, .inl (SqL.of h2q), _, _, rfl, rfl, ⟨by rw [lc]; omega, by rw [lc]; omega⟩, .inl ⟨_, _, rfl, rfl, _, _, rfl, rfl, ⟨by rw [lc]; omega, by rw [lc]; omega⟩, ?_⟩⟩
        exact ⟨_, rfl, hPq, kq⟩
    · rintro σ H2 ⟨v, rfl, hP2, k2⟩
      refine ⟨fun σ H2 => ∃ v : Int, σ = [some (.ref p), some (.int (z : Int)), some (.int v), none, none, none, none] ∧ PenE H2 p c (z + 1) ∧ Kp p H H2, ?_, ?_⟩
      · obtain ⟨⟨r2, h3⟩, cs2, h4, hl2⟩ := id hP2
        refine ⟨_, rfl, _, rfl, p, _, 0, _, rfl, rfl, SqL.of h3, rfl, c, _, rfl, .inl (SqL.of h4), _, _, rfl, rfl, _, rfl, ?_⟩
        by_cases hlt : (z : Int) < (((cs2.map V.int).length : Nat) : Int)
        · refine iteTx (decide_eq_true hlt) ?_
          have hz2 : z < cs2.length := by rw [List.length_map] at hlt; omega
          refine ⟨_, rfl, p, _, 0, _, rfl, rfl, SqL.of h3, rfl, _, rfl, c, cs2.map V.int, _, .int cs2[z], rfl, rfl, SqL.of h4, at_natI (by rw [List.getElem?_map, List.getElem?_eq_getElem hz2]; rfl), ?_⟩
          exact ⟨_, rfl, hP2, k2⟩
        · exact iteFx (decide_eq_false hlt) ⟨_, rfl, hP2, k2⟩
      · rintro σ H3 ⟨v, rfl, hP3, k3⟩
        refine ⟨_, rfl, _, _, rfl, rfl, ⟨by decide, by decide, by decide⟩, _, _, rfl, rfl, _, rfl, ?_⟩
        refine ite2 (fun _ => ⟨_, rfl, k _ _ hP3 k3⟩) (fun _ => ?_)
        refine ⟨le_line (by show 7 ≤ 16000000; decide), fun q1 hq1 => ?_⟩
        have b7 := Int.emod_nonneg (z : Int) (show (7 : Int) ≠ 0 by decide)
        have c7 := Int.emod_lt_of_pos (z : Int) (show (0 : Int) < 7 by decide)
        obtain ⟨one, ho, o1, o2⟩ := pick_int [2147483647, 2147483629, 2147483587, 2147483579, 2147483563, 2147483549, 2147483543] ((z : Int) % 7) b7 c7 (by decide)
        refine ⟨_, rfl, _, _, rfl, rfl, (by show (0 : Int) < 7; decide), q1, _, _, .int one, rfl, rfl, SqL.of upd_same, ho, ?_⟩
        refine ⟨le_line (by show 5 ≤ 16000000; decide), fun q2 hq2 => ?_⟩
        have b5 := Int.emod_nonneg (z : Int) (show (5 : Int) ≠ 0 by decide)
        have c5 := Int.emod_lt_of_pos (z : Int) (show (0 : Int) < 5 by decide)
        obtain ⟨two, ht, t1, t2⟩ := pick_int [2147483497, 2147483489, 2147483477, 2147483423, 2147483399] ((z : Int) % 5) b5 c5 (by decide)
        refine ⟨_, rfl, _, _, rfl, rfl, (by show (0 : Int) < 5; decide), q2, _, _, .int two, rfl, rfl, SqL.of upd_same, ht, ?_⟩
        have hP4 := (hP3.new (o := .lst ([2147483647, 2147483629, 2147483587, 2147483579, 2147483563, 2147483549, 2147483543].map V.int)) hq1).new (o := .lst ([2147483497, 2147483489, 2147483477, 2147483423, 2147483399].map V.int)) hq2
        have k4 := (k3.lay (o := .lst ([2147483647, 2147483629, 2147483587, 2147483579, 2147483563, 2147483549, 2147483543].map V.int)) hq1).lay (o := .lst ([2147483497, 2147483489, 2147483477, 2147483423, 2147483399].map V.int)) hq2
        have e1 := Int.emod_nonneg v (show one ≠ 0 by omega)
        have e2 := Int.emod_lt_of_pos v (show 0 < one by omega)
        have f1 := Int.emod_nonneg v (show two ≠ 0 by omega)
        have f2 := Int.emod_lt_of_pos v (show 0 < two by omega)
        refine ⟨_, rfl, _, rfl, _, _, rfl, rfl, (by show (0 : Int) < one; omega), _, rfl, _, _, rfl, rfl, .inl ⟨by decide, by decide⟩, .inl ⟨_, _, rfl, rfl, .inl ⟨_, _, rfl, rfl, _, _, rfl, rfl, ⟨by decide, by decide, by omega⟩, _, rfl, _, _, rfl, rfl, (by show (0 : Int) < one; omega), ?_⟩⟩⟩
        have g1 := Int.emod_nonneg ((v % one + 31 * (z : Int) + 5) ^ (5 : Int).toNat) (show one ≠ 0 by omega)
        have g2 := Int.emod_lt_of_pos ((v % one + 31 * (z : Int) + 5) ^ (5 : Int).toNat) (show 0 < one by omega)
        dsimp only
        generalize (v % one + 31 * (z : Int) + 5) ^ (5 : Int).toNat % one = mixed at g1 g2 ⊢
        have zz : (z : Int) * z < 200000000000000000 := by
          have : (z : Int) * z ≤ 400000000 * 400000000 := Int.mul_le_mul (by omega) (by omega) (by omega) (by decide)
          omega
        have z0 : 0 ≤ (z : Int) * z := Int.mul_nonneg (by omega) (by omega)
        refine ⟨_, rfl, _, rfl, _, rfl, _, _, rfl, rfl, (by show (0 : Int) < two; omega), .inl ⟨_, _, rfl, rfl, _, rfl, _, rfl, _, _, rfl, rfl, .inl ⟨by omega, by omega⟩, .inl ⟨_, _, rfl, rfl, _, _, rfl, rfl, ⟨by decide, by decide, by omega⟩, _, rfl, _, _, rfl, rfl, (by show (0 : Int) < two; omega), ?_⟩⟩⟩
        dsimp only
        generalize (mixed + v % two + (z : Int) * z) ^ (3 : Int).toNat % two = other
        exact ⟨_, rfl, .inl ⟨_, _, rfl, rfl, _, rfl, _, _, rfl, rfl, .inl ⟨by omega, by omega⟩, _, rfl, .inl ⟨_, _, rfl, rfl, k _ _ hP4 k4⟩⟩⟩
theorem ok_takeE (D : DefAt K mg "_law_e_take" s_law_e_take ["_law_pen", "_law_many"]) (T : Bl mg) (C_law_e_fresh : CallOk P w K mg base 1 "_law_e_fresh" ["_law_pen"] spFreshE) :
    CallOk P w K mg base 2 "_law_e_take" ["_law_pen", "_law_many"] spTakeE := by
  refine D.ok sc_law_e_take (fun vs H Q E h => ?_) (fun f cdv A outer s H vs Q E hr h => ?_)
  · obtain ⟨p, c, z, b, rfl, _⟩ := h
    rfl
  · obtain ⟨p, c, z, b, rfl, hP, hz, hb1, hb2, k⟩ := h
    refine ⟨_, (Evl.pss_cut (ps_if (pt_cmpR op_lt (pe_ix ix_list (pv 0) pe_int (fun _ _ => rfl)) (pv 1) (nomark _)) (pss_one (ps_asg (pe_callOk C_law_e_fresh hr (by omega) (by rfl) (pa_cons (pv 0) pa_nil)) (pg_sub (pv 0) pe_int set_list))) pss_nil)
        (pss_cons (ps_set (i := 2) sc_law_e_take.nd rfl (Or.inl rfl) (pe_op op_mod (pe_ix ix_list (pv 0) pe_int (fun _ _ => rfl)) (pv 1)))
        (pss_cons (ps_asg (pe_op op_fdiv (pe_ix ix_list (pv 0) pe_int (fun _ _ => rfl)) (pv 1)) (pg_sub (pv 0) pe_int set_list))
        (pss_one (ps_ret (pv 2)))))), ?_⟩
    obtain ⟨⟨r, h1⟩, _⟩ := id hP
    refine ⟨fun σ H2 => σ = [some (.ref p), some (.int b), none] ∧ (∃ z', PenE H2 p c z' ∧ z' ≤ z + 1) ∧ Kp p H H2, ?_, ?_⟩
    · refine ⟨_, rfl, p, _, 2, _, rfl, rfl, SqL.of h1, rfl, _, rfl, _, _, rfl, rfl, _, rfl, ?_⟩
      refine ite2 (fun _ => ?_) (fun _ => ⟨rfl, ⟨z, hP, by omega⟩, Kp.refl⟩)
      refine ⟨_, rfl, p, c, z, rfl, hP, hz, fun n H2 hP2 k2 => ?_⟩
      obtain ⟨⟨r2, h2⟩, _⟩ := id hP2
      exact ⟨_, rfl, p, _, 2, 2, rfl, rfl, h2, rfl, rfl, ⟨z + 1, hP2.put, by omega⟩, k2.put⟩
    · rintro σ H2 ⟨rfl, ⟨z', hP2, hz'⟩, k2⟩
      obtain ⟨⟨r2, h2⟩, _⟩ := id hP2
      refine ⟨_, rfl, p, _, 2, _, rfl, rfl, SqL.of h2, rfl, _, rfl, _, _, rfl, rfl, hb1, ?_⟩
      refine ⟨_, rfl, p, _, 2, _, rfl, rfl, SqL.of h2, rfl, _, rfl, _, _, rfl, rfl, ⟨hb1, hb2⟩, _, rfl, p, _, 2, 2, rfl, rfl, h2, rfl, ?_⟩
      exact ⟨_, rfl, k _ _ _ (Int.emod_nonneg _ (by omega)) (Int.emod_lt_of_pos _ hb1) hP2.put hz' k2.put⟩
end

section
variable {P : Program} {w : World} {K : PySem.W.Frag} {mg : Str → Option Value} {base : Heap} {C : Addr}
theorem ok_netInit {f : Addr} {fd : FuncData} (F : Fun K "__init__" "Net.__init__" s_Net_init f fd) (R : NetC K C) : FnOk P w K mg base CX0 1 f fd ["self"] (spNetInit K C) := by
  refine F.ok sc_Net_init (fun vs H Q E h => ?_) (fun cdv A outer s H vs Q E hr h => ?_)
  · obtain ⟨p, dx, rfl, _⟩ := h
    rfl
  · obtain ⟨p, dx, rfl, h0, k⟩ := h
    refine ⟨_, (pss_cons (ps_fld (pv 0) pe_dnewK rfl)
        (pss_cons (ps_fld (pv 0) pe_dnewT rfl)
        (pss_one (ps_fld (pv 0) pe_int rfl)))), ?_⟩
    refine fun r nr => ⟨_, rfl, p, C, dx, _, rfl, same_new nr _ _ h0, R.cl, R.nR, by decide, ?_⟩
    have npr : p ≠ r := ne_of_none h0 nr
    refine fun e ne => ⟨_, rfl, p, C, dx, [("rows", V.ref r)], rfl, ?_, R.cl, R.nE, (by show 1 < 1000; omega), ?_⟩
    · rw [upd_ne (ne_of_none upd_same ne), upd_same]
      rfl
    have npe : p ≠ e := ne_of_none upd_same ne
    have nre : r ≠ e := ne_of_none (H := upd (upd H r (.dK [])) p (.ins C dx [("rows", .ref r)])) (by rw [upd_ne npr.symm, upd_same]) ne
    refine ⟨_, rfl, p, C, dx, _, rfl, upd_same, R.cl, R.nF, (by show 2 < 1000; omega), ?_⟩
    have ne0 : H e = none := by
      rw [upd_ne npe.symm, upd_ne nre.symm] at ne
      exact ne
    refine k r e _ ⟨⟨dx, upd_same⟩, ⟨[], ?_, .nil⟩, ⟨[], ?_, .nil⟩, ⟨.nil, (fun x hx => nomatch hx), by decide, by decide, (fun x hx => nomatch hx), by decide, fun x hx => nomatch hx⟩⟩ ?_ nr ne0
    · rw [upd_ne npr.symm, upd_ne npr.symm, upd_ne nre, upd_ne npr.symm, upd_same]
    · rw [upd_ne npe.symm, upd_ne npe.symm, upd_same]
    · intro b o hb hn
      have n1 : b ≠ p := fun z => hn (by rw [z]; exact List.mem_cons_self ..)
      rw [upd_ne n1, upd_ne n1, upd_ne (ne_of_none hb ne0), upd_ne n1, upd_ne (ne_of_none hb nr)]
      exact hb
theorem ok_whole (D : DefAt K mg "is_whole" s_is_whole ["thing"]) (T : Bl mg) : CallOk P w K mg base 1 "is_whole" ["thing"] (spWhole K) := by
  refine D.ok sc_is_whole (fun vs H Q E h => ?_) (fun f cdv A outer s H vs Q E hr h => ?_)
  · obtain ⟨N, v, d, rfl, _⟩ := h
    rfl
  · obtain ⟨N, v, d, rfl, hd, k⟩ := h
    refine ⟨_, (pss_one (ps_ret (pe_and (pe_callB call_isD2 (by rfl) T.isinstance_ (by decide +kernel) (pa_cons (pv 0) (pa_cons (pe_bltn (v := .ty "int") (by rfl) T.int_ (by decide +kernel) rfl) pa_nil))) (pe_one (pe_not (pe_callB call_isD2 (by rfl) T.isinstance_ (by decide +kernel) (pa_cons (pv 0) (pa_cons (pe_bltn (v := .ty "bool") (by rfl) T.bool_ (by decide +kernel) rfl) pa_nil)))))))), ?_⟩
    refine ⟨_, rfl, N, v, d, "int", rfl, hd, by simp, _, rfl, ?_⟩
    cases d with
    | int i => exact iteTx rfl ⟨_, rfl, N, v, _, "bool", rfl, hd, by simp, _, rfl, k⟩
    | bool b => exact iteTx rfl ⟨_, rfl, N, v, _, "bool", rfl, hd, by simp, _, rfl, k⟩
    | none => exact iteFx rfl k
    | str x => exact iteFx rfl k
    | list x => exact iteFx rfl k
    | tuple x => exact iteFx rfl k
    | dict x => exact iteFx rfl k
theorem ok_hasA (D : MethAt K C "has_agent" "Net.has_agent" s_Net_has_agent ["self", "thing"]) (R : NetC K C) (C_is_whole : CallOk P w K mg base 1 "is_whole" ["thing"] (spWhole K)) : MethOk P w K mg base 2 C "has_agent" ["self", "thing"] (spHasA K C) := by
  refine D.ok sc_Net_has_agent (fun vs H Q E h => ?_) (fun f cdv A outer s H vs Q E hr h => ?_)
  · obtain ⟨n, r, e, S, N, v, d, rfl, _⟩ := h
    rfl
  · obtain ⟨n, r, e, S, N, v, d, rfl, hN, hd, k⟩ := h
    refine ⟨_, (pss_one (ps_ret (pe_and (pe_callOk C_is_whole hr (by omega) (by rfl) (pa_cons (pv 1) pa_nil)) (pe_one (pe_cmp (pc_din (hu_of hr) (pv 1) (pe_fld (pv 0) rfl)) rfl))))), ?_⟩
    obtain ⟨⟨dx, h1⟩, ⟨kvs, h2, h3⟩, _, _⟩ := id hN
    refine ⟨_, rfl, N, v, d, rfl, hd, _, rfl, ?_⟩
    cases d with
    | int i =>
      cases hd
      refine iteTx rfl ⟨_, rfl, _, rfl, n, C, dx, _, _, rfl, h1, R.cl, R.nR, netF_rows, r, _, rfl, DGet.k (k := .inl i) h2, ?_⟩
      have e : (valV kvs (.inl i)).isSome = agentD S (.int i) := by
        show _ = (decide (0 ≤ i) && (lk S.rows i.toNat).isSome)
        by_cases hi : 0 ≤ i
        · obtain ⟨j, rfl⟩ : ∃ j : Nat, i = (j : Int) := ⟨i.toNat, by omega⟩
          rcases rows_val h3 j with ⟨g1, g2⟩ | ⟨t, sv, sym, low, g1, g2, _⟩
          · show (valV kvs (ik j)).isSome = _
            rw [g1, Int.toNat_natCast, g2]
            simp
          · show (valV kvs (ik j)).isSome = _
            rw [g1, Int.toNat_natCast, g2]
            simp
        · rw [rows_neg h3 (by omega), decide_eq_false hi]
          rfl
      show Q (.bl (valV kvs (.inl i)).isSome) H
      rw [e]
      exact k
    | bool b => exact iteFx rfl k
    | none => exact iteFx rfl k
    | str x => exact iteFx rfl k
    | list x => exact iteFx rfl k
    | tuple x => exact iteFx rfl k
    | dict x => exact iteFx rfl k
theorem ok_needA (D : MethAt K C "need_agent" "Net.need_agent" s_Net_need_agent ["self", "thing"]) (R : NetC K C) (M_Net_has_agent : MethOk P w K mg base 2 C "has_agent" ["self", "thing"] (spHasA K C)) : MethOk P w K mg base 3 C "need_agent" ["self", "thing"] (spNeedA K C) := by
  refine D.ok sc_Net_need_agent (fun vs H Q E h => ?_) (fun f cdv A outer s H vs Q E hr h => ?_)
  · obtain ⟨n, r, e, S, N, v, d, rfl, _⟩ := h
    rfl
  · obtain ⟨n, r, e, S, N, v, d, rfl, hN, hd, hA, k⟩ := h
    refine ⟨_, (pss_one (ps_if (pt_not (pt_val (pe_methOk M_Net_has_agent R.cl hr (by omega) (pv 0) (pa_cons (pv 1) pa_nil)))) (pss_one ps_never) pss_nil)), ?_⟩
    obtain ⟨dx, h1⟩ := hN.ob
    refine ⟨_, rfl, n, dx, _, rfl, h1, netF_no (by decide +kernel) (by decide +kernel) (by decide +kernel), _, rfl, n, r, e, S, N, v, d, rfl, hN, hd, _, rfl, ?_⟩
    rw [hA]
    exact iteFx rfl k
theorem ok_hasP (D : MethAt K C "has_port" "Net.has_port" s_Net_has_port ["self", "thing"]) (R : NetC K C) (C_is_row : CallOk P w K mg base 1 "is_row" ["thing", "least", "most"] (spIsRow K)) (C_is_whole : CallOk P w K mg base 1 "is_whole" ["thing"] (spWhole K)) (M_Net_has_agent : MethOk P w K mg base 2 C "has_agent" ["self", "thing"] (spHasA K C)) :
    MethOk P w K mg base 3 C "has_port" ["self", "thing"] (spHasP K C) := by
  refine D.ok sc_Net_has_port (fun vs H Q E h => ?_) (fun f cdv A outer s H vs Q E hr h => ?_)
  · obtain ⟨n, r, e, S, N, v, d, rfl, _⟩ := h
    rfl
  · obtain ⟨n, r, e, S, N, v, d, rfl, hN, hd, k⟩ := h
    refine ⟨_, (pss_cons (ps_if (PW.pt (pw_or (pt_not (pt_val (pe_callOk C_is_row hr (by omega) (by rfl) (pa_cons (pv 1) (pa_cons pe_int (pa_cons pe_int pa_nil)))))) (pw_or (pt_not (pt_val (pe_methOk M_Net_has_agent R.cl hr (by omega) (pv 0) (pa_cons (pe_ix ix_tup (pv 1) pe_int (fun _ _ => rfl)) pa_nil)))) (pw_or1 (pt_not (pt_val (pe_callOk C_is_whole hr (by omega) (by rfl) (pa_cons (pe_ix ix_tup (pv 1) pe_int (fun _ _ => rfl)) pa_nil)))))))) (pss_one (ps_ret pe_bl)) pss_nil)
        (pss_one (ps_ret (pe_chain op_le op_le pe_int (pe_ix ix_tup (pv 1) pe_int (fun _ _ => rfl)) (pe_ix ix_tup (pe_dget (hu_of hr) (pe_fld (pv 0) rfl) (pe_ix ix_tup (pv 1) pe_int (fun _ _ => rfl)) (fun _ _ => rfl)) pe_int (fun _ _ => rfl)))))), ?_⟩
    obtain ⟨⟨dx, h1⟩, ⟨kvs, h2, h3⟩, _, _⟩ := id hN
    have noM : (netF r e S.next).lookup ("has_agent" : Str) = none := netF_no (by decide +kernel) (by decide +kernel) (by decide +kernel)
    refine ⟨_, rfl, N, v, d, 2, 2, rfl, hd, _, rfl, ?_⟩
    by_cases hrow : ∃ a b, d = .tuple [a, b]
    · obtain ⟨a, b, rfl⟩ := hrow
      refine iteFx (by unfold isRowD; rfl) ?_
      obtain ⟨t, v1, v2, rfl, hT, g1, g2⟩ := hd.tup2
      refine ⟨_, rfl, n, dx, _, rfl, h1, noM, _, rfl, t, _, 0, _, rfl, rfl, hT, at_zero, n, r, e, S, N, v1, a, rfl, hN, g1, _, rfl, ?_⟩
      cases hA : agentD S a with
      | false =>
        refine iteTx rfl ?_
        have e0 : portD S (.tuple [a, b]) = false := by
          unfold portD
          unfold agentD at hA
          split <;> simp_all
        rw [e0] at k
        exact k
      | true =>
        refine iteFx rfl ⟨_, rfl, t, _, 1, _, rfl, rfl, hT, rfl, N, v2, b, rfl, g2, _, rfl, ?_⟩
        cases hW : wholeD b with
        | false =>
          refine iteTx rfl ?_
          have e0 : portD S (.tuple [a, b]) = false := by
            unfold portD
            split <;> simp_all [wholeD]
          rw [e0] at k
          exact k
        | true =>
          refine iteFx rfl ?_
          obtain ⟨i, rfl⟩ : ∃ i, a = .int i := by cases a <;> simp_all [agentD]
          obtain ⟨j, rfl⟩ : ∃ j, b = .int j := by cases b <;> simp_all [wholeD]
          cases g1
          cases g2
          have hi : 0 ≤ i ∧ (lk S.rows i.toNat).isSome = true := by simpa [agentD] using hA
          obtain ⟨m, rfl⟩ : ∃ m : Nat, i = (m : Int) := ⟨i.toNat, by omega⟩
          rw [Int.toNat_natCast] at hi
          rcases rows_val h3 m with ⟨q1, q2⟩ | ⟨u, sv, sym, low, q1, q2, q3, q4⟩
          · rw [q2] at hi
            exact absurd hi.2 (by simp)
          refine ⟨_, rfl, t, _, 1, _, rfl, rfl, hT, rfl, _, _, rfl, rfl, _, rfl, ?_⟩
          have e0 : portD S (.tuple [.int (m : Int), .int j]) = (decide (0 ≤ j) && decide (j ≤ (low : Int))) := by
            unfold portD
            simp only [Int.toNat_natCast, q2]
            simp
          rw [e0] at k
          by_cases hj : 0 ≤ j
          · rw [decide_eq_true hj, Bool.true_and] at k
            refine iteTx (decide_eq_true hj) ?_
            exact ⟨_, rfl, n, C, dx, _, _, rfl, h1, R.cl, R.nR, netF_rows, _, rfl, t, _, 0, _, rfl, rfl, hT, at_zero, r, _, rfl, by rw [← q1]; exact DGet.k (k := ik m) h2, u, _, 1, _, rfl, rfl, q3, rfl, _, _, rfl, rfl, k⟩
          · rw [decide_eq_false hj, Bool.false_and] at k
            exact iteFx (decide_eq_false hj) k
    · have e0 : portD S d = false := by
        unfold portD
        split
        · exact absurd ⟨_, _, rfl⟩ hrow
        · rfl
      have e1 : isRowD d 2 2 = false := by
        cases d with
        | tuple ds =>
          match ds, hrow with
          | [], _ => rfl
          | [a], _ => rfl
          | [a, b], h => exact absurd ⟨a, b, rfl⟩ h
          | a :: b :: c :: ds, _ =>
            unfold isRowD
            simp
            omega
        | _ => rfl
      rw [e0] at k
      exact iteTx (by rw [e1]; rfl) k
theorem ok_needP (D : MethAt K C "need_port" "Net.need_port" s_Net_need_port ["self", "thing"]) (R : NetC K C) (M_Net_has_port : MethOk P w K mg base 3 C "has_port" ["self", "thing"] (spHasP K C)) : MethOk P w K mg base 4 C "need_port" ["self", "thing"] (spNeedP K C) := by
  refine D.ok sc_Net_need_port (fun vs H Q E h => ?_) (fun f cdv A outer s H vs Q E hr h => ?_)
  · obtain ⟨n, r, e, S, N, v, d, rfl, _⟩ := h
    rfl
  · obtain ⟨n, r, e, S, N, v, d, rfl, hN, hd, hA, k⟩ := h
    refine ⟨_, (pss_one (ps_if (pt_not (pt_val (pe_methOk M_Net_has_port R.cl hr (by omega) (pv 0) (pa_cons (pv 1) pa_nil)))) (pss_one ps_never) pss_nil)), ?_⟩
    obtain ⟨dx, h1⟩ := hN.ob
    refine ⟨_, rfl, n, dx, _, rfl, h1, netF_no (by decide +kernel) (by decide +kernel) (by decide +kernel), _, rfl, n, r, e, S, N, v, d, rfl, hN, hd, _, rfl, ?_⟩
    rw [hA]
    exact iteFx rfl k
end

section
variable {P : Program} {w : World} {K : PySem.W.Frag} {mg : Str → Option Value} {base : Heap} {C : Addr}
theorem ok_put {dvs : List V} (D : MethDAt K C "put" "Net.put" s_Net_put ["self", "symbol", "lower", "at"] dvs) (R : NetC K C) (C_is_whole : CallOk P w K mg base 1 "is_whole" ["thing"] (spWhole K)) : MethD P w K mg base 2 C "put" ["self", "symbol", "lower", "at"] dvs (spPutN K C) := by
  refine D.ok sc_Net_put (fun vs H Q E h => ?_) (fun f cdv A outer s H vs Q E hr h => ?_)
  · obtain ⟨n, r, e, S, sv, sym, low, rfl, _⟩ := h
    rfl
  · obtain ⟨n, r, e, S, sv, sym, low, rfl, hN, hd, hlow, hnx, hln, k⟩ := h
    refine ⟨_, (pss_cons (ps_set (i := 4) sc_Net_put.nd rfl (Or.inl rfl) (pe_ifExp (pt_cmpR op_isN (pv 3) pe_non (nomark _)) (pe_fld (pv 0) rfl) (pv 3)))
        (pss_cons (ps_if (PW.pt (pw_or (pt_not (pt_val (pe_callOk C_is_whole hr (by omega) (by rfl) (pa_cons (pv 4) pa_nil)))) (pw_or1 (pt_cmpR op_lt (pv 4) (pe_fld (pv 0) rfl) (nomark _))))) (pss_one ps_never) pss_nil)
        (pss_cons (ps_dput (hu_of hr) (pe_fld (pv 0) rfl) (pv 4) (pe_tup (pa_cons (pv 1) (pa_cons (pv 2) pa_nil))) rfl)
        (pss_cons (ps_fld (pv 0) (pe_op opAdd (pv 4) pe_int) rfl)
        (pss_one (ps_ret (pv 4))))))), ?_⟩
    obtain ⟨⟨dx, h1⟩, ⟨kvs, h2, h3⟩, ⟨ks, h4, h5⟩, ok⟩ := id hN
    refine ⟨_, rfl, rfl, _, rfl, iteTx (by decide) ⟨_, rfl, n, C, dx, _, _, rfl, h1, R.cl, R.nF, netF_next, ?_⟩⟩
    refine ⟨_, rfl, All, _, _, rfl, .int _, _, rfl, iteFx rfl ⟨_, rfl, _, rfl, n, C, dx, _, _, rfl, h1, R.cl, R.nF, netF_next, _, _, rfl, rfl, _, rfl, iteFx (decide_eq_false (by omega)) ?_⟩⟩
    refine ⟨_, rfl, _, rfl, le_line (by show 2 ≤ 16000000; decide), fun t nt => ?_⟩
    have h1t : upd H t (.tup [sv, .int (low : Int)]) n = some (.ins C dx (netF r e S.next)) := same_new nt _ _ h1
    have nNone : valV kvs (ik S.next) = none := by
      rcases rows_val h3 S.next with ⟨g, _⟩ | ⟨_, _, _, _, _, g, _⟩
      · exact g
      · rw [ok.new] at g
        cases g
    refine ⟨_, rfl, n, C, dx, _, _, rfl, h1t, R.cl, R.nR, netF_rows, _, rfl, r, _, rfl, DPut.k (k := ik S.next) (same_new nt _ _ h2) (Nat.lt_of_le_of_lt (Nat.le_trans (Nat.le_of_eq (Paired.length h3)) ok.len) (by decide)), ?_⟩
    have nnr : n ≠ r := ne_of h1 h2 (fun z => nomatch z)
    have ner : e ≠ r := ne_of h4 h2 (fun z => nomatch z)
    have nen : e ≠ n := ne_of h4 h1 (fun z => nomatch z)
    have ntr : t ≠ r := (ne_of_none h2 nt).symm
    have ntn : t ≠ n := (ne_of_none h1 nt).symm
    rw [putK_new _ nNone]
    have a0 : Kx [n, r, e] H (upd H t (.tup [sv, .int (low : Int)])) := .new nt
    have a1 : Kx [n, r, e] H (upd (upd H t (.tup [sv, .int (low : Int)])) r (.dK (kvs ++ [(ik S.next, .ref t)]))) := a0.trans (.put (by simp))
    refine ⟨_, rfl, .inl ⟨_, _, rfl, rfl, _, rfl, n, C, dx, _, rfl, by rw [upd_ne nnr]; exact h1t, R.cl, R.nF, (by show 3 < 1000; omega), ?_⟩⟩
    refine ⟨_, rfl, k _ ?_ (a1.trans (.put (by simp)))⟩
    have e1 : putF "following" (.int ((S.next : Int) + 1)) (netF r e S.next) = netF r e (S.next + 1) := netF_put (m := S.next + 1)
    have kk : Kx [n, r, e] H (upd (upd (upd H t (.tup [sv, .int (low : Int)])) r (.dK (kvs ++ [(ik S.next, .ref t)]))) n (.ins C dx (putF "following" (.int ((S.next : Int) + 1)) (netF r e S.next)))) := a1.trans (.put (by simp))
    have hts := hN.noTs
    refine ⟨⟨dx, by rw [upd_same, e1]; rfl⟩, ⟨kvs ++ [(ik S.next, .ref t)], by rw [upd_ne nnr.symm, upd_same], ?_⟩, ⟨ks, by rw [upd_ne nen, upd_ne ner]; exact same_new nt _ _ h4, L2.Paired.mapP h5 fun _ _ z => z.kx kk hts⟩, ok.put hnx hln hlow⟩
    refine pd_app (L2.Paired.mapP h3 fun _ _ z => z.kx kk hts) (.cons ⟨rfl, t, sv, rfl, ?_, hd.kx kk hts⟩ .nil)
    exact SqT.of (by rw [upd_ne ntn, upd_ne ntr, upd_same])
end

section
variable {P : Program} {w : World} {K : PySem.W.Frag} {mg : Str → Option Value} {base : Heap} {C : Addr}
theorem ok_numN (D : MethAt K C "numbers" "Net.numbers" s_Net_numbers ["self"]) (R : NetC K C) (T : Bl mg) : MethOk P w K mg base 1 C "numbers" ["self"] (spNumN K C) := by
  refine D.ok sc_Net_numbers (fun vs H Q E h => ?_) (fun f cdv A outer s H vs Q E hr h => ?_)
  · obtain ⟨n, r, e, S, rfl, _⟩ := h
    rfl
  · obtain ⟨n, r, e, S, rfl, hN, k⟩ := h
    refine ⟨_, (pss_one (ps_ret (pe_callTy (call_list_dK rfl) (by rfl) T.list_ (by decide +kernel) (pa_cons (pe_fld (pv 0) rfl) pa_nil)))), ?_⟩
    obtain ⟨⟨dx, h1⟩, ⟨kvs, h2, h3⟩, _, _⟩ := id hN
    refine ⟨_, rfl, n, C, dx, _, _, rfl, h1, R.cl, R.nR, netF_rows, r, kvs, rfl, h2, fun q hq => ?_⟩
    have e1 : (kvs.map fun kv => kV kv.1) = S.rows.map fun x => V.int (x.1 : Int) := by
      clear hN k h2
      revert h3
      generalize S.rows = rows0
      intro h3
      induction h3 with
      | nil => rfl
      | cons h t ih =>
        rw [List.map_cons, List.map_cons, ih, h.1]
        rfl
    rw [e1]
    exact k q hq
theorem ok_symN (D : MethAt K C "symbol_of" "Net.symbol_of" s_Net_symbol_of ["self", "agent"]) (R : NetC K C) (T : Bl mg) (M_Net_need_agent : MethOk P w K mg base 3 C "need_agent" ["self", "thing"] (spNeedA K C)) : MethOk P w K mg base 4 C "symbol_of" ["self", "agent"] (spSymN K C) := by
  refine D.ok sc_Net_symbol_of (fun vs H Q E h => ?_) (fun f cdv A outer s H vs Q E hr h => ?_)
  · obtain ⟨n, r, e, S, a, sym, low, rfl, _⟩ := h
    rfl
  · obtain ⟨n, r, e, S, a, sym, low, rfl, hN, hl, k⟩ := h
    refine ⟨_, (pss_cons (ps_expr (pe_methOk M_Net_need_agent R.cl hr (by omega) (pv 0) (pa_cons (pv 1) pa_nil)))
        (pss_one (ps_ret (pe_ix ix_tup (pe_dget (hu_of hr) (pe_fld (pv 0) rfl) (pv 1) (fun _ _ => rfl)) pe_int (fun _ _ => rfl))))), ?_⟩
    obtain ⟨⟨dx, h1⟩, ⟨kvs, h2, h3⟩, _, _⟩ := id hN
    refine ⟨_, rfl, n, dx, _, rfl, h1, no3 (by decide +kernel), _, rfl, n, r, e, S, All, _, _, rfl, hN, .int _, by simp [agentD, hl], ?_⟩
    rcases rows_val h3 a with ⟨_, g⟩ | ⟨t, sv, sym', low', g1, g2, g3, g4⟩
    · rw [hl] at g
      cases g
    · rw [hl] at g2
      cases g2
      exact ⟨_, rfl, n, C, dx, _, _, rfl, h1, R.cl, R.nR, netF_rows, _, rfl, r, _, rfl, by rw [← g1]; exact DGet.k (k := ik a) h2, t, _, 0, _, rfl, rfl, g3, at_zero, k _ g4⟩
theorem ok_lowN (D : MethAt K C "lower_of" "Net.lower_of" s_Net_lower_of ["self", "agent"]) (R : NetC K C) (T : Bl mg) (M_Net_need_agent : MethOk P w K mg base 3 C "need_agent" ["self", "thing"] (spNeedA K C)) : MethOk P w K mg base 4 C "lower_of" ["self", "agent"] (spLowN K C) := by
  refine D.ok sc_Net_lower_of (fun vs H Q E h => ?_) (fun f cdv A outer s H vs Q E hr h => ?_)
  · obtain ⟨n, r, e, S, a, sym, low, rfl, _⟩ := h
    rfl
  · obtain ⟨n, r, e, S, a, sym, low, rfl, hN, hl, k⟩ := h
    refine ⟨_, (pss_cons (ps_expr (pe_methOk M_Net_need_agent R.cl hr (by omega) (pv 0) (pa_cons (pv 1) pa_nil)))
        (pss_one (ps_ret (pe_ix ix_tup (pe_dget (hu_of hr) (pe_fld (pv 0) rfl) (pv 1) (fun _ _ => rfl)) pe_int (fun _ _ => rfl))))), ?_⟩
    obtain ⟨⟨dx, h1⟩, ⟨kvs, h2, h3⟩, _, _⟩ := id hN
    refine ⟨_, rfl, n, dx, _, rfl, h1, no3 (by decide +kernel), _, rfl, n, r, e, S, All, _, _, rfl, hN, .int _, by simp [agentD, hl], ?_⟩
    rcases rows_val h3 a with ⟨_, g⟩ | ⟨t, sv, sym', low', g1, g2, g3, g4⟩
    · rw [hl] at g
      cases g
    · rw [hl] at g2
      cases g2
      exact ⟨_, rfl, n, C, dx, _, _, rfl, h1, R.cl, R.nR, netF_rows, _, rfl, r, _, rfl, by rw [← g1]; exact DGet.k (k := ik a) h2, t, _, 1, _, rfl, rfl, g3, rfl, k⟩
theorem ok_endN (D : MethAt K C "end_of" "Net.end_of" s_Net_end_of ["self", "port"]) (R : NetC K C) (T : Bl mg) (M_Net_need_port : MethOk P w K mg base 4 C "need_port" ["self", "thing"] (spNeedP K C)) : MethOk P w K mg base 5 C "end_of" ["self", "port"] (spEndN K C) := by
  refine D.ok sc_Net_end_of (fun vs H Q E h => ?_) (fun f cdv A outer s H vs Q E hr h => ?_)
  · obtain ⟨n, r, e, q, S, x, rfl, _⟩ := h
    rfl
  · obtain ⟨n, r, e, q, S, x, rfl, hN, hq, hp, k0, k1⟩ := h
    refine ⟨_, (pss_cons (ps_expr (pe_methOk M_Net_need_port R.cl hr (by omega) (pv 0) (pa_cons (pv 1) pa_nil)))
        (pss_one (ps_ret (pe_dget1 (hu_of hr) (pe_fld (pv 0) rfl) (pv 1) ⟨rfl, rfl, rfl, rfl⟩)))), ?_⟩
    obtain ⟨⟨dx, h1⟩, _, ⟨ks, h4, h5⟩, _⟩ := id hN
    refine ⟨_, rfl, n, dx, _, rfl, h1, no3 (by decide +kernel), _, rfl, n, r, e, S, All, _, _, rfl, hN, pt_da hq, portD_of hp, ?_⟩
    refine ⟨_, rfl, n, C, dx, _, _, rfl, h1, R.cl, R.nE, netF_ends, e, rfl, .inr ⟨ks, .inl h4⟩, _, rfl, _, DGet.t (k := pk x) h4 hq, ?_⟩
    rcases ends_val h5 x with ⟨g1, g2⟩ | ⟨t, y, g1, g2, g3⟩
    · rw [g1]
      exact k0 g2
    · rw [g1]
      exact k1 y t g2 g3
theorem ok_lenN (D : MethAt K C "__len__" "Net.__len__" s_Net___len__ ["self"]) (R : NetC K C) (T : Bl mg) : MethOk P w K mg base 1 C "__len__" ["self"] (spLenN K C) := by
  refine D.ok sc_Net___len__ (fun vs H Q E h => ?_) (fun f cdv A outer s H vs Q E hr h => ?_)
  · obtain ⟨n, r, e, S, rfl, _⟩ := h
    rfl
  · obtain ⟨n, r, e, S, rfl, hN, k⟩ := h
    refine ⟨_, (pss_one (ps_ret (pe_callB call_lenD (by rfl) T.len_ (by decide +kernel) (pa_cons (pe_fld (pv 0) rfl) pa_nil)))), ?_⟩
    obtain ⟨⟨dx, h1⟩, ⟨kvs, h2, h3⟩, _, _⟩ := id hN
    refine ⟨_, rfl, n, C, dx, _, _, rfl, h1, R.cl, R.nR, netF_rows, r, kvs, rfl, h2, ?_⟩
    rw [show kvs.length = S.rows.length from Paired.length h3]
    exact k
theorem ok_tieN (D : MethAt K C "tie" "Net.tie" s_Net_tie ["self", "port", "other"]) (R : NetC K C) (T : Bl mg) (M_Net_need_port : MethOk P w K mg base 4 C "need_port" ["self", "thing"] (spNeedP K C)) : MethOk P w K mg base 5 C "tie" ["self", "port", "other"] (spTieN K C) := by
  refine D.ok sc_Net_tie (fun vs H Q E h => ?_) (fun f cdv A outer s H vs Q E hr h => ?_)
  · obtain ⟨n, r, e, q1, q2, S, x, y, rfl, _⟩ := h
    rfl
  · obtain ⟨n, r, e, q1, q2, S, x, y, rfl, hN, hq1, hq2, hx, hy, hxy, lx, ly, hle, k⟩ := h
    refine ⟨_, (pss_cons (ps_expr (pe_methOk M_Net_need_port R.cl hr (by omega) (pv 0) (pa_cons (pv 1) pa_nil)))
        (pss_cons (ps_expr (pe_methOk M_Net_need_port R.cl hr (by omega) (pv 0) (pa_cons (pv 2) pa_nil)))
        (pss_cons (ps_if (PW.pt (pw_or (pt_cmpR (op_eqD hr.units) (pv 1) (pv 2) (nomark _)) (pw_or (pt_cmp (pc_din (hu_of hr) (pv 1) (pe_fld (pv 0) rfl))) (pw_or1 (pt_cmp (pc_din (hu_of hr) (pv 2) (pe_fld (pv 0) rfl))))))) (pss_one ps_never) pss_nil)
        (pss_cons (ps_dput (hu_of hr) (pe_fld (pv 0) rfl) (pv 1) (pv 2) rfl)
        (pss_one (ps_dput (hu_of hr) (pe_fld (pv 0) rfl) (pv 2) (pv 1) rfl)))))), ?_⟩
    obtain ⟨⟨dx, h1⟩, ⟨kvs, h2, h3⟩, ⟨ks, h4, h5⟩, ok⟩ := id hN
    refine ⟨_, rfl, n, dx, _, rfl, h1, no3 (by decide +kernel), _, rfl, n, r, e, S, All, _, _, rfl, hN, pt_da hq1, portD_of hx, ?_⟩
    refine ⟨_, rfl, n, dx, _, rfl, h1, no3 (by decide +kernel), _, rfl, n, r, e, S, All, _, _, rfl, hN, pt_da hq2, portD_of hy, ?_⟩
    have vx : valV ks (pk x) = none := by
      rcases ends_val h5 x with ⟨g, _⟩ | ⟨_, _, _, g, _⟩
      · exact g
      · rw [lx] at g
        cases g
    have vy : valV ks (pk y) = none := by
      rcases ends_val h5 y with ⟨g, _⟩ | ⟨_, _, _, g, _⟩
      · exact g
      · rw [ly] at g
        cases g
    have lks : ks.length ≤ 1000000 := Nat.le_trans (Nat.le_of_eq (Paired.length h5)) (by omega)
    refine ⟨_, rfl, _, rfl, _, _, pt_dp hq1, pt_dp hq2, pt_shaped x, pt_shaped y, _, rfl, ?_⟩
    rw [pt_eqv, decide_eq_false hxy]
    refine iteFx rfl ⟨_, rfl, _, rfl, n, C, dx, _, _, rfl, h1, R.cl, R.nE, netF_ends, e, _, rfl, DGet.t (k := pk x) h4 hq1, _, rfl, ?_⟩
    rw [vx]
    refine iteFx rfl ⟨_, rfl, _, rfl, n, C, dx, _, _, rfl, h1, R.cl, R.nE, netF_ends, e, _, rfl, DGet.t (k := pk y) h4 hq2, _, rfl, ?_⟩
    rw [vy]
    refine iteFx rfl ?_
    refine ⟨_, rfl, _, rfl, n, C, dx, _, _, rfl, h1, R.cl, R.nE, netF_ends, _, rfl, e, _, rfl, DPut.t (k := pk x) h4 hq1 (Nat.lt_of_le_of_lt lks (by decide)), ?_⟩
    have nne : n ≠ e := ne_of h1 h4 (fun z => nomatch z)
    have nre : r ≠ e := ne_of h2 h4 (fun z => nomatch z)
    have n1e : q1 ≠ e := ne_of hq1 h4 (fun z => nomatch z)
    have n2e : q2 ≠ e := ne_of hq2 h4 (fun z => nomatch z)
    rw [putK_new _ vx]
    have vy2 : valV (ks ++ [(pk x, V.ref q2)]) (pk y) = none := by
      have := valV_put ks (pk x) (pk y) (V.ref q2)
      rw [putK_new _ vx, if_neg (fun z => hxy (pk_inj z).symm), vy] at this
      exact this
    refine ⟨_, rfl, _, rfl, n, C, dx, _, _, rfl, by rw [upd_ne nne]; exact h1, R.cl, R.nE, netF_ends, _, rfl, e, _, rfl, DPut.t (k := pk y) upd_same (by rw [upd_ne n2e]; exact hq2) (by rw [List.length_append]; exact Nat.lt_of_le_of_lt (Nat.add_le_add_right lks 1) (by decide)), ?_⟩
    rw [putK_new _ vy2, upd_upd]
    have kk : Kx [n, r, e] H (upd H e (.dT (ks ++ [(pk x, V.ref q2)] ++ [(pk y, V.ref q1)]))) := .put (by simp)
    have hts := hN.noTs
    refine k _ ⟨⟨dx, by rw [upd_ne nne]; exact h1⟩, ⟨kvs, by rw [upd_ne nre]; exact h2, L2.Paired.mapP h3 fun _ _ z => z.kx kk hts⟩, ⟨_, upd_same, ?_⟩, ok.tie hx hy hle⟩ kk
    have p1 : Paired (NEnd (upd H e (.dT (ks ++ [(pk x, V.ref q2)] ++ [(pk y, V.ref q1)])))) (ks ++ [(pk x, V.ref q2)] ++ [(pk y, V.ref q1)]) (S.ends ++ [(x, y)] ++ [(y, x)]) :=
      pd_app (pd_app (L2.Paired.mapP h5 fun _ _ z => z.kx kk hts) (.cons ⟨rfl, q2, rfl, by rw [upd_ne n2e]; exact hq2⟩ .nil)) (.cons ⟨rfl, q1, rfl, by rw [upd_ne n1e]; exact hq1⟩ .nil)
    rw [List.append_assoc S.ends] at p1
    exact p1
end

section
variable {K : PySem.W.Frag} {f : Addr} {fd : FuncData}
theorem put_b2 (F : L2.FunD K "put" "Net.put" (defArgs s_Net_put) (defBody s_Net_put) (defScope s_Net_put) [.int 0] [("at", .non)] f fd) : ∃ ds, Vals [V.int 0, .non] ds ∧ L2.Binds K fd ["self", "symbol", "lower", "at"] ds :=
  F.binds (ps := ["self", "symbol", "lower", "at"]) 2 0 (by simp) rfl (fun T D doc pm an cdv ct us its ks hu hi hk => match us, its, ks, hu, hi, hk with | [_, _], [_], [_], _, _, _ => ⟨_, rfl, _, _, _, _, _, _, rfl, rfl, rfl⟩) (by simp)
theorem put_b3 (F : L2.FunD K "put" "Net.put" (defArgs s_Net_put) (defBody s_Net_put) (defScope s_Net_put) [.int 0] [("at", .non)] f fd) : ∃ ds, Vals [V.non] ds ∧ L2.Binds K fd ["self", "symbol", "lower", "at"] ds :=
  F.binds (ps := ["self", "symbol", "lower", "at"]) 3 1 (by simp) rfl (fun T D doc pm an cdv ct us its ks hu hi hk => match us, its, ks, hu, hi, hk with | [_, _, _], [_], [_], _, _, _ => ⟨_, rfl, _, _, _, _, _, _, rfl, rfl, rfl⟩) (by simp)
end

open L2.DX
section
variable {P : Program} {w : World} {K : PySem.W.Frag} {mg : Str → Option Value} {base : Heap} {C : Addr}
theorem ok_takeN (D : MethAt K C "take_away" "Net.take_away" s_Net_take_away ["self", "agent"]) (R : NetC K C) (T : Bl mg) (M_Net_lower_of : MethOk P w K mg base 4 C "lower_of" ["self", "agent"] (spLowN K C)) : MethOk P w K mg base 5 C "take_away" ["self", "agent"] (spTakeN K C) := by
  refine D.ok sc_Net_take_away (fun vs H Q E h => ?_) (fun f cdv A outer s H vs Q E hr h => ?_)
  · obtain ⟨n, r, e, S, a, sym, low, rfl, _⟩ := h
    rfl
  · obtain ⟨n, r, e, S, a, sym, low, rfl, hN, hl, nd, sm, ir, k⟩ := h
    refine ⟨_, (pss_cons (ps_for PassesOwn.never rfl (pi_range1 (by rfl) T.range_ (pa_cons (pe_op opAdd (pe_methOk M_Net_lower_of R.cl hr (by omega) (pv 0) (pa_cons (pv 1) pa_nil)) pe_int) pa_nil)) (pg_name (i := 2) sc_Net_take_away.nd rfl (Or.inl rfl) (by first | exact .inl rfl | exact .inr rfl)) (pss_cons (ps_set (i := 3) sc_Net_take_away.nd rfl (Or.inl rfl) (pe_bm PySem.F.plainAttrs_dict PySem.F.slot_dict_pop PySem.F.type_dict_pop (mt_popT (hu_of hr)) (pe_fld (pv 0) rfl) (pa_cons (pe_tup (pa_cons (pv 1) (pa_cons (pv 2) pa_nil))) (pa_cons pe_non pa_nil))))
        (pss_one (ps_if (pt_cmpR op_notN (pv 3) pe_non (nomark _)) (pss_one (ps_ddelT (hu_of hr) (pe_fld (pv 0) rfl) (pv 3))) pss_nil))))
        (pss_one (ps_ddel (pe_fld (pv 0) rfl) (pv 1)))), ?_⟩
    have ok := hN.ok
    have hlow : low ≤ 100000 := ok.low _ (lk_mem hl)
    obtain ⟨⟨dx, h1⟩, ⟨kvs, h2, h3⟩, ⟨ks0, h4, h5⟩, _⟩ := id hN
    have nne : n ≠ e := ne_of h1 h4 (fun z => nomatch z)
    have nre : r ≠ e := ne_of h2 h4 (fun z => nomatch z)
    have hts := hN.noTs
    have e0 : S.partly a 0 = S := by
      unfold NetS.partly
      rw [endsI_zero]
    refine ⟨_, rfl, n, dx, _, rfl, h1, no3 (by decide +kernel), _, rfl, n, r, e, S, a, sym, low, rfl, hN, hl, .inl ⟨_, _, rfl, rfl, _, rfl, by omega, by omega, ?_⟩⟩
    refine for_range (lo := 0) (n := ((low : Int) + 1).toNat) (fun i σ H' => ∃ (v2 v3 : Option V), σ = [some (.ref n), some (.int (a : Int)), v2, v3] ∧ NetAt K C H' n r e (S.partly a i) ∧ Kx [n, r, e] H H') ⟨none, none, rfl, by rw [e0]; exact hN, .refl⟩ ?_ ?_
    · rintro i σ H1 hi ⟨v2, v3, rfl, hN1, k1⟩
      rw [show (0 : Int) + (i : Int) = (i : Int) by omega]
      obtain ⟨⟨dx1, g1⟩, ⟨kvs1, g2, g3⟩, ⟨ks, g4, g5⟩, ok1⟩ := id hN1
      have nne1 : n ≠ e := nne
      refine ⟨_, rfl, n, C, dx1, _, _, rfl, g1, R.cl, R.nE, netF_ends, .inr (.inr (.inl ⟨rfl, .inr ⟨ks, g4⟩⟩)), ?_⟩
      refine ⟨_, rfl, _, rfl, le_line (by show 2 ≤ 16000000; decide), fun q hq => ?_⟩
      have s2 := same_new hq (o := .tup (ptV (a, i)))
      have hN2 := hN1.same s2
      obtain ⟨_, _, ⟨ks2, g42, g52⟩, _⟩ := id hN2
      have hts2 := hN2.noTs
      refine ⟨e, ks2, pk (a, i), q, .non, rfl, rfl, g42, upd_same, fun v hv => ?_, fun hn => ?_⟩
      · -- tied yet
        rcases ends_val g52 (a, i) with ⟨w1, _⟩ | ⟨q', y, w1, w2, w3⟩
        · rw [w1] at hv
          cases hv
        rw [w1] at hv
        cases hv
        have w2 : lk (endsI S a i) (a, i) = some y := w2
        obtain ⟨wb, hy⟩ := endsI_back nd sm w2
        have yne : y ≠ (a, i) := fun z => by
          rw [z] at hy
          exact ir _ hy
        have nd1 : ((endsI S a i).map (·.1)).Nodup := (List.filter_sublist.map _).nodup nd
        have fil : ∀ {H' : Hp} {ks' : List (List Key × V)} {es : List (Pt × Pt)} {u : Pt}, Paired (NEnd H') ks' es → Paired (NEnd H') (dropK ks' (pk u)) (es.filter fun z => decide (z.1 ≠ u)) := fun hp => paired_drop hp fun kv x h => by
          rw [h.1]
          exact decide_eq_decide.mpr ⟨fun h z => h (congrArg pk z), fun h z => h (pk_inj z)⟩
        have p1 := fil (u := (a, i)) g52
        have hy2 : lk ((endsI S a i).filter fun z => decide (z.1 ≠ (a, i))) y = some (a, i) := by
          rw [lk_filter nd1, wb]
          show (if decide (y ≠ (a, i)) = true then some (a, i) else none) = _
          rw [if_pos (decide_eq_true yne)]
        rcases ends_val p1 y with ⟨_, z1⟩ | ⟨q3, y3, z1, _, _⟩
        · have z1 : lk ((endsI S a i).filter fun z => decide (z.1 ≠ (a, i))) y = none := z1
          rw [hy2] at z1
          cases z1
        have k2 : Kx [n, r, e] (upd H1 q (.tup (ptV (a, i)))) (upd (upd H1 q (.tup (ptV (a, i)))) e (.dT (dropK ks2 (pk (a, i))))) := .put (by simp)
        have qe : q' ≠ e := ne_of w3 g42 (fun z => nomatch z)
        have g12 := s2 _ _ g1
        have g22 := s2 _ _ g2
        refine ⟨_, rfl, rfl, _, rfl, iteTx (by rfl) ?_⟩
        refine ⟨_, rfl, n, C, dx1, _, _, rfl, by rw [upd_ne nne]; exact g12, R.cl, R.nE, netF_ends, _, rfl, e, q', _, pk y, _, rfl, rfl, upd_same, by rw [upd_ne qe]; exact w3, z1, ?_⟩
        rw [upd_upd]
        have k3 : Kx [n, r, e] (upd H1 q (.tup (ptV (a, i)))) (upd (upd H1 q (.tup (ptV (a, i)))) e (.dT (dropK (dropK ks2 (pk (a, i))) (pk y)))) := .put (by simp)
        refine ⟨_, _, rfl, ⟨⟨dx1, by rw [upd_ne nne]; exact g12⟩, ⟨kvs1, by rw [upd_ne nre]; exact g22, L2.Paired.mapP (hN2.rw.choose_spec.2 |> fun _ => g3) fun _ _ z => (NRow.kx (L := []) (.of s2) (fun _ h => nomatch h) z).kx k3 hts2⟩, ⟨_, upd_same, ?_⟩, partly_ok ok⟩, (k1.same s2).trans k3⟩
        show Paired _ _ (endsI S a (i + 1))
        rw [← endsI_some nd sm w2]
        exact L2.Paired.mapP (fil (u := y) p1) fun _ _ z => z.kx k3 hts2
      · -- untied
        rcases ends_val g52 (a, i) with ⟨_, w2⟩ | ⟨q', y, w1, _, _⟩
        · have w2 : lk (endsI S a i) (a, i) = none := w2
          refine ⟨_, rfl, rfl, _, rfl, iteFx (by rfl) ⟨_, _, rfl, ?_, k1.same s2⟩⟩
          have ee : S.partly a (i + 1) = S.partly a i := by
            unfold NetS.partly
            rw [endsI_none nd sm w2]
          rw [ee]
          exact hN2
        · rw [w1] at hn
          cases hn
    · rintro σ H1 ⟨v2, v3, rfl, hN1, k1⟩
      obtain ⟨⟨dx1, g1⟩, ⟨kvs1, g2, g3⟩, ⟨ks, g4, g5⟩, ok1⟩ := id hN1
      rcases rows_val g3 a with ⟨_, z2⟩ | ⟨t1, sv, sym', low', z1, z2, _, _⟩
      · have z2 : lk S.rows a = none := z2
        rw [hl] at z2
        cases z2
      have hts1 := hN1.noTs
      have nnr : n ≠ r := ne_of g1 g2 (fun z => nomatch z)
      have ner : e ≠ r := ne_of g4 g2 (fun z => nomatch z)
      refine ⟨_, rfl, n, C, dx1, _, _, rfl, g1, R.cl, R.nR, netF_rows, _, rfl, r, kvs1, ik a, rfl, g2, rfl, by rw [z1]; rfl, ?_⟩
      have k2 : Kx [n, r, e] H1 (upd H1 r (.dK (dropK kvs1 (ik a)))) := .put (by simp)
      refine k _ ⟨⟨dx1, by rw [upd_ne nnr]; exact g1⟩, ⟨_, upd_same, ?_⟩, ⟨ks, by rw [upd_ne ner]; exact g4, ?_⟩, away_ok ok⟩ (k1.trans k2)
      · exact L2.Paired.mapP (paired_drop g3 fun kv x h => by
          rw [h.1]
          exact decide_eq_decide.mpr ⟨fun h z => h (congrArg ik z), fun h z => h (ik_inj z)⟩) fun _ _ z => z.kx k2 hts1
      · have ee : endsI S a ((low : Int) + 1).toNat = S.ends.filter fun x => decide (x.1.1 ≠ a) && decide (x.2.1 ≠ a) := by
          refine endsI_end fun z hz => ?_
          obtain ⟨⟨s1, l1, y1, y2⟩, s3, l3, y3, y4⟩ := ok.ep z hz
          refine ⟨fun q => ?_, fun q => ?_⟩
          · rw [q, hl] at y1
            cases y1
            omega
          · rw [q, hl] at y3
            cases y3
            omega
        show Paired _ _ (S.ends.filter fun x => decide (x.1.1 ≠ a) && decide (x.2.1 ≠ a))
        rw [← ee]
        exact L2.Paired.mapP g5 fun _ _ z => z.kx k2 hts1
end

section
variable {P : Program} {w : World} {K : PySem.W.Frag} {mg : Str → Option Value} {base : Heap} {C : Addr}
theorem ok_mfrom (D : DefAt K mg "move_from" s_move_from ["net", "agent"]) (R : NetC K C) (T : Bl mg) {tN : Addr} (G_NO_MEETERS : GV mg "NO_MEETERS" (.ref tN)) (hT : ∀ H, SqT K H tN [.str "out", .str "def"]) (M_Net_symbol_of : MethOk P w K mg base 4 C "symbol_of" ["self", "agent"] (spSymN K C)) (M_Net_end_of : MethOk P w K mg base 5 C "end_of" ["self", "port"] (spEndN K C)) : CallOk P w K mg base 6 "move_from" ["net", "agent"] (spMoveFrom2 K C) := by
  refine D.ok sc_move_from (fun vs H Q E h => ?_) (fun f cdv A outer s H vs Q E hr h => ?_)
  · obtain ⟨n, r, e, S, a, rfl, _⟩ := h
    rfl
  · obtain ⟨n, r, e, S, a, rfl, hN, hS, hA, k0, k1⟩ := h
    refine ⟨_, (pss_cons (ps_set (i := 2) sc_move_from.nd rfl (Or.inl rfl) (pe_ix ix_tup (pe_methOk M_Net_symbol_of R.cl hr (by omega) (pv 0) (pa_cons (pv 1) pa_nil)) pe_int (fun _ _ => rfl)))
        (pss_cons (ps_if (pt_cmpR op_eq (pv 2) pe_str (nomark _)) (pss_one (ps_ret (pe_tup (pa_cons (pv 1) pa_nil)))) pss_nil)
        (pss_cons (ps_set (i := 3) sc_move_from.nd rfl (Or.inl rfl) (pe_methOk M_Net_end_of R.cl hr (by omega) (pv 0) (pa_cons (pe_tup (pa_cons (pv 1) (pa_cons pe_int pa_nil))) pa_nil)))
        (pss_cons (ps_if (PW.pt (pw_or (pt_cmpR op_eq (pv 2) pe_str (nomark _)) (pw_or (pt_cmpR op_isN (pv 3) pe_non (nomark _)) (pw_or (pt_cmpR op_ne (pe_ix ix_tup (pv 3) pe_int (fun _ _ => rfl)) pe_int (nomark _)) (pw_or1 (pt_cmpR op_lt (pe_ix ix_tup (pv 3) pe_int (fun _ _ => rfl)) (pv 1) (nomark _))))))) (pss_one (ps_ret pe_non)) pss_nil)
        (pss_one (ps_ret (pe_ifExp (pt_cmpR op_in_seq (pe_ix ix_tup (pe_methOk M_Net_symbol_of R.cl hr (by omega) (pv 0) (pa_cons (pe_ix ix_tup (pv 3) pe_int (fun _ _ => rfl)) pa_nil)) pe_int (fun _ _ => rfl)) (pe_gv G_NO_MEETERS rfl) (by rfl)) pe_non (pe_tup (pa_cons (pv 1) (pa_cons (pe_ix ix_tup (pv 3) pe_int (fun _ _ => rfl)) pa_nil)))))))))), ?_⟩
    obtain ⟨dx, h1⟩ := hN.ob
    have ok := hN.ok
    obtain ⟨⟨sym, low⟩, hl⟩ := hA
    obtain ⟨x, ds, rfl, e1⟩ := hS.at hl
    refine ⟨_, rfl, n, dx, _, rfl, h1, no3 (by decide +kernel), _, rfl, n, r, e, S, a, _, low, rfl, hN, hl, fun v hv => ?_⟩
    obtain ⟨t, xs, rfl, hT0, _⟩ := da_first hv
    refine ⟨t, _, 0, _, rfl, rfl, hT0, at_zero, ?_⟩
    have e1 : headOf S a = x := e1
    by_cases c : x = ("def" : Str)
    · refine ⟨_, rfl, rfl, _, rfl, iteTx (decide_eq_true (congrArg V.str c)) ⟨_, rfl, le_line (by show 1 ≤ 16000000; decide), fun q hq => ?_⟩⟩
      refine k1 (mov_def (by rw [e1]; exact c)) q _ ?_ (same_new hq)
      have em : movN S a = [a] := if_pos (by rw [e1]; exact c)
      rw [em]
      exact upd_same
    refine ⟨_, rfl, rfl, _, rfl, iteFx (decide_eq_false (fun z => c (V.str.inj z))) ?_⟩
    have hm : movB S a = (decide (x ≠ ("out" : Str)) && faceB S a (lk S.ends (a, 0))) := by rw [mov_not (by rw [e1]; exact c), e1]
    refine ⟨_, rfl, n, dx, _, rfl, h1, no3 (by decide +kernel), _, rfl, le_line (by show 2 ≤ 16000000; decide), fun q hq => ?_⟩
    have s1 := same_new hq (o := .tup (ptV (a, 0)))
    have non : ∀ {y : Option Pt}, (x = ("out" : Str) ∨ faceB S a (lk S.ends (a, 0)) = false) → Q .non (upd H q (.tup (ptV (a, 0)))) := fun h => by
      refine k0 ?_ _ s1
      rw [hm]
      rcases h with h | h
      · rw [decide_eq_false (fun z => z h), Bool.false_and]
      · rw [h, Bool.and_false]
    refine ⟨n, r, e, q, S, (a, 0), rfl, hN.same s1, upd_same, ⟨_, _, hl, Nat.zero_le _⟩, fun l => ?_, fun y t2 l ht2 => ?_⟩
    · refine ⟨_, rfl, rfl, _, rfl, ?_⟩
      by_cases c2 : x = ("out" : Str)
      · exact iteTx (decide_eq_true (congrArg V.str c2)) (iteTx rfl (non (y := none) (.inl c2)))
      · refine iteFx (decide_eq_false (fun z => c2 (V.str.inj z))) ⟨_, rfl, rfl, _, rfl, iteTx (by rfl) (iteTx rfl (non (y := none) (.inr (by rw [l]; rfl))))⟩
    · obtain ⟨b, pb⟩ := y
      have hpb := end_port ok l
      refine ⟨_, rfl, rfl, _, rfl, ?_⟩
      by_cases c2 : x = ("out" : Str)
      · exact iteTx (decide_eq_true (congrArg V.str c2)) (iteTx rfl (non (y := none) (.inl c2)))
      refine iteFx (decide_eq_false (fun z => c2 (V.str.inj z))) ⟨_, rfl, rfl, _, rfl, iteFx (by rfl) ⟨_, rfl, t2, _, 1, _, rfl, rfl, SqT.of ht2, rfl, rfl, _, rfl, ?_⟩⟩
      by_cases p0 : pb = 0
      · subst p0
        refine iteFx (by rfl) ⟨_, rfl, t2, _, 0, _, rfl, rfl, SqT.of ht2, at_zero, _, rfl, _, _, rfl, rfl, _, rfl, ?_⟩
        by_cases c3 : (b : Int) < (a : Int)
        · rw [decide_eq_true c3]
          exact iteTx rfl (non (y := none) (.inr (by rw [l]; show (decide ((0:Nat) = 0) && decide (a ≤ b) && _ && _) = false; rw [decide_eq_false (show ¬ a ≤ b by omega)]; simp)))
        rw [decide_eq_false c3]
        refine iteFx rfl ?_
        obtain ⟨⟨sym2, low2⟩, hl2⟩ := hpb.agent
        obtain ⟨x2, ds2, rfl, e2⟩ := hS.at hl2
        have hl2 : lk S.rows b = some (.tuple (.str x2 :: ds2), low2) := hl2
        have e2 : headOf S b = x2 := e2
        refine ⟨_, rfl, n, dx, _, rfl, s1 _ _ h1, no3 (by decide +kernel), _, rfl, t2, _, 0, _, rfl, rfl, SqT.of ht2, at_zero, n, r, e, S, b, _, low2, rfl, hN.same s1, hl2, fun v2 hv2 => ?_⟩
        obtain ⟨t3, xs3, rfl, hT3, _⟩ := da_first hv2
        refine ⟨t3, _, 0, _, rfl, rfl, hT3, at_zero, tN, _, rfl, .inr (hT _), rfl, rfl, _, rfl, ?_⟩
        have e3 : inV (.str x2) [V.str "out", V.str "def"] = decide (x2 ∈ [("out" : Str), ("def" : Str)]) := in_strs x2 [("out" : Str), ("def" : Str)]
        rw [e3]
        have ef : faceB S a (lk S.ends (a, 0)) = (decide (x2 ≠ ("out" : Str)) && decide (x2 ≠ ("def" : Str))) := by
          rw [l]
          show (decide ((0:Nat) = 0) && decide (a ≤ b) && decide (headOf S b ≠ _) && decide (headOf S b ≠ _)) = _
          rw [e2, decide_eq_true (show a ≤ b by omega)]
          simp
        by_cases c4 : x2 = ("out" : Str) ∨ x2 = ("def" : Str)
        · have m : x2 ∈ [("out" : Str), ("def" : Str)] := by simpa using c4
          rw [decide_eq_true m]
          refine iteTx rfl (non (y := none) (.inr ?_))
          rw [ef]
          rcases c4 with h | h
          · rw [decide_eq_false (fun z => z h), Bool.false_and]
          · rw [decide_eq_false (p := x2 ≠ ("def" : Str)) (fun z => z h), Bool.and_false]
        · have m : ¬ x2 ∈ [("out" : Str), ("def" : Str)] := by simpa using c4
          rw [decide_eq_false m]
          refine iteFx rfl ⟨_, rfl, _, rfl, t2, _, 0, _, rfl, rfl, SqT.of ht2, at_zero, le_line (by show 2 ≤ 16000000; decide), fun q5 hq5 => ?_⟩
          refine k1 ?_ q5 _ ?_ (s1.trans (same_new hq5))
          rotate_left
          · have em : movN S a = [a, b] := (if_neg (by rw [e1]; exact c)).trans (by rw [l]; rfl)
            rw [em]
            exact upd_same
          rw [hm, ef, decide_eq_true c2, decide_eq_true (p := x2 ≠ ("out" : Str)) (fun z => c4 (.inl z)), decide_eq_true (p := x2 ≠ ("def" : Str)) (fun z => c4 (.inr z))]
          rfl
      · refine iteTx (by show (!decide (V.int (pb : Int) = V.int 0)) = true; rw [decide_eq_false (fun z => p0 (by injection z with z; exact Int.ofNat_inj.mp z))]; rfl) (iteTx rfl (non (y := none) (.inr ?_)))
        rw [l]
        show (decide (pb = 0) && decide (a ≤ b) && _ && _) = false
        rw [decide_eq_false p0]
        simp
theorem ok_moves (D : DefAt K mg "moves" s_moves ["net"]) (R : NetC K C) (T : Bl mg) (M_Net_numbers : MethOk P w K mg base 1 C "numbers" ["self"] (spNumN K C)) (C_move_from : CallOk P w K mg base 6 "move_from" ["net", "agent"] (spMoveFrom2 K C)) : CallOk P w K mg base 7 "moves" ["net"] (spMoves2 K C) := by
  refine D.ok sc_moves (fun vs H Q E h => ?_) (fun f cdv A outer s H vs Q E hr h => ?_)
  · obtain ⟨n, r, e, S, rfl, _⟩ := h
    rfl
  · obtain ⟨n, r, e, S, rfl, hN, hS, k⟩ := h
    refine ⟨_, (pss_cons (ps_setLc (i := 1) (own := [("agent", 2)]) (g := gName 2) (tt := tYes) rfl sc_moves.nd rfl rfl (sw_true rfl rfl rfl (by decide +kernel)) (pi_list (pe_methOk0 M_Net_numbers R.cl hr (by omega) (pv 0))) (blkOk_by (N := sl_moves) (sc := defScope s_moves) (by decide +kernel)) (fun _ _ _ _ _ => pg_name (i := 2) sc_moves.nd rfl (Or.inl rfl)) (fun _ _ _ _ _ => pts_nil) (fun _ _ _ _ _ => (pe_callOk C_move_from hr (by omega) (by rfl) (pa_cons (pv 0) (pa_cons (pv 2) pa_nil)))))
        (pss_one (ps_ret (pe_lc (own := [("move", 3)]) (g := gName 3) rfl sc_moves.nd (pi_list (pv 1)) (blkOk_by (N := sl_moves) (sc := defScope s_moves) (by decide +kernel)) (fun _ _ _ _ _ => pg_name (i := 3) sc_moves.nd rfl (Or.inl rfl)) (fun _ _ _ _ _ => pts_one (pt_cmpR op_notN (pv 3) pe_non (nomark _))) (fun _ _ _ _ _ => (pv 3)))))), ?_⟩
    obtain ⟨dx, h1⟩ := hN.ob
    have ok := hN.ok
    have hlen := ok.len
    refine ⟨_, rfl, n, dx, _, rfl, h1, no3 (by decide +kernel), n, r, e, S, rfl, hN, fun q hq => ⟨q, rfl, ⟨_, SqL.of upd_same⟩, fun D hD => ?_⟩⟩
    have s1 : Same H (upd H q (.lst (S.rows.map fun x => V.int (x.1 : Int)))) := same_new hq
    refine lc_list (K := K) (xs := S.rows.map fun x => V.int (x.1 : Int)) (fun i H' => ∃ us, H' D = some (.lst us) ∧ MvA H' S us ((S.rows.take i).map (·.1)) ∧ Same (upd H q (.lst (S.rows.map fun x => V.int (x.1 : Int)))) H') ⟨[], upd_same, .nil, same_new hD⟩ (fun i H' _ p => ?_) ?_ ?_
    · obtain ⟨_, _, _, p⟩ := p
      exact SqL.of (p _ _ upd_same)
    · rintro i v H5 hx ⟨us, e5, g5, s5⟩
      rw [List.getElem?_map] at hx
      obtain ⟨⟨a0, sym, low⟩, hr0, rfl⟩ := Option.map_eq_some_iff.mp hx
      have hi : i < S.rows.length := (List.getElem?_eq_some_iff.mp hr0).1
      have hl : lk S.rows a0 = some (sym, low) := ok.at (List.mem_of_getElem? hr0)
      have lus : us.length ≤ i := by
        rw [AP.length g5, List.length_map, List.length_take]
        exact Nat.min_le_left _ _
      have nx : (S.rows.take (i + 1)).map (·.1) = (S.rows.take i).map (·.1) ++ [a0] := by
        rw [List.take_add_one, hr0, List.map_append]
        rfl
      refine ⟨rfl, ?_⟩
      simp only [tYes, if_true]
      refine ⟨_, rfl, _, rfl, n, r, e, S, a0, rfl, (hN.same s1).same s5, hS, ⟨_, hl⟩, fun hm H' s6 => ?_, fun hm t H' ht s6 => ?_⟩
      · have e6 := s6 _ _ e5
        refine ⟨us, e6, lt_line (by omega), _, upd_same, ?_, Same.mut (s5.trans s6) hD⟩
        rw [nx]
        exact ap_snoc ((g5.same s6).put e6) (.inl ⟨hm, rfl⟩)
      · have e6 := s6 _ _ e5
        refine ⟨us, e6, lt_line (by omega), _, upd_same, ?_, Same.mut (s5.trans s6) hD⟩
        rw [nx]
        exact ap_snoc ((g5.same s6).put e6) (.inr ⟨hm, t, rfl, by rw [upd_ne (ne_of ht e6 (fun z => nomatch z))]; exact ht⟩)
    rintro H5 ⟨us, e5, g5, s5⟩
    rw [List.length_map, List.take_length] at g5
    have lus : us.length ≤ 100000 := by
      rw [AP.length g5, List.length_map]
      exact hlen
    have hq5 : H q = none := hq
    refine ⟨_, rfl, D, rfl, ⟨_, SqL.of e5⟩, fun D2 hD2 => ?_⟩
    refine lc_list (K := K) (xs := us) (fun i H' => H' D2 = some (.lst ((us.take i).filter fun v => !decide (v = V.non))) ∧ Same H5 H') ⟨upd_same, same_new hD2⟩ (fun i H' _ p => SqL.of (p.2 _ _ e5)) ?_ ?_
    · rintro i v H6 hx ⟨e6, s6⟩
      have hi : i < us.length := (List.getElem?_eq_some_iff.mp hx).1
      refine ⟨rfl, ?_⟩
      refine ⟨_, rfl, rfl, _, rfl, ?_⟩
      by_cases c : v = V.non
      · refine iteFx (by rw [decide_eq_true c]; rfl) ⟨?_, s6⟩
        rw [List.take_add_one, hx, List.filter_append]
        simpa [List.filter_cons, c] using e6
      · refine iteTx (by rw [decide_eq_false c]; rfl) ⟨_, rfl, _, e6, ?_, ?_, Same.mut s6 hD2⟩
        · exact lt_line (by have := List.length_filter_le (fun v => !decide (v = V.non)) (us.take i); rw [List.length_take] at this; omega)
        · rw [upd_same, List.take_add_one, hx, List.filter_append]
          simp [List.filter_cons, c]
    rintro H6 ⟨e6, s6⟩
    rw [List.take_length] at e6
    have all := (s1.trans s5).trans s6
    exact k D2 _ H6 e6 ((s1.trans s5).free hD2) (mva_filter (g5.same s6)) all
end

section
variable {P : Program} {w : World} {K : PySem.W.Frag} {mg : Str → Option Value} {base : Heap} {C : Addr}
theorem ok_esym (D : DefAt K mg "_law_e_symbol" s_law_e_symbol ["_law_pen"]) (T : Bl mg) (C_law_e_take : CallOk P w K mg base 2 "_law_e_take" ["_law_pen", "_law_many"] spTakeE) : CallOk P w K mg base 3 "_law_e_symbol" ["_law_pen"] (spESymK K) := by
  refine D.ok sc_law_e_symbol (fun vs H Q E h => ?_) (fun f cdv A outer s H vs Q E hr h => ?_)
  · obtain ⟨p, c, z, rfl, _⟩ := h
    rfl
  · obtain ⟨p, c', z, rfl, hP, hz, k⟩ := h
    refine ⟨_, (pss_cons (ps_set (i := 1) sc_law_e_symbol.nd rfl (Or.inl rfl) (pe_lst (pa_cons (pe_tup (pa_cons pe_str (pa_cons pe_str pa_nil))) (pa_cons (pe_tup (pa_cons pe_str (pa_cons pe_str pa_nil))) (pa_cons (pe_tup (pa_cons pe_str (pa_cons pe_str (pa_cons pe_str pa_nil)))) (pa_cons (pe_tup (pa_cons pe_str (pa_cons pe_str (pa_cons pe_str pa_nil)))) (pa_cons (pe_tup (pa_cons pe_str (pa_cons pe_str pa_nil))) (pa_cons (pe_tup (pa_cons pe_str (pa_cons pe_str pa_nil))) (pa_cons (pe_tup (pa_cons pe_str pa_nil)) pa_nil)))))))))
        (pss_one (ps_ret (pe_ix ix_list (pv 1) (pe_callOk C_law_e_take hr (by omega) (by rfl) (pa_cons (pv 0) (pa_cons pe_int pa_nil))) (fun _ _ => rfl))))), ?_⟩
    refine ⟨le_line (by show 2 ≤ 16000000; decide), fun q1 h1' => ?_⟩
    have a1 := lit_step (K := K) (vs := []) (es := []) .nil (ds := [.str "out", .str "n"]) (.cons (.str _) (.cons (.str _) .nil)) h1'
    have t1 := Same.trans (Same.refl H) (same_new h1' (o := .tup [.str "out", .str "n"]))
    refine ⟨le_line (by show 2 ≤ 16000000; decide), fun q2 h2' => ?_⟩
    have a2 := lit_step a1 (ds := [.str "def", .str "f"]) (.cons (.str _) (.cons (.str _) .nil)) h2'
    have t2 := t1.trans (same_new h2' (o := .tup [.str "def", .str "f"]))
    refine ⟨le_line (by show 3 ≤ 16000000; decide), fun q3 h3' => ?_⟩
    have a3 := lit_step a2 (ds := [.str "fun", .str "n", .str "n"]) (.cons (.str _) (.cons (.str _) (.cons (.str _) .nil))) h3'
    have t3 := t2.trans (same_new h3' (o := .tup [.str "fun", .str "n", .str "n"]))
    refine ⟨le_line (by show 3 ≤ 16000000; decide), fun q4 h4' => ?_⟩
    have a4 := lit_step a3 (ds := [.str "call", .str "n", .str "n"]) (.cons (.str _) (.cons (.str _) (.cons (.str _) .nil))) h4'
    have t4 := t3.trans (same_new h4' (o := .tup [.str "call", .str "n", .str "n"]))
    refine ⟨le_line (by show 2 ≤ 16000000; decide), fun q5 h5' => ?_⟩
    have a5 := lit_step a4 (ds := [.str "make", .str "s"]) (.cons (.str _) (.cons (.str _) .nil)) h5'
    have t5 := t4.trans (same_new h5' (o := .tup [.str "make", .str "s"]))
    refine ⟨le_line (by show 2 ≤ 16000000; decide), fun q6 h6' => ?_⟩
    have a6 := lit_step a5 (ds := [.str "copy", .str "n"]) (.cons (.str _) (.cons (.str _) .nil)) h6'
    have t6 := t5.trans (same_new h6' (o := .tup [.str "copy", .str "n"]))
    refine ⟨le_line (by show 1 ≤ 16000000; decide), fun q7 h7' => ?_⟩
    have a7 := lit_step a6 (ds := [.str "x"]) (.cons (.str _) .nil) h7'
    have t7 := t6.trans (same_new h7' (o := .tup [.str "x"]))
    refine ⟨le_line (by show 7 ≤ 16000000; decide), fun L nL => ?_⟩
    have e1 := same_new nL (o := .lst [.ref q1, .ref q2, .ref q3, .ref q4, .ref q5, .ref q6, .ref q7])
    have tAll := t7.trans e1
    have a9 := a7.same e1
    have nL' : H L = none := t7.free nL
    have hPA := hP.same tAll
    have lp : L ≠ p := by
      obtain ⟨⟨i, q⟩, _⟩ := hP
      exact (ne_of_none q nL').symm
    refine ⟨_, rfl, _, rfl, p, c', z, 7, rfl, hPA, by omega, by decide, by decide, fun j z1 HB j0 j1 hPB hz1 kB => ?_⟩
    obtain ⟨jn, rfl⟩ : ∃ m : Nat, j = (m : Int) := ⟨j.toNat, by omega⟩
    have hLB := kB L _ upd_same lp
    have nts : NoTs _ [p] := fun a ha => by rw [List.mem_singleton.mp ha]; exact hPA.noTup
    have aB : DaAll K All HB [.ref q1, .ref q2, .ref q3, .ref q4, .ref q5, .ref q6, .ref q7] symsK := DaAll.kx (.kp kB (List.mem_singleton.mpr rfl)) nts a9
    have kAB : Kp p H HB := fun b o hb ne => kB b o (tAll b o hb) ne
    clear hPA a1 a2 a3 a4 a5 a6 a7 a9 kB nts tAll t1 t2 t3 t4 t5 t6 t7 e1
    generalize ([.ref q1, .ref q2, .ref q3, .ref q4, .ref q5, .ref q6, .ref q7] : List V) = ws at hLB aB
    have hd : symsK[jn]? = some (symsK[jn]'(by show jn < 7; omega)) := List.getElem?_eq_getElem _
    obtain ⟨v, hv, hda⟩ := aB.at hd
    have hmem := List.mem_of_getElem? hd
    obtain ⟨s, ds, hsd, _⟩ := symsK_ok _ hmem
    generalize symsK[jn]'(by show jn < 7; omega) = d at hd hda hsd hmem
    subst hsd
    obtain ⟨t, xs, rfl, _⟩ := hda.tupInv
    exact ⟨L, _, _, _, rfl, rfl, SqL.of hLB, at_natI hv, k t _ z1 HB hmem hda hPB hz1 kAB⟩
theorem ok_eput (D : DefAt K mg "_law_e_put" s_law_e_put ["_law_pen", "_law_net", "_law_model"]) (R : NetC K C) (T : Bl mg) (C_law_e_symbol : CallOk P w K mg base 3 "_law_e_symbol" ["_law_pen"] (spESymK K)) (C_law_e_take : CallOk P w K mg base 2 "_law_e_take" ["_law_pen", "_law_many"] spTakeE) (M_Net_put_d2 : MethD P w K mg base 2 C "put" ["self", "symbol", "lower", "at"] [.non] (spPutN K C)) : CallOk P w K mg base 4 "_law_e_put" ["_law_pen", "_law_net", "_law_model"] (spEPutK K C) := by
  refine D.ok sc_law_e_put (fun vs H Q E h => ?_) (fun f cdv A outer s H vs Q E hr h => ?_)
  · obtain ⟨p, c, n, r, e, m, A, E0, S, z, rfl, _⟩ := h
    rfl
  · obtain ⟨p, c, n, r, e, m, M, E0, S, z, rfl, hP, hz, hM, hK, hnx, k⟩ := h
    refine ⟨_, (pss_cons (ps_par (i := 3) (j := 4) (by rfl) sc_law_e_put.nd rfl rfl (by decide) rfl rfl (pa_cons (pe_callOk C_law_e_symbol hr (by omega) (by rfl) (pa_cons (pv 0) pa_nil)) (pa_cons (pe_callOk C_law_e_take hr (by omega) (by rfl) (pa_cons (pv 0) (pa_cons pe_int pa_nil))) pa_nil)) (by rfl))
        (pss_one (ps_dput (hu_of hr) (pe_dget (hu_of hr) (pv 2) pe_str (fun _ _ => rfl)) (pe_methD M_Net_put_d2 R.cl hr (by omega) (pv 1) (pa_cons (pv 3) (pa_cons (pv 4) pa_nil))) (pe_tup (pa_cons (pv 3) (pa_cons (pv 4) pa_nil))) rfl))), ?_⟩
    refine ⟨_, rfl, p, c, z, rfl, hP, by omega, fun t sym z1 H1 hsy hd hP1 hz1 k1 => ?_⟩
    have hM1 := hM.pen hP k1
    refine ⟨_, rfl, p, c, z1, 4, rfl, hP1, by omega, by decide, by decide, fun lw z2 H2 l0 l1 hP2 hz2 k2 => ?_⟩
    obtain ⟨low, rfl⟩ : ∃ m : Nat, lw = (m : Int) := ⟨lw.toNat, by omega⟩
    have hM2 := hM1.pen hP1 k2
    have nt : NoTs H1 [p] := fun a ha => by rw [List.mem_singleton.mp ha]; exact hP1.noTup
    have hd2 : Da K All H2 (.ref t) sym := Da.kx (.kp k2 (List.mem_singleton.mpr rfl)) nt hd
    refine ⟨_, _, rfl, ?_⟩
    refine ⟨_, rfl, _, rfl, le_line (by show 2 ≤ 16000000; decide), fun q hq => ?_⟩
    have s3 := same_new hq (o := .tup [.ref t, .int (low : Int)])
    have hM3 := hM2.same s3
    have hP3 := hP2.same s3
    have hd3 := hd2.same s3
    refine ⟨_, rfl, m, _, rfl, hM3.gA, ?_⟩
    obtain ⟨dx, g1⟩ := hM3.N.ob
    have hro := hK.ro
    refine ⟨_, rfl, n, dx, _, rfl, g1, no3 (by decide +kernel), _, rfl, _, rfl, n, r, e, S, _, sym, low, rfl, hM3.N, hd3, by omega, by omega, by omega, fun H4 hN4 k4 => ?_⟩
    have nt3 := hM3.N.noTs
    obtain ⟨hm4, ⟨kvs, ga, gp⟩, ⟨ks, ge, gq⟩⟩ := hM3.half k4
    have q4 := tup_kx k4 nt3 (upd_same (H := H2) (a := q) (o := .tup [.ref t, .int (low : Int)]))
    have d4 := hd3.kx k4 nt3
    have lk' : kvs.length = S.rows.length := Paired.length gp
    have new : valV kvs (ik S.next) = none := by
      rcases rows_val gp S.next with ⟨w1, _⟩ | ⟨_, _, _, _, _, w2, _⟩
      · exact w1
      · rw [hM3.N.ok.new] at w2
        cases w2
    refine ⟨M, _, rfl, DPut.k (k := ik S.next) ga (lt_line (by omega)), ?_⟩
    rw [putK_new _ new]
    have k5 : Kx [M] H4 (upd H4 M (.dK (kvs ++ [(ik S.next, .ref q)]))) := .put (List.mem_singleton.mpr rfl)
    have nt4 : NoTs H4 [M] := fun b hb => by rw [List.mem_singleton.mp hb]; exact noTup_of ga (fun _ z => nomatch z) (fun _ _ z => nomatch z)
    obtain ⟨o1, o2, o3⟩ := hM3.outN
    simp only [List.mem_cons, List.not_mem_nil, or_false, not_or] at o1 o2 o3
    refine k sym low z2 _ hsy (by omega) ?_ (by omega) ⟨hN4.kx k5 nt4 (fun z => o2.1 (List.mem_singleton.mp z).symm) (fun z => o2.2.1 (List.mem_singleton.mp z).symm) (fun z => o2.2.2 (List.mem_singleton.mp z).symm), ?_, ⟨_, upd_same, ?_⟩, ⟨ks, ?_, ?_⟩, hM3.rA, hM3.rm, hM3.eE, hM3.mA⟩
    · have hP4 := hP3.net hM3.N k4
      obtain ⟨⟨i, w1⟩, cs, w2, wl⟩ := hP4
      exact ⟨⟨i, by rw [upd_ne (ne_of w1 ga (fun z => nomatch z))]; exact w1⟩, cs, by rw [upd_ne (ne_of w2 ga (fun z => nomatch z))]; exact w2, wl⟩
    · rw [upd_ne hM3.mA]
      exact hm4
    · refine pd_app (L2.Paired.mapP gp fun _ _ z => z.kx k5 nt4) (.cons ⟨rfl, q, .ref t, rfl, sqT_kx k5 nt4 (SqT.of q4), d4.kx k5 nt4⟩ .nil)
    · rw [upd_ne (ne_of ge ga (fun z => nomatch z))]
      exact ge
    · exact L2.Paired.mapP gq fun _ _ z => z.kx k5 nt4
end

section
variable {P : Program} {w : World} {K : PySem.W.Frag} {mg : Str → Option Value} {base : Heap} {C : Addr}
theorem ok_efree (D : DefAt K mg "_law_e_free" s_law_e_free ["_law_model", "_law_heads"]) (T : Bl mg) : CallOk P w K mg base 1 "_law_e_free" ["_law_model", "_law_heads"] (spEFreeK K C) := by
  refine D.ok sc_law_e_free (fun vs H Q E h => ?_) (fun f cdv A outer s H vs Q E hr h => ?_)
  · obtain ⟨n, r, e, m, A, E0, S, b, rfl, _⟩ := h
    rfl
  · obtain ⟨n, r, e, m, M, E0, S, b, rfl, hM, hK, hnx, k⟩ := h
    refine ⟨_, (pss_cons (ps_set (i := 2) sc_law_e_free.nd rfl (Or.inl rfl) (pe_lst pa_nil))
        (pss_cons (ps_for PassesOwn.never rfl (pi_list (pe_callB (call_sortedDI rfl) (by rfl) T.sorted_ (by decide +kernel) (pa_cons (pe_dget (hu_of hr) (pv 0) pe_str (fun _ _ => rfl)) pa_nil))) (pg_name (i := 3) sc_law_e_free.nd rfl (Or.inl rfl) (by first | exact .inl rfl | exact .inr rfl)) (pss_one (ps_for PassesOwn.never rfl (pi_range1 (by rfl) T.range_ (pa_cons (pe_op opAdd pe_int (pe_op op_mul (pe_ix ix_tup (pe_dget (hu_of hr) (pe_dget (hu_of hr) (pv 0) pe_str (fun _ _ => rfl)) (pv 3) (fun _ _ => rfl)) pe_int (fun _ _ => rfl)) (pe_callTy call_int1 (by rfl) T.int_ (by decide +kernel) (pa_cons (pe_not (pv 1)) pa_nil)))) pa_nil)) (pg_name (i := 4) sc_law_e_free.nd rfl (Or.inl rfl) (by first | exact .inl rfl | exact .inr rfl)) (pss_one (ps_if (pt_cmp (pc_dnotin (hu_of hr) (pe_tup (pa_cons (pv 3) (pa_cons (pv 4) pa_nil))) (pe_dget (hu_of hr) (pv 0) pe_str (fun _ _ => rfl)))) (pss_one (ps_expr (pe_bm PySem.F.plainAttrs_list PySem.F.slot_list_append PySem.F.type_list_append mt_append (pv 2) (pa_cons (pe_tup (pa_cons (pv 3) (pa_cons (pv 4) pa_nil))) pa_nil)))) pss_nil)))))
        (pss_one (ps_ret (pv 2))))), ?_⟩
    have hfew := hK.few hnx
    have ok := hM.N.ok
    refine ⟨Nat.zero_le _, fun L nL => ?_⟩
    have s1 := same_new nL (o := .lst [])
    have hM1 := hM.same s1
    obtain ⟨kvs, ga, gp⟩ := hM1.ag
    refine ⟨_, rfl, m, _, rfl, hM1.gA, M, kvs, _, rfl, .inl ga, rows_keys gp, by rw [List.length_map]; omega, fun ys q perm sorted hq => ⟨q, rfl, ⟨_, SqL.of upd_same⟩, ?_⟩⟩
    rw [nums_sorted ok perm sorted]
    clear sorted perm
    have s2 := same_new hq (o := .lst ((S.rows.map fun x => (x.1 : Int)).map V.int))
    have eL : upd (upd H L (.lst [])) q (.lst ((S.rows.map fun x => (x.1 : Int)).map V.int)) L = some (.lst []) := s2 _ _ upd_same
    refine for_list (xs := (S.rows.map fun x => (x.1 : Int)).map V.int) (fun i σ H' => ∃ (us : List V) (xs : List Pt) (v3 v4 : Option V), σ = [some (.ref m), some (.bl b), some (.ref L), v3, v4] ∧ H' L = some (.lst us) ∧ Pts H' S us xs ∧ us.length ≤ 4 * i ∧ Same H H' ∧ H' q = some (.lst ((S.rows.map fun x => (x.1 : Int)).map V.int)))
      ⟨[], [], none, none, rfl, eL, .nil, Nat.zero_le _, s1.trans s2, upd_same⟩ (fun i σ H' _ p => ?_) ?_ ?_
    · obtain ⟨_, _, _, _, _, _, _, _, _, p⟩ := p
      exact SqL.of p
    · rintro i v σ H2 hx ⟨us, xs, v3, v4, rfl, g1, p1, l1, sH, gq⟩
      rw [List.getElem?_map, List.getElem?_map] at hx
      obtain ⟨_, hx2, rfl⟩ := Option.map_eq_some_iff.mp hx
      obtain ⟨⟨a, sym, low⟩, hr0, rfl⟩ := Option.map_eq_some_iff.mp hx2
      have hi : i < S.rows.length := (List.getElem?_eq_some_iff.mp hr0).1
      have hla : lk S.rows a = some (sym, low) := ok.at (List.mem_of_getElem? hr0)
      have hlo := hK.lo _ (List.mem_of_getElem? hr0)
      have hlo : low ≤ 3 := hlo
      have hM2 := hM.same sH
      obtain ⟨t, sv, hg, hT, _⟩ := hM2.row hla
      have hcnt : (1 + (low : Int) * (if (!b) = true then 1 else 0)).toNat ≤ low + 1 ∧ -(2 ^ 62) ≤ 1 + (low : Int) * (if (!b) = true then 1 else 0) ∧ 1 + (low : Int) * (if (!b) = true then 1 else 0) < 2 ^ 62 := by
        cases b
        · simp only [Bool.not_false, if_true, Int.mul_one]
          omega
        · simp only [Bool.not_true, Bool.false_eq_true, if_false, Int.mul_zero]
          omega
      refine ⟨_, rfl, m, _, rfl, hM2.gA, _, rfl, M, _, rfl, hg, t, _, 1, _, rfl, rfl, hT, rfl, _, rfl, b, rfl, .inr ⟨_, rfl, _, _, rfl, rfl, .inl ⟨by omega, by omega⟩, .inl ⟨_, _, rfl, rfl, _, rfl, hcnt.2.1, hcnt.2.2, ?_⟩⟩⟩
      refine for_range (lo := 0) (fun j σ H' => ∃ (us : List V) (xs : List Pt) (v4 : Option V), σ = [some (.ref m), some (.bl b), some (.ref L), some (.int (a : Int)), v4] ∧ H' L = some (.lst us) ∧ Pts H' S us xs ∧ us.length ≤ 4 * i + j ∧ Same H H' ∧ H' q = some (.lst ((S.rows.map fun x => (x.1 : Int)).map V.int)))
        ⟨us, xs, v4, rfl, g1, p1, l1, sH, gq⟩ ?_ ?_
      · rintro j σ H3 hj ⟨us, xs, v4, rfl, g1, p1, l1, sH, gq⟩
        have hp : S.port (a, j) := ⟨sym, low, hla, by show j ≤ low; omega⟩
        rw [show (0 : Int) + (j : Int) = (j : Int) by omega]
        have hM3 := hM.same sH
        refine ⟨_, rfl, _, rfl, le_line (by show 2 ≤ 16000000; decide), fun t ht => ?_⟩
        have s4 := same_new ht (o := .tup (ptV (a, j)))
        have hM4 := hM3.same s4
        refine ⟨_, rfl, m, _, rfl, hM4.gE, ?_⟩
        have f1 := s4 _ _ g1
        rcases hM4.fin (x := (a, j)) upd_same with ⟨z1, z2⟩ | ⟨t2, y, z1, _, z2⟩
        · refine ⟨E0, _, rfl, z2, _, rfl, iteTx rfl ?_⟩
          refine ⟨_, rfl, .inl ⟨rfl, _, SqL.of f1⟩, _, rfl, _, rfl, le_line (by show 2 ≤ 16000000; decide), fun t5 ht5 => ?_⟩
          have s5 := same_new ht5 (o := .tup (ptV (a, j)))
          have f1 := s5 _ _ f1
          refine ⟨L, _, _, rfl, rfl, f1, lt_line (by omega), ?_⟩
          have p1' : Pts _ S (us ++ [.ref t5]) (xs ++ [(a, j)]) := Pts.snoc ((p1.same s4).same s5) upd_same hp z1
          have qL : L ≠ q := ne_of_none (same_new nL (o := .lst []) |> fun _ => (upd_same : upd H L (.lst []) L = _)) hq
          refine ⟨_, _, _, rfl, upd_same, p1'.put f1, ?_, Same.mut (sH.trans (s4.trans s5)) nL, ?_⟩
          · rw [List.length_append, List.length_singleton]
            omega
          · rw [upd_ne qL.symm]
            exact s5 _ _ (s4 _ _ gq)
        · refine ⟨E0, _, rfl, z2, _, rfl, iteFx rfl ?_⟩
          exact ⟨us, xs, _, rfl, f1, p1.same s4, by omega, sH.trans s4, s4 _ _ gq⟩
      · rintro σ H3 ⟨us, xs, v4, rfl, g1, p1, l1, sH, gq⟩
        have := hcnt.1
        exact ⟨us, xs, _, _, rfl, g1, p1, by omega, sH, gq⟩
    · rintro σ H2 ⟨us, xs, v3, v4, rfl, g1, p1, l1, sH, gq⟩
      rw [List.length_map, List.length_map] at l1
      exact ⟨_, rfl, k L us xs H2 g1 p1 (by omega) sH nL⟩
theorem ok_etie (D : DefAt K mg "_law_e_tie" s_law_e_tie ["_law_pen", "_law_net", "_law_model"]) (R : NetC K C) (T : Bl mg) (C_law_e_take : CallOk P w K mg base 2 "_law_e_take" ["_law_pen", "_law_many"] spTakeE) (C_law_e_free : CallOk P w K mg base 1 "_law_e_free" ["_law_model", "_law_heads"] (spEFreeK K C)) (M_Net_tie : MethOk P w K mg base 5 C "tie" ["self", "port", "other"] (spTieN K C)) : CallOk P w K mg base 6 "_law_e_tie" ["_law_pen", "_law_net", "_law_model"] (spETieK K C) := by
  refine D.ok sc_law_e_tie (fun vs H Q E h => ?_) (fun f cdv A outer s H vs Q E hr h => ?_)
  · obtain ⟨p, c, n, r, e, m, A, E0, S, z, rfl, _⟩ := h
    rfl
  · obtain ⟨p, c, n, r, e, m, M, E0, S, z, rfl, hP, hz, hM, hK, hnx, hel, k⟩ := h
    refine ⟨_, (pss_cons (ps_set (i := 3) sc_law_e_tie.nd rfl (Or.inl rfl) (pe_callOk C_law_e_free hr (by omega) (by rfl) (pa_cons (pv 2) (pa_cons (pe_cmpR op_eq (pe_callOk C_law_e_take hr (by omega) (by rfl) (pa_cons (pv 0) (pa_cons pe_int pa_nil))) pe_int (nomark _)) pa_nil))))
        (pss_cons (ps_set (i := 4) sc_law_e_tie.nd rfl (Or.inl rfl) (pe_callOk C_law_e_free hr (by omega) (by rfl) (pa_cons (pv 2) (pa_cons (pe_cmpR op_eq (pe_callOk C_law_e_take hr (by omega) (by rfl) (pa_cons (pv 0) (pa_cons pe_int pa_nil))) pe_int (nomark _)) pa_nil))))
        (pss_one (ps_if (pt_cmpR (op_neD hr.units) (pv 3) (pe_lst pa_nil) (nomark _)) (pss_cons (ps_set (i := 5) sc_law_e_tie.nd rfl (Or.inr rfl) (pe_ix ix_list (pv 3) (pe_callOk C_law_e_take hr (by omega) (by rfl) (pa_cons (pv 0) (pa_cons (pe_callB call_len_seq (by rfl) T.len_ (by decide +kernel) (pa_cons (pv 3) pa_nil)) pa_nil))) (fun _ _ => rfl)))
        (pss_cons (ps_setLc (i := 4) (own := [("_law_end", 6)]) (g := gName 6) rfl sc_law_e_tie.nd rfl rfl (sw_true rfl rfl rfl (by decide +kernel)) (pi_list (pv 4)) (blkOk_by (N := sl_law_e_tie) (sc := defScope s_law_e_tie) (by decide +kernel)) (fun _ _ _ _ _ => pg_name (i := 6) sc_law_e_tie.nd rfl (Or.inl rfl)) (fun _ _ _ _ _ => pts_one (pt_cmpR (op_neDK (K := K) rfl hr.units) (pv 6) (pv 5) (nomark _))) (fun _ _ _ _ _ => (pv 6)))
        (pss_one (ps_if (pt_cmpR (op_neD hr.units) (pv 4) (pe_lst pa_nil) (nomark _)) (pss_cons (ps_set (i := 6) sc_law_e_tie.nd rfl (Or.inl rfl) (pe_ix ix_list (pv 4) (pe_callOk C_law_e_take hr (by omega) (by rfl) (pa_cons (pv 0) (pa_cons (pe_callB call_len_seq (by rfl) T.len_ (by decide +kernel) (pa_cons (pv 4) pa_nil)) pa_nil))) (fun _ _ => rfl)))
        (pss_cons (ps_expr (pe_methOk M_Net_tie R.cl hr (by omega) (pv 1) (pa_cons (pv 5) (pa_cons (pv 6) pa_nil))))
        (pss_one (ps_expr (pe_bm PySem.F.plainAttrs_dict PySem.F.slot_dict_update PySem.F.type_dict_update (mt_updateT (hu_of hr)) (pe_dget (hu_of hr) (pv 2) pe_str (fun _ _ => rfl)) (pa_cons (pe_dispA (.inr rfl) (hu0_of hr) (pps_cons (pv 5) (pv 6) (pps_cons (pv 6) (pv 5) pps_nil)) (by rfl) (by rfl) (fun z => by cases z) (by decide)) pa_nil)))))) pss_nil)))) pss_nil)))), ?_⟩
    -- the first list
    refine ⟨_, rfl, _, rfl, p, c, z, 2, rfl, hP, by omega, by decide, by decide, fun b1 z1 H1 _ _ hP1 hz1 k1 => ?_⟩
    have hM1 := hM.pen hP k1
    refine ⟨rfl, n, r, e, m, M, E0, S, _, rfl, hM1, hK, hnx, fun La us1 xs1 H2 e1 p1 l1 s2 n1 => ?_⟩
    have hM2 := hM1.same s2
    have hP2 := hP1.same s2
    have lp1 : La ≠ p := by
      obtain ⟨⟨i, q⟩, _⟩ := hP1
      exact (ne_of_none q n1).symm
    refine ⟨_, rfl, _, rfl, p, c, z1, 2, rfl, hP2, by omega, by decide, by decide, fun b2 z2 H3 _ _ hP3 hz2 k3 => ?_⟩
    have hM3 := hM2.pen hP2 k3
    have nt2 : NoTs H2 [p] := fun a ha => by rw [List.mem_singleton.mp ha]; exact hP2.noTup
    have e1 := k3 _ _ e1 lp1
    have p1 := p1.kx (.kp k3 (List.mem_singleton.mpr rfl)) nt2
    refine ⟨rfl, n, r, e, m, M, E0, S, _, rfl, hM3, hK, hnx, fun Lb us2 xs2 H4 e2 p2 l2 s4 n2 => ?_⟩
    have hM4 := hM3.same s4
    have hP4 := hP3.same s4
    have e1 := s4 _ _ e1
    have p1 := p1.same s4
    have lp2 : Lb ≠ p := by
      obtain ⟨⟨i, q⟩, _⟩ := hP3
      exact (ne_of_none q n2).symm
    clear hM1 hM2 hM3 hP1 hP2 hP3 nt2
    refine ⟨_, rfl, Nat.zero_le _, fun q hq => ?_⟩
    have s5 := same_new hq (o := .lst [])
    refine ⟨_, _, (p1.same s5).dp (s5 _ _ e1), .lst (SqL.of upd_same) .nil, shaped_pts _, shaped_nil, _, rfl, ?_⟩
    rw [pts_eqv_nil]
    by_cases y1 : xs1 = []
    · rw [decide_eq_true y1]
      exact iteFx rfl (k S z2 _ (hP4.same s5) (by omega) (hM4.same s5) hK rfl (by omega))
    rw [decide_eq_false y1]
    refine iteTx rfl ?_
    have w1 : 0 < us1.length := by
      rw [AP.length p1]
      exact List.length_pos_iff.mpr y1
    have hP5 := hP4.same s5
    have hM5 := hM4.same s5
    have e1 := s5 _ _ e1
    have p1 := p1.same s5
    have e2 := s5 _ _ e2
    have p2 := p2.same s5
    refine ⟨_, rfl, _, rfl, _, rfl, La, us1, rfl, .inl (SqL.of e1), p, c, z2, _, rfl, hP5, by omega, by omega, by omega, fun j z3 H6 j0 j1 hP6 hz3 k6 => ?_⟩
    obtain ⟨i1, rfl⟩ : ∃ m : Nat, j = (m : Int) := ⟨j.toNat, by omega⟩
    have nt5 : NoTs _ [p] := fun a ha => by rw [List.mem_singleton.mp ha]; exact hP5.noTup
    have kx6 : Kx [p] _ H6 := .kp k6 (List.mem_singleton.mpr rfl)
    have p1 := p1.kx kx6 nt5
    have p2 := p2.kx kx6 nt5
    have e1 := k6 _ _ e1 lp1
    have e2 := k6 _ _ e2 lp2
    have hM6 := hM5.pen hP5 k6
    obtain ⟨q1, x, hv1, hq1, hx, lx⟩ := p1.at (i := i1) (by omega)
    refine ⟨La, _, _, _, rfl, rfl, SqL.of e1, at_natI hv1, ?_⟩
    -- the others
    refine ⟨_, rfl, Lb, rfl, ⟨_, SqL.of e2⟩, fun D3 hD3 => ?_⟩
    refine lc_list (K := K) (xs := us2) (fun i H' => ∃ (us : List V) (xs : List Pt), H' D3 = some (.lst us) ∧ Pts H' S us xs ∧ (∀ y ∈ xs, y ≠ x) ∧ us.length ≤ i ∧ Same H6 H') ⟨[], [], upd_same, .nil, fun y h => (nomatch h), Nat.zero_le _, same_new hD3⟩ (fun i H' _ p => ?_) ?_ ?_
    · obtain ⟨_, _, _, _, _, _, p⟩ := p
      exact SqL.of (p _ _ e2)
    · rintro i v H7 hxv ⟨us, xs, g1, g2, g3, g4, g5⟩
      have hi : i < us2.length := (List.getElem?_eq_some_iff.mp hxv).1
      obtain ⟨q2, y, hv2, hq2, hy, ly⟩ := p2.at hi
      obtain rfl := Option.some.inj (hxv.symm.trans hv2)
      have hq2 := g5 _ _ hq2
      refine ⟨rfl, ?_⟩
      refine ⟨_, rfl, _, rfl, ptD y, ptD x, pt_dp hq2, pt_dp (g5 _ _ hq1), pt_shaped y, pt_shaped x, _, rfl, ?_⟩
      rw [pt_eqv]
      by_cases xy : y = x
      · rw [decide_eq_true xy]
        exact iteFx rfl ⟨us, xs, g1, g2, g3, by omega, g5⟩
      · rw [decide_eq_false xy]
        refine iteTx rfl ⟨_, rfl, us, g1, lt_line (by omega), us ++ [.ref q2], xs ++ [y], upd_same, (g2.snoc hq2 hy ly).put g1, fun y' hy' => ?_, ?_, Same.mut g5 hD3⟩
        · rcases List.mem_append.mp hy' with hy' | hy'
          · exact g3 y' hy'
          · rw [List.mem_singleton.mp hy']
            exact xy
        · rw [List.length_append, List.length_singleton]
          omega
    rintro H7 ⟨us3, xs3, e3, p3, ne3, l3, s7⟩
    have hM7 := hM6.same s7
    have hP7 := hP6.same s7
    have hq1 := s7 _ _ hq1
    have lp3 : D3 ≠ p := by
      obtain ⟨⟨i, q⟩, _⟩ := hP6
      exact (ne_of_none q hD3).symm
    refine ⟨_, rfl, Nat.zero_le _, fun q hq => ?_⟩
    have s8 := same_new hq (o := .lst [])
    refine ⟨_, _, (p3.same s8).dp (s8 _ _ e3), .lst (SqL.of upd_same) .nil, shaped_pts _, shaped_nil, _, rfl, ?_⟩
    rw [pts_eqv_nil]
    by_cases y3 : xs3 = []
    · rw [decide_eq_true y3]
      exact iteFx rfl (k S z3 _ (hP7.same s8) (by omega) (hM7.same s8) hK rfl (by omega))
    rw [decide_eq_false y3]
    refine iteTx rfl ?_
    have w3 : 0 < us3.length := by
      rw [AP.length p3]
      exact List.length_pos_iff.mpr y3
    have hP8 := hP7.same s8
    have hM8 := hM7.same s8
    have e3 := s8 _ _ e3
    have p3 := p3.same s8
    refine ⟨_, rfl, _, rfl, _, rfl, D3, us3, rfl, .inl (SqL.of e3), p, c, z3, _, rfl, hP8, by omega, by omega, by omega, fun j z4 H9 j0 j1 hP9 hz4 k9 => ?_⟩
    obtain ⟨i2, rfl⟩ : ∃ m : Nat, j = (m : Int) := ⟨j.toNat, by omega⟩
    have nt8 : NoTs _ [p] := fun a ha => by rw [List.mem_singleton.mp ha]; exact hP8.noTup
    have kx9 : Kx [p] _ H9 := .kp k9 (List.mem_singleton.mpr rfl)
    have p3 := p3.kx kx9 nt8
    have e3 := k9 _ _ e3 lp3
    have hM9 := hM8.pen hP8 k9
    have hq1 := tup_kx kx9 nt8 (s8 _ _ hq1)
    obtain ⟨q2, y, hv2, hq2, hy, ly⟩ := p3.at (i := i2) (by omega)
    have hne : y ≠ x := by
      have : y ∈ xs3 := by
        have h0 : i2 < us3.length := by omega
        exact pts_mem p3 hv2 hq2
      exact ne3 y this
    refine ⟨D3, _, _, _, rfl, rfl, SqL.of e3, at_natI hv2, ?_⟩
    -- tied
    obtain ⟨dx, g9⟩ := hM9.N.ob
    refine ⟨_, rfl, n, dx, _, rfl, g9, no3 (by decide +kernel), _, rfl, _, rfl, n, r, e, q1, q2, S, x, y, rfl, hM9.N, hq1, hq2, hx, hy, fun z => hne z.symm, lx, ly, by omega, fun HA hNA kA => ?_⟩
    obtain ⟨hmA, ⟨kvs, ga, gp⟩, ⟨ks, ge, gq⟩⟩ := hM9.half kA
    have ntN := hM9.N.noTs
    have hq1 := tup_kx kA ntN hq1
    have hq2 := tup_kx kA ntN hq2
    have hPA := hP9.net hM9.N kA
    -- the model
    have gE : DGet HA m (.str "ends") (some (.ref E0)) := modE (A := M) (E := E0) ▸ DGet.k (k := .inr "ends") hmA
    refine ⟨_, rfl, m, _, rfl, gE, .inr (.inr (.inl ⟨rfl, .inr ⟨ks, ge⟩⟩)), ?_⟩
    intro dp hdp
    refine ⟨_, rfl, _, rfl, _, rfl, _, rfl, ?_⟩
    have sD := same_new hdp (o := .dT [])
    have q1D : q1 ≠ dp := ne_of_none hq1 hdp
    have q2D : q2 ≠ dp := ne_of_none hq2 hdp
    have pne : ¬ pk x = pk y := fun z => hne (pk_inj z).symm
    refine ⟨_, DPut.t (k := pk x) upd_same (by rw [upd_ne q1D]; exact hq1) (by decide), ?_⟩
    rw [upd_upd]
    refine ⟨_, DPut.t (k := pk y) upd_same (by rw [upd_ne q2D]; exact hq2) (lt_line (Nat.le_trans (length_putK _ _ _) (by decide))), ?_⟩
    rw [upd_upd]
    have epk : putK (putK ([] : List (List Key × V)) (pk x) (.ref q2)) (pk y) (.ref q1) = [(pk x, .ref q2), (pk y, .ref q1)] := by
      have a1 : putK ([] : List (List Key × V)) (pk x) (.ref q2) = [(pk x, .ref q2)] := putK_new (kvs := []) _ rfl
      rw [a1, putK_new _ (valV_neg pne)]
      rfl
    rw [epk]
    have eD : E0 ≠ dp := ne_of_none ge hdp
    have lks := Paired.length gq
    have hxa : x.1 < 16 ∧ x.2 < 6 := hK.small hM9.N.ok hnx hx
    have hya : y.1 < 16 ∧ y.2 < 6 := hK.small hM9.N.ok hnx hy
    refine ⟨E0, dp, ks, _, rfl, rfl, by rw [upd_ne eD]; exact ge, upd_same, eD, .inr ?_, ?_, ?_⟩
    · rw [List.map_cons, List.map_cons, List.map_nil]
      show [ptH x, ptH y].Nodup
      have := ptH_ne hxa.1 hxa.2 hya.1 hya.2 (fun z => hne z.symm)
      simpa using this
    · rw [List.length_cons, List.length_cons, List.length_nil]
      exact le_line (by omega)
    have new : ∀ u : Pt, lk S.ends u = none → valV ks (pk u) = none := fun u hu => by
      rcases ends_val gq u with ⟨w1, _⟩ | ⟨_, _, _, w2, _⟩
      · exact w1
      · rw [hu] at w2
        cases w2
    have em : mergeT ks [(pk x, .ref q2), (pk y, .ref q1)] = ks ++ [(pk x, .ref q2), (pk y, .ref q1)] := merge_new _ _ (fun k hk => by
      simp only [List.map_cons, List.map_nil, List.mem_cons, List.not_mem_nil, or_false] at hk
      rcases hk with rfl | rfl
      · exact new x lx
      · exact new y ly) (by simpa using pne)
    rw [em]
    have sB := same_new hdp (o := .dT [(pk x, .ref q2), (pk y, .ref q1)])
    generalize eHB : upd HA dp (.dT [(pk x, .ref q2), (pk y, .ref q1)]) = HB at sB
    have geB := sB _ _ ge
    have gaB := sB _ _ ga
    have hmB := sB _ _ hmA
    have hNB := hNA.same sB
    have hPB := hPA.same sB
    have kE : Kx [E0] HB (upd HB E0 (.dT (ks ++ [(pk x, .ref q2), (pk y, .ref q1)]))) := .put (List.mem_singleton.mpr rfl)
    have ntE : NoTs HB [E0] := fun b hb => by rw [List.mem_singleton.mp hb]; exact noTup_of geB (fun _ z => nomatch z) (fun _ _ z => nomatch z)
    obtain ⟨o1, o2, o3⟩ := hM9.outN
    simp only [List.mem_cons, List.not_mem_nil, or_false, not_or] at o3
    refine k _ z4 _ ?_ (by omega) ⟨hNB.kx kE ntE (fun z => o3.1 (List.mem_singleton.mp z).symm) (fun z => o3.2.1 (List.mem_singleton.mp z).symm) (fun z => o3.2.2 (List.mem_singleton.mp z).symm), ?_, ⟨kvs, ?_, ?_⟩, ⟨_, upd_same, ?_⟩, hM9.rA, hM9.rm, hM9.eE, hM9.mA⟩ (hK.tie (fun z => hne z.symm) lx ly) rfl (by show (S.ends ++ [_, _]).length ≤ _; rw [List.length_append]; exact Nat.le_refl _)
    · obtain ⟨⟨i, w1⟩, cs, w2, wl⟩ := hPB
      exact ⟨⟨i, by rw [upd_ne (ne_of w1 geB (fun z => nomatch z))]; exact w1⟩, cs, by rw [upd_ne (ne_of w2 geB (fun z => nomatch z))]; exact w2, wl⟩
    · rw [upd_ne (ne_of hmB geB (fun z => nomatch z))]
      exact hmB
    · rw [upd_ne (ne_of gaB geB (fun z => nomatch z))]
      exact gaB
    · exact L2.Paired.mapP gp fun _ _ z => (NRow.kx (L := []) (.of sB) (fun _ h => nomatch h) z).kx kE ntE
    · refine pd_app (L2.Paired.mapP gq fun _ _ z => (NEnd.kx (L := []) (.of sB) (fun _ h => nomatch h) z).kx kE ntE) (.cons ⟨rfl, q2, rfl, tup_kx kE ntE (sB _ _ hq2)⟩ (.cons ⟨rfl, q1, rfl, tup_kx kE ntE (sB _ _ hq1)⟩ .nil))
end

section
variable {P : Program} {w : World} {K : PySem.W.Frag} {mg : Str → Option Value} {base : Heap} {C : Addr}
theorem ok_eaway (D : DefAt K mg "_law_e_away" s_law_e_away ["_law_pen", "_law_net", "_law_model"]) (R : NetC K C) (T : Bl mg) (C_law_e_take : CallOk P w K mg base 2 "_law_e_take" ["_law_pen", "_law_many"] spTakeE) (M_Net_take_away : MethOk P w K mg base 5 C "take_away" ["self", "agent"] (spTakeN K C)) : CallOk P w K mg base 6 "_law_e_away" ["_law_pen", "_law_net", "_law_model"] (spEAwayK K C) := by
  refine D.ok sc_law_e_away (fun vs H Q E h => ?_) (fun f cdv A outer s H vs Q E hr h => ?_)
  · obtain ⟨p, c, n, r, e, m, A, E0, S, z, rfl, _⟩ := h
    rfl
  · obtain ⟨p, c, n, r, e, m, M, E0, S, z, rfl, hP, hz, hM, hK, hnx, hel, k⟩ := h
    refine ⟨_, (pss_cons (ps_set (i := 3) sc_law_e_away.nd rfl (Or.inl rfl) (pe_callB (call_sortedDI rfl) (by rfl) T.sorted_ (by decide +kernel) (pa_cons (pe_dget (hu_of hr) (pv 2) pe_str (fun _ _ => rfl)) pa_nil)))
        (pss_one (ps_if (pt_cmpR (op_neD hr.units) (pv 3) (pe_lst pa_nil) (nomark _)) (pss_cons (ps_set (i := 4) sc_law_e_away.nd rfl (Or.inr rfl) (pe_ix ix_list (pv 3) (pe_callOk C_law_e_take hr (by omega) (by rfl) (pa_cons (pv 0) (pa_cons (pe_callB call_len_seq (by rfl) T.len_ (by decide +kernel) (pa_cons (pv 3) pa_nil)) pa_nil))) (fun _ _ => rfl)))
        (pss_cons (ps_expr (pe_methOk M_Net_take_away R.cl hr (by omega) (pv 1) (pa_cons (pv 4) pa_nil)))
        (pss_cons (ps_expr (pe_dpop1 (pe_dget (hu_of hr) (pv 2) pe_str (fun _ _ => rfl)) (pv 4) ⟨rfl, rfl, rfl, rfl⟩))
        (pss_one (ps_dput (hu_of hr) (pv 2) pe_str (pe_callTy (call_dictPT rfl (hu2_of hr)) (by rfl) T.dict_ (by decide +kernel) (pa_cons (pe_lock (pe_lc (own := [("_law_pair", 5)]) (g := gName 5) rfl sc_law_e_away.nd (pi_itemsT (pe_dget (hu_of hr) (pv 2) pe_str (fun _ _ => rfl))) (blkOk_by (N := sl_law_e_away) (sc := defScope s_law_e_away) (by decide +kernel)) (fun _ _ _ _ _ => pg_name (i := 5) sc_law_e_away.nd rfl (Or.inl rfl)) (fun _ _ _ _ _ => pts_one (pt_cmpR (notIn_seqK (K := K) rfl) (pv 4) (pe_tup (pa_cons (pe_ix (ixTupK (K := K) rfl) (pe_ix (ixTupK (K := K) rfl) (pv 5) pe_int (fun _ _ => rfl)) pe_int (fun _ _ => rfl)) (pa_cons (pe_ix (ixTupK (K := K) rfl) (pe_ix (ixTupK (K := K) rfl) (pv 5) pe_int (fun _ _ => rfl)) pe_int (fun _ _ => rfl)) pa_nil))) (by rfl))) (fun _ _ _ _ _ => (pv 5)))) pa_nil)) rfl))))) pss_nil))), ?_⟩
    have hfew := hK.few hnx
    have ok := hM.N.ok
    obtain ⟨kvs, ga, gp⟩ := hM.ag
    refine ⟨_, rfl, m, _, rfl, hM.gA, M, kvs, _, rfl, .inl ga, rows_keys gp, by rw [List.length_map]; omega, fun ys L perm sorted nL => ?_⟩
    rw [nums_sorted ok perm sorted]
    clear sorted perm
    have s1 := same_new nL (o := .lst ((S.rows.map fun x => (x.1 : Int)).map V.int))
    have eL : upd H L (.lst ((S.rows.map fun x => (x.1 : Int)).map V.int)) L = some (.lst ((S.rows.map fun x => (x.1 : Int)).map V.int)) := upd_same
    have hM1 := hM.same s1
    have hP1 := hP.same s1
    have lp : L ≠ p := by
      obtain ⟨⟨i, q⟩, _⟩ := hP
      exact (ne_of_none q nL).symm
    refine ⟨_, rfl, Nat.zero_le _, fun q hq => ?_⟩
    have s2 := same_new hq (o := .lst [])
    have hM2 := hM1.same s2
    have hP2 := hP1.same s2
    refine ⟨_, _, .lst (SqL.of (s2 _ _ eL)) (dp_ints K _ _), .lst (SqL.of upd_same) .nil, shaped_ints _, shaped_nil, _, rfl, ?_⟩
    rw [eqv_nil]
    by_cases y1 : S.rows = []
    · refine iteFx (by rw [y1]; rfl) ?_
      exact k S E0 z _ hP2 (by omega) hM2 hK rfl (Nat.le_refl _)
    have hpos : 0 < S.rows.length := List.length_pos_iff.mpr y1
    refine iteTx (by cases hr0 : S.rows with | nil => exact absurd hr0 y1 | cons a l => rfl) ?_
    have hlenL : ((S.rows.map fun x => (x.1 : Int)).map V.int).length = S.rows.length := by rw [List.length_map, List.length_map]
    refine ⟨_, rfl, _, rfl, _, rfl, L, _, rfl, .inl (SqL.of (s2 _ _ eL)), p, c, z, _, rfl, hP2, by omega, by rw [hlenL]; omega, by rw [hlenL]; omega, fun j z3 H3 j0 j1 hP3 hz3 k3 => ?_⟩
    obtain ⟨i1, rfl⟩ : ∃ m : Nat, j = (m : Int) := ⟨j.toNat, by omega⟩
    rw [hlenL] at j1
    have hM3 := hM2.pen hP2 k3
    have eL3 := k3 _ _ (s2 _ _ eL) lp
    obtain ⟨⟨a, sym, low⟩, hr0⟩ : ∃ x, S.rows[i1]? = some x := ⟨_, List.getElem?_eq_getElem (by omega)⟩
    have hla : lk S.rows a = some (sym, low) := ok.at (List.mem_of_getElem? hr0)
    have hv : ((S.rows.map fun x => (x.1 : Int)).map V.int)[i1]? = some (.int (a : Int)) := by
      rw [List.getElem?_map, List.getElem?_map, hr0]
      rfl
    refine ⟨L, _, _, _, rfl, rfl, SqL.of eL3, at_natI hv, ?_⟩
    -- away from the net
    obtain ⟨dx, g3⟩ := hM3.N.ob
    refine ⟨_, rfl, n, dx, _, rfl, g3, no3 (by decide +kernel), _, rfl, n, r, e, S, a, sym, low, rfl, hM3.N, hla, hK.nd, hK.sm, hK.ir, fun HA hNA kA => ?_⟩
    obtain ⟨hmA, ⟨kvsA, gaA, gpA⟩, ⟨ks, ge, gq⟩⟩ := hM3.half kA
    have hPA := hP3.net hM3.N kA
    obtain ⟨o1, o2, o3⟩ := hM3.outN
    simp only [List.mem_cons, List.not_mem_nil, or_false, not_or] at o1 o2 o3
    have outA : ∀ b ∈ [n, r, e], b ∉ [M] := fun b hb hm => by
      rw [List.mem_singleton.mp hm] at hb
      simp only [List.mem_cons, List.not_mem_nil, or_false] at hb
      rcases hb with hb | hb | hb
      · exact o2.1 hb
      · exact o2.2.1 hb
      · exact o2.2.2 hb
    -- away from the model's agents
    have gA : DGet HA m (.str "agents") (some (.ref M)) := modA (A := M) (E := E0) ▸ DGet.k (k := .inr "agents") hmA
    rcases rows_val gpA a with ⟨_, z2⟩ | ⟨t1, sv, sym', low', z1, z2, _, _⟩
    · rw [hla] at z2
      cases z2
    refine ⟨_, rfl, m, _, rfl, gA, M, rfl, .inl ⟨kvsA, .inl gaA⟩, _, rfl, kvsA, ik a, _, gaA, rfl, z1, ?_⟩
    have kM : Kx [M] HA (upd HA M (.dK (dropK kvsA (ik a)))) := .put (List.mem_singleton.mpr rfl)
    have ntM : NoTs HA [M] := fun b hb => by rw [List.mem_singleton.mp hb]; exact noTup_of gaA (fun _ z => nomatch z) (fun _ _ z => nomatch z)
    have hNB := hNA.kx kM ntM (outA n (by simp)) (outA r (by simp)) (outA e (by simp))
    have gpB : Paired (NRow K (upd HA M (.dK (dropK kvsA (ik a))))) (dropK kvsA (ik a)) (S.away a).rows := L2.Paired.mapP (paired_drop gpA fun kv x h => by
          rw [h.1]
          exact decide_eq_decide.mpr ⟨fun h z => h (congrArg ik z), fun h z => h (ik_inj z)⟩) fun _ _ z => z.kx kM ntM
    have gqB := L2.Paired.mapP gq fun _ _ z => NEnd.kx kM ntM z
    have eM : E0 ≠ M := ne_of ge gaA (fun z => nomatch z)
    have geB : upd HA M (.dK (dropK kvsA (ik a))) E0 = some (.dT ks) := by rw [upd_ne eM]; exact ge
    have hmB : upd HA M (.dK (dropK kvsA (ik a))) m = some (.dK (modV M E0)) := by rw [upd_ne hM3.mA]; exact hmA
    have hPB : PenE (upd HA M (.dK (dropK kvsA (ik a)))) p c z3 := by
      obtain ⟨⟨i, w1⟩, cs, w2, wl⟩ := hPA
      exact ⟨⟨i, by rw [upd_ne (ne_of w1 gaA (fun z => nomatch z))]; exact w1⟩, cs, by rw [upd_ne (ne_of w2 gaA (fun z => nomatch z))]; exact w2, wl⟩
    have gaB : upd HA M (.dK (dropK kvsA (ik a))) M = some (.dK (dropK kvsA (ik a))) := upd_same
    generalize upd HA M (.dK (dropK kvsA (ik a))) = HB at hNB gpB gqB geB hmB hPB gaB
    clear hNA hPA gq gpA gaA ge hmA kM ntM kA gA z1 z2 hM3 hM2 hM1 hP3 hP2 hP1 k3
    -- the ends that are left
    have gE : DGet HB m (.str "ends") (some (.ref E0)) := modE (A := M) (E := E0) ▸ DGet.k (k := .inr "ends") hmB
    refine ⟨E0, .dT ks, geB, trivial, fun od => ?_⟩
    have mE : m ≠ E0 := ne_of hmB geB (fun z => nomatch z)
    have gE2 : DGet (upd HB E0 (.frz od (.dT ks))) m (.str "ends") (some (.ref E0)) := modE (A := M) (E := E0) ▸ DGet.k (k := .inr "ends") (by rw [upd_ne mE]; exact hmB)
    refine ⟨_, rfl, m, _, rfl, gE2, E0, od, ks, rfl, upd_same, fun D hD => ?_⟩
    generalize eHF : upd HB E0 (.frz od (.dT ks)) = HF at hD
    have hF : HF E0 = some (.frz od (.dT ks)) := by rw [← eHF]; exact upd_same
    have gqF : Paired (NEnd HF) ks S.ends := by
      rw [← eHF]
      refine L2.Paired.mapP gqB fun kv x h => ?_
      obtain ⟨h1, q, h2, h3⟩ := h
      exact ⟨h1, q, h2, by rw [upd_ne (ne_of h3 geB (fun z => nomatch z))]; exact h3⟩
    have lks := Paired.length gqB
    refine lc_itemsT (d := E0) (od := od) (kvs := ks) (fun i H' => ∃ (ps : List Addr) (kvs' : List (List Key × V)), H' D = some (.lst (ps.map V.ref)) ∧ Paired (PairT K H') ps kvs' ∧ Paired (NEnd HF) kvs' ((S.ends.take i).filter (leftB a)) ∧ ps.length ≤ i ∧ Same HF H') ⟨[], [], upd_same, .nil, .nil, Nat.le_refl _, same_new hD⟩ (fun i H' p => ?_) ?_ ?_
    · obtain ⟨_, _, _, _, _, _, p⟩ := p
      exact p _ _ hF
    · rintro i kk v q T H7 hk ⟨ps, kvs', e7, g7, f7, l7, s7⟩ hq7 hT
      have hi : i < ks.length := (List.getElem?_eq_some_iff.mp hk).1
      obtain ⟨⟨x, y⟩, hx, hR⟩ := pd_at gqF hk
      have hR0 := hR
      obtain ⟨hk1, q2, hk2, hk3⟩ := hR
      have hk1 : kk = pk x := hk1
      have hk2 : v = .ref q2 := hk2
      subst hk1 hk2
      have s8 := same_new hT (o := .tup [.ref q, .ref q2])
      have hqx : (upd H7 T (.tup [.ref q, .ref q2])) q = some (.tup (ptV x)) := s8 _ _ hq7
      have hqy : (upd H7 T (.tup [.ref q, .ref q2])) q2 = some (.tup (ptV y)) := s8 _ _ (s7 _ _ hk3)
      refine ⟨rfl, ?_⟩
      refine ⟨_, rfl, _, rfl, T, _, 0, _, rfl, rfl, SqT.of upd_same, at_zero, q, _, 0, _, rfl, rfl, SqT.of hqx, at_zero, _, rfl, T, _, 1, _, rfl, rfl, SqT.of upd_same, rfl, q2, _, 0, _, rfl, rfl, SqT.of hqy, at_zero, le_line (by show 2 ≤ 16000000; decide), fun U hU => ?_⟩
      have s9 := same_new hU (o := .tup [.int (x.1 : Int), .int (y.1 : Int)])
      refine ⟨U, _, rfl, .inr (SqT.of upd_same), rfl, rfl, _, rfl, ?_⟩
      have nx : (S.ends.take (i + 1)).filter (leftB a) = (S.ends.take i).filter (leftB a) ++ [(x, y)].filter (leftB a) := by
        rw [List.take_add_one, hx, List.filter_append]
        rfl
      have hin : (if true = true then !inV (.int (a : Int)) [V.int (x.1 : Int), V.int (y.1 : Int)] else inV (.int (a : Int)) [V.int (x.1 : Int), V.int (y.1 : Int)]) = leftB a (x, y) := by
        rw [if_pos rfl]
        exact in_two a x.1 y.1
      rw [hin]
      have sAll := s8.trans s9
      have e9 := sAll _ _ e7
      have g9 : Paired (PairT K _) ps kvs' := L2.Paired.mapP g7 fun p kv h => by
        obtain ⟨q0, h1, h2⟩ := h
        exact ⟨q0, sAll _ _ h1, sAll _ _ h2⟩
      have hT9 := s9 _ _ (upd_same (H := H7) (a := T) (o := .tup [.ref q, .ref q2]))
      by_cases cl : leftB a (x, y) = true
      · refine iteTx cl ⟨_, rfl, _, e9, lt_line (by rw [List.length_map]; omega), ps ++ [T], kvs' ++ [(pk x, .ref q2)], ?_, ?_, ?_, by rw [List.length_append, List.length_singleton]; omega, Same.mut (s7.trans sAll) hD⟩
        · rw [upd_same, List.map_append]
          rfl
        · have put : ∀ (b : Addr) (xs : List V), upd (upd H7 T (.tup [.ref q, .ref q2])) U (.tup [.int (x.1 : Int), .int (y.1 : Int)]) b = some (.tup xs) → upd (upd (upd H7 T (.tup [.ref q, .ref q2])) U (.tup [.int (x.1 : Int), .int (y.1 : Int)])) D (.lst (ps.map V.ref ++ [.ref T])) b = some (.tup xs) := fun b xs hb => by
            rw [upd_ne (ne_of hb e9 (fun z => nomatch z))]
            exact hb
          refine pd_app (L2.Paired.mapP g9 fun p kv h => ?_) (.cons ⟨q, put _ _ hT9, put _ _ (s9 _ _ hqx)⟩ .nil)
          obtain ⟨q0, h1, h2⟩ := h
          exact ⟨q0, put _ _ h1, put _ _ h2⟩
        · rw [nx, List.filter_cons, cl, if_pos rfl]
          exact pd_app f7 (.cons hR0 .nil)
      · refine iteFx (Bool.eq_false_iff.mpr cl) ⟨ps, kvs', e9, g9, ?_, by omega, s7.trans sAll⟩
        rw [nx, List.filter_cons, if_neg cl, List.filter_nil, List.append_nil]
        exact f7
    rintro H8 ⟨ps, kvs', e8, g8, f8, l8, s8⟩
    have f8 : Paired (NEnd HF) kvs' (S.away a).ends := by
      rw [List.take_of_length_le (by omega)] at f8
      exact f8
    have h8E := s8 _ _ hF
    refine ⟨h8E, ?_⟩
    have sU : Same HB (upd H8 E0 (.dT ks)) := fun b o hb => by
      by_cases eb : b = E0
      · subst eb
        rw [upd_same, ← hb, geB]
      · rw [upd_ne eb]
        refine s8 _ _ ?_
        rw [← eHF, upd_ne eb]
        exact hb
    have tupU : ∀ (b : Addr) (xs : List V), H8 b = some (.tup xs) → upd H8 E0 (.dT ks) b = some (.tup xs) := fun b xs hb => by
      rw [upd_ne (ne_of hb h8E (fun z => nomatch z))]
      exact hb
    have dE : D ≠ E0 := ne_of e8 h8E (fun z => nomatch z)
    have ndk : (kvs'.map (·.1)).Nodup := ends_nd f8 hK.away.nd
    refine ⟨D, ps, kvs', rfl, SqL.of (by rw [upd_ne dE]; exact e8), L2.Paired.mapP g8 fun p kv h => by
      obtain ⟨q0, h1, h2⟩ := h
      exact ⟨q0, tupU _ _ h1, tupU _ _ h2⟩, fun p' hp' => ?_⟩
    rw [merge_new kvs' [] (fun _ _ => rfl) ndk, List.nil_append]
    have f9 : Paired (NEnd (upd H8 E0 (.dT ks))) kvs' (S.away a).ends := L2.Paired.mapP f8 fun kv x h => by
      obtain ⟨h1, q, h2, h3⟩ := h
      exact ⟨h1, q, h2, tupU _ _ (s8 _ _ h3)⟩
    generalize upd H8 E0 (.dT ks) = HU at sU hp' f9
    have sP := same_new hp' (o := .dT kvs')
    have sAll := sU.trans sP
    have hmZ := sAll _ _ hmB
    have gaZ := sAll _ _ gaB
    refine ⟨_, rfl, m, _, rfl, DPut.k (k := .inr "ends") hmZ (by show 2 < sizeLine; decide), ?_⟩
    rw [modPut]
    have kZ : Kx [m] (upd HU p' (.dT kvs')) (upd (upd HU p' (.dT kvs')) m (.dK (modV M p'))) := .put (List.mem_singleton.mpr rfl)
    have ntZ : NoTs (upd HU p' (.dT kvs')) [m] := fun b hb => by rw [List.mem_singleton.mp hb]; exact noTup_of hmZ (fun _ z => nomatch z) (fun _ _ z => nomatch z)
    have hNZ := hNB.same sAll
    have eP : upd HU p' (.dT kvs') p' = some (.dT kvs') := upd_same
    obtain ⟨_, _, ⟨kse, hee, _⟩, _⟩ := id hNB
    refine k (S.away a) p' z3 _ ?_ (by omega) ⟨hNZ.kx kZ ntZ (fun z => o1.1 (List.mem_singleton.mp z).symm) (fun z => o1.2.1 (List.mem_singleton.mp z).symm) (fun z => o1.2.2 (List.mem_singleton.mp z).symm), upd_same, ⟨_, ?_, L2.Paired.mapP gpB fun _ _ z => (NRow.kx (L := []) (.of sAll) (fun _ h => nomatch h) z).kx kZ ntZ⟩, ⟨_, ?_, L2.Paired.mapP f9 fun _ _ z => (NEnd.kx (L := []) (.of sP) (fun _ h => nomatch h) z).kx kZ ntZ⟩, hM.rA, hM.rm, ne_of_none (sU _ _ hee) hp', hM.mA⟩ hK.away rfl (List.length_filter_le ..)
    · obtain ⟨⟨i, w1⟩, cs, w2, wl⟩ := hPB.same sAll
      exact ⟨⟨i, by rw [upd_ne (ne_of w1 hmZ (fun z => nomatch z))]; exact w1⟩, cs, by rw [upd_ne (ne_of w2 hmZ (fun z => nomatch z))]; exact w2, wl⟩
    · rw [upd_ne hM.mA.symm]
      exact gaZ
    · rw [upd_ne (ne_of eP hmZ (fun z => nomatch z))]
      exact eP
end

section
variable {P : Program} {w : World} {K : PySem.W.Frag} {mg : Str → Option Value} {base : Heap} {C : Addr}
theorem ok_edue (D : DefAt K mg "_law_e_due" s_law_e_due ["_law_model"]) (T : Bl mg) : CallOk P w K mg base 1 "_law_e_due" ["_law_model"] (spEDueK K C) := by
  refine D.ok sc_law_e_due (fun vs H Q E h => ?_) (fun f cdv A outer s H vs Q E hr h => ?_)
  · obtain ⟨n, r, e, m, A, E0, S, rfl, _⟩ := h
    rfl
  · obtain ⟨n, r, e, m, M, E0, S, rfl, hM, hK, hnx, k⟩ := h
    refine ⟨_, (pss_cons (ps_set (i := 1) sc_law_e_due.nd rfl (Or.inl rfl) (pe_lst pa_nil))
        (pss_cons (ps_for PassesOwn.never rfl (pi_list (pe_callB (call_sortedDI rfl) (by rfl) T.sorted_ (by decide +kernel) (pa_cons (pe_dget (hu_of hr) (pv 0) pe_str (fun _ _ => rfl)) pa_nil))) (pg_name (i := 2) sc_law_e_due.nd rfl (Or.inl rfl) (by first | exact .inl rfl | exact .inr rfl)) (pss_cons (ps_set (i := 3) sc_law_e_due.nd rfl (Or.inl rfl) (pe_ix ix_tup (pe_ix ix_tup (pe_dget (hu_of hr) (pe_dget (hu_of hr) (pv 0) pe_str (fun _ _ => rfl)) (pv 2) (fun _ _ => rfl)) pe_int (fun _ _ => rfl)) pe_int (fun _ _ => rfl)))
        (pss_cons (ps_set (i := 4) sc_law_e_due.nd rfl (Or.inl rfl) (pe_dget2 (hu_of hr) (pe_dget (hu_of hr) (pv 0) pe_str (fun _ _ => rfl)) (pe_tup (pa_cons (pv 2) (pa_cons pe_int pa_nil))) (pe_tup (pa_cons (pe_un un_neg pe_int) (pa_cons pe_int pa_nil))) ⟨rfl, rfl, rfl, rfl⟩))
        (pss_one (ps_if (pt_cmpR op_eq (pv 3) pe_str (nomark _)) (pss_one (ps_expr (pe_bm PySem.F.plainAttrs_list PySem.F.slot_list_append PySem.F.type_list_append mt_append (pv 1) (pa_cons (pe_tup (pa_cons (pv 2) pa_nil)) pa_nil)))) (pss_one (ps_if (PW.pt (pw_and (pt_cmpR op_eq (pe_ix ix_tup (pv 4) pe_int (fun _ _ => rfl)) pe_int (nomark _)) (pw_and (pt_cmpR op_lt (pv 2) (pe_ix ix_tup (pv 4) pe_int (fun _ _ => rfl)) (nomark _)) (pw_and1 (pt_cmpR op_notIn_seq pe_str (pe_tup (pa_cons (pv 3) (pa_cons (pe_ix ix_tup (pe_ix ix_tup (pe_dget (hu_of hr) (pe_dget (hu_of hr) (pv 0) pe_str (fun _ _ => rfl)) (pe_ix ix_tup (pv 4) pe_int (fun _ _ => rfl)) (fun _ _ => rfl)) pe_int (fun _ _ => rfl)) pe_int (fun _ _ => rfl)) pa_nil))) (by rfl)))))) (pss_one (ps_if (pt_cmpR op_ne (pe_ix ix_tup (pe_ix ix_tup (pe_dget (hu_of hr) (pe_dget (hu_of hr) (pv 0) pe_str (fun _ _ => rfl)) (pe_ix ix_tup (pv 4) pe_int (fun _ _ => rfl)) (fun _ _ => rfl)) pe_int (fun _ _ => rfl)) pe_int (fun _ _ => rfl)) pe_str (nomark _)) (pss_one (ps_expr (pe_bm PySem.F.plainAttrs_list PySem.F.slot_list_append PySem.F.type_list_append mt_append (pv 1) (pa_cons (pe_tup (pa_cons (pv 2) (pa_cons (pe_ix ix_tup (pv 4) pe_int (fun _ _ => rfl)) pa_nil))) pa_nil)))) pss_nil)) pss_nil)))))))
        (pss_one (ps_ret (pe_callB cr_sortedF (by rfl) T.sorted_ (by decide +kernel) (pa_cons (pv 1) pa_nil)))))), ?_⟩
    have hfew := hK.few hnx
    have ok := hM.N.ok
    refine ⟨Nat.zero_le _, fun L nL => ?_⟩
    have s1 := same_new nL (o := .lst [])
    have hM1 := hM.same s1
    obtain ⟨kvs, ga, gp⟩ := hM1.ag
    refine ⟨_, rfl, m, _, rfl, hM1.gA, M, kvs, _, rfl, .inl ga, rows_keys gp, by rw [List.length_map]; omega, fun ys q perm sorted hq => ⟨q, rfl, ⟨_, SqL.of upd_same⟩, ?_⟩⟩
    rw [nums_sorted ok perm sorted]
    clear sorted perm
    have s2 := same_new hq (o := .lst ((S.rows.map fun x => (x.1 : Int)).map V.int))
    have eL : upd (upd H L (.lst [])) q (.lst ((S.rows.map fun x => (x.1 : Int)).map V.int)) L = some (.lst []) := s2 _ _ upd_same
    have qL : q ≠ L := (ne_of_none (upd_same : upd H L (.lst []) L = _) hq).symm
    refine for_list (xs := (S.rows.map fun x => (x.1 : Int)).map V.int) (fun i σ H' => ∃ (us : List V) (v2 v3 v4 : Option V), σ = [some (.ref m), some (.ref L), v2, v3, v4] ∧ H' L = some (.lst us) ∧ MvL H' S us (((S.rows.take i).map (·.1)).filter (movB S)) ∧ us.length ≤ i ∧ Same H H' ∧ H' q = some (.lst ((S.rows.map fun x => (x.1 : Int)).map V.int)))
      ⟨[], none, none, none, rfl, eL, .nil, Nat.zero_le _, s1.trans s2, upd_same⟩ (fun i σ H' _ p => ?_) ?_ ?_
    · obtain ⟨_, _, _, _, _, _, _, _, _, p⟩ := p
      exact SqL.of p
    · rintro i v σ H2 hx ⟨us, v2, v3, v4, rfl, g1, p1, l1, sH, gq⟩
      rw [List.getElem?_map, List.getElem?_map] at hx
      obtain ⟨_, hx2, rfl⟩ := Option.map_eq_some_iff.mp hx
      obtain ⟨⟨a, sym, low⟩, hr0, rfl⟩ := Option.map_eq_some_iff.mp hx2
      have hi : i < S.rows.length := (List.getElem?_eq_some_iff.mp hr0).1
      have hla : lk S.rows a = some (sym, low) := ok.at (List.mem_of_getElem? hr0)
      have hSy := hK.syOk (by omega)
      obtain ⟨x, ds, hsym, e1⟩ := hSy.at hla
      subst hsym
      have nx : ((S.rows.take (i + 1)).map (·.1)).filter (movB S) = ((S.rows.take i).map (·.1)).filter (movB S) ++ [a].filter (movB S) := by
        rw [List.take_add_one, hr0, List.map_append, List.filter_append]
        rfl
      have hM2 := hM.same sH
      obtain ⟨t, sv, hg, hT, hd⟩ := hM2.row hla
      obtain ⟨t0, xs0, rfl, hT0, _⟩ := da_first hd
      refine ⟨_, rfl, m, _, rfl, hM2.gA, _, rfl, M, _, rfl, hg, t, _, 0, _, rfl, rfl, hT, at_zero, t0, _, 0, _, rfl, rfl, hT0, at_zero, ?_⟩
      -- its end
      refine ⟨_, rfl, m, _, rfl, hM2.gE, E0, rfl, hM2.isE, _, rfl, le_line (by show 2 ≤ 16000000; decide), fun q1 hq1 => ?_⟩
      have s3 := same_new hq1 (o := .tup (ptV (a, 0)))
      have hM3 := hM2.same s3
      refine ⟨_, rfl, le_line (by show 2 ≤ 16000000; decide), fun q2 hq2 => ?_⟩
      have s4 := same_new hq2 (o := .tup [.int (-1), .int 1])
      have hM4 := hM3.same s4
      have hq1' := s4 _ _ (upd_same (H := H2) (a := q1) (o := .tup (ptV (a, 0))))
      have g4 := s4 _ _ (s3 _ _ g1)
      have p4 := (p1.same s3).same s4
      have sH4 := sH.trans (s3.trans s4)
      have gq4 := s4 _ _ (s3 _ _ gq)
      -- told or not
      have tell : ∀ {H5 : Hp} {σ : L2.St} {t5 : Addr} {vs : List V}, Same (upd (upd H2 q1 (.tup (ptV (a, 0)))) q2 (.tup [.int (-1), .int 1])) H5 → H5 t5 = none → movB S a = true → vs = (movN S a).map (fun i : Nat => V.int (i : Int)) → ∀ {v2 v3 v4 : Option V}, σ = [some (.ref m), some (.ref L), v2, v3, v4] →
          ∃ l xs y, (V.ref L) = .ref l ∧ [V.ref t5] = [y] ∧ (upd H5 t5 (.tup vs)) l = some (.lst xs) ∧ xs.length < sizeLine ∧ (∃ (us : List V) (v2 v3 v4 : Option V), σ = [some (.ref m), some (.ref L), v2, v3, v4] ∧ (upd (upd H5 t5 (.tup vs)) l (.lst (xs ++ [y]))) L = some (.lst us) ∧ MvL (upd (upd H5 t5 (.tup vs)) l (.lst (xs ++ [y]))) S us (((S.rows.take (i + 1)).map (·.1)).filter (movB S)) ∧ us.length ≤ i + 1 ∧ Same H (upd (upd H5 t5 (.tup vs)) l (.lst (xs ++ [y]))) ∧ (upd (upd H5 t5 (.tup vs)) l (.lst (xs ++ [y]))) q = some (.lst ((S.rows.map fun x => (x.1 : Int)).map V.int))) := by
        intro H5 σ t5 vs s5 n5 hm hv v2 v3 v4 hσ
        subst hv
        have s6 := same_new n5 (o := .tup ((movN S a).map (fun i : Nat => V.int (i : Int))))
        have g6 := s6 _ _ (s5 _ _ g4)
        refine ⟨L, _, _, rfl, rfl, g6, lt_line (by omega), _, v2, v3, v4, hσ, upd_same, ?_, ?_, Same.mut (sH4.trans (s5.trans s6)) nL, ?_⟩
        · rw [nx, List.filter_cons, hm, if_pos rfl]
          have e5 : upd H5 t5 (.tup ((movN S a).map (fun i : Nat => V.int (i : Int)))) t5 = some (.tup ((movN S a).map (fun i : Nat => V.int (i : Int)))) := upd_same
          exact ap_snoc (((p4.same s5).same s6).put g6) ⟨t5, rfl, by rw [upd_ne (ne_of e5 g6 (fun z => nomatch z))]; exact e5⟩
        · rw [List.length_append, List.length_singleton]
          omega
        · rw [upd_ne qL]
          exact s6 _ _ (s5 _ _ gq4)
      have skip : ∀ {H5 : Hp} {σ : L2.St}, Same (upd (upd H2 q1 (.tup (ptV (a, 0)))) q2 (.tup [.int (-1), .int 1])) H5 → movB S a = false → ∀ {v2 v3 v4 : Option V}, σ = [some (.ref m), some (.ref L), v2, v3, v4] → ∃ (us : List V) (v2 v3 v4 : Option V), σ = [some (.ref m), some (.ref L), v2, v3, v4] ∧ H5 L = some (.lst us) ∧ MvL H5 S us (((S.rows.take (i + 1)).map (·.1)).filter (movB S)) ∧ us.length ≤ i + 1 ∧ Same H H5 ∧ H5 q = some (.lst ((S.rows.map fun x => (x.1 : Int)).map V.int)) := by
        intro H5 σ s5 hm v2 v3 v4 hσ
        refine ⟨us, v2, v3, v4, hσ, s5 _ _ g4, ?_, by omega, sH4.trans s5, s5 _ _ gq4⟩
        rw [nx, List.filter_cons, hm, if_neg Bool.false_ne_true, List.filter_nil, List.append_nil]
        exact p4.same s5
      have ty : ∀ {H5 : Hp}, Same (upd (upd H2 q1 (.tup (ptV (a, 0)))) q2 (.tup [.int (-1), .int 1])) H5 → ∃ xs, SqL K H5 L xs := fun s5 => ⟨_, SqL.of (s5 _ _ g4)⟩
      -- what stands there
      rcases hM4.fin (x := (a, 0)) hq1' with ⟨z1, z2⟩ | ⟨t2, y, z1, ht2, z2⟩
      · -- untied
        refine ⟨_, z2, ?_⟩
        refine ⟨_, rfl, rfl, _, rfl, ?_⟩
        by_cases c : x = ("def" : Str)
        · refine iteTx (decide_eq_true (congrArg V.str c)) ⟨_, rfl, .inl ⟨rfl, ty (.refl _)⟩, _, rfl, le_line (by show 1 ≤ 16000000; decide), fun t5 ht5 => ?_⟩
          exact tell (.refl _) ht5 (mov_def (by rw [e1]; exact c)) (by
            have em : movN S a = [a] := if_pos (by rw [e1]; exact c)
            rw [em]
            rfl) rfl
        · refine iteFx (decide_eq_false (fun z => c (V.str.inj z))) ?_
          refine ⟨_, rfl, q2, _, 1, _, rfl, rfl, SqT.of upd_same, rfl, rfl, _, rfl, iteFx (by rfl) ?_⟩
          refine skip (.refl _) ?_ rfl
          rw [mov_not (by rw [e1]; exact c), z1]
          show (_ && faceB S a none) = false
          rw [show faceB S a none = false from rfl, Bool.and_false]
      · -- tied
        obtain ⟨b, pb⟩ := y
        refine ⟨_, z2, ?_⟩
        refine ⟨_, rfl, rfl, _, rfl, ?_⟩
        by_cases c : x = ("def" : Str)
        · refine iteTx (decide_eq_true (congrArg V.str c)) ⟨_, rfl, .inl ⟨rfl, ty (.refl _)⟩, _, rfl, le_line (by show 1 ≤ 16000000; decide), fun t5 ht5 => ?_⟩
          exact tell (.refl _) ht5 (mov_def (by rw [e1]; exact c)) (by
            have em : movN S a = [a] := if_pos (by rw [e1]; exact c)
            rw [em]
            rfl) rfl
        refine iteFx (decide_eq_false (fun z => c (V.str.inj z))) ?_
        have hm : movB S a = (decide (x ≠ ("out" : Str)) && faceB S a (some (b, pb))) := by rw [mov_not (by rw [e1]; exact c), e1, z1]
        refine ⟨_, rfl, t2, _, 1, _, rfl, rfl, SqT.of ht2, rfl, rfl, _, rfl, ?_⟩
        by_cases p0 : pb = 0
        rotate_left
        · refine iteFx (decide_eq_false (fun z => p0 (by injection z with z; exact Int.ofNat_inj.mp z))) (skip (.refl _) ?_ rfl)
          rw [hm]
          show (_ && (decide (pb = 0) && decide (a ≤ b) && _ && _)) = false
          rw [decide_eq_false p0]
          simp
        subst p0
        refine iteTx (by rfl) ⟨_, rfl, _, rfl, t2, _, 0, _, rfl, rfl, SqT.of ht2, at_zero, _, _, rfl, rfl, _, rfl, ?_⟩
        have ab : a ≠ b := fun z => hK.ir (a, 0) (by rw [z1, z])
        by_cases c3 : (a : Int) < (b : Int)
        rotate_left
        · refine iteFx (decide_eq_false c3) (skip (.refl _) ?_ rfl)
          rw [hm]
          show (_ && (decide ((0:Nat) = 0) && decide (a ≤ b) && _ && _)) = false
          rw [decide_eq_false (show ¬ a ≤ b by omega)]
          simp
        have hpb := end_port ok z1
        obtain ⟨⟨sym2, low2⟩, hl2⟩ := hpb.agent
        obtain ⟨x2, ds2, hsym2, e2⟩ := hSy.at hl2
        subst hsym2
        have hl2 : lk S.rows b = some (.tuple (.str x2 :: ds2), low2) := hl2
        have e2 : headOf S b = x2 := e2
        obtain ⟨t6, sv6, hg6, hT6, hd6⟩ := hM4.row hl2
        obtain ⟨t7, xs7, rfl, hT7, _⟩ := da_first hd6
        refine iteTx (decide_eq_true c3) ⟨_, rfl, _, rfl, m, _, rfl, hM4.gA, _, rfl, t2, _, 0, _, rfl, rfl, SqT.of ht2, at_zero, M, _, rfl, hg6, t6, _, 0, _, rfl, rfl, hT6, at_zero, t7, _, 0, _, rfl, rfl, hT7, at_zero, le_line (by show 2 ≤ 16000000; decide), fun U hU => ?_⟩
        have s5 := same_new hU (o := .tup [.str x, .str x2])
        refine ⟨U, _, rfl, .inr (SqT.of upd_same), rfl, rfl, _, rfl, ?_⟩
        have hin : (if true = true then !inV (.str "out") [V.str x, V.str x2] else inV (.str "out") [V.str x, V.str x2]) = (decide (x ≠ ("out" : Str)) && decide (x2 ≠ ("out" : Str))) := by
          rw [if_pos rfl]
          have := in_strs "out" [x, x2]
          rw [show inV (.str "out") [V.str x, V.str x2] = decide (("out" : Str) ∈ [x, x2]) from this]
          by_cases u1 : x = ("out" : Str)
          · simp [u1]
          · by_cases u2 : x2 = ("out" : Str)
            · simp [u2]
            · have n1 : ¬ ("out" : Str) = x := fun z => u1 z.symm
              have n2 : ¬ ("out" : Str) = x2 := fun z => u2 z.symm
              simp [u1, u2, n1, n2]
        rw [hin]
        have hface : faceB S a (some (b, 0)) = (decide (x2 ≠ ("out" : Str)) && decide (x2 ≠ ("def" : Str))) := by
          show (decide ((0:Nat) = 0) && decide (a ≤ b) && decide (headOf S b ≠ _) && decide (headOf S b ≠ _)) = _
          rw [e2, decide_eq_true (show a ≤ b by omega)]
          simp
        rw [hface] at hm
        have hM5 := hM4.same s5
        by_cases c4 : (decide (x ≠ ("out" : Str)) && decide (x2 ≠ ("out" : Str))) = true
        rotate_left
        · refine iteFx (Bool.eq_false_iff.mpr c4) (skip s5 ?_ rfl)
          rw [hm, ← Bool.and_assoc, Bool.eq_false_iff.mpr c4, Bool.false_and]
        refine iteTx c4 ?_
        rw [← Bool.and_assoc, c4, Bool.true_and] at hm
        obtain ⟨t8, sv8, hg8, hT8, hd8⟩ := hM5.row hl2
        obtain ⟨t9, xs9, rfl, hT9, hx9⟩ := da_first hd8
        refine ⟨_, rfl, m, _, rfl, hM5.gA, _, rfl, t2, _, 0, _, rfl, rfl, SqT.of (s5 _ _ ht2), at_zero, M, _, rfl, hg8, t8, _, 0, _, rfl, rfl, hT8, at_zero, t9, _, 0, _, rfl, rfl, hT9, at_zero, rfl, _, rfl, ?_⟩
        by_cases c5 : x2 = ("def" : Str)
        · refine iteFx (by rw [decide_eq_true (congrArg V.str c5)]; rfl) (skip s5 ?_ rfl)
          rw [hm, decide_eq_false (fun z => z c5)]
        · refine iteTx (by rw [decide_eq_false (fun z => c5 (V.str.inj z))]; rfl) ?_
          refine ⟨_, rfl, .inl ⟨rfl, ty s5⟩, _, rfl, _, rfl, t2, _, 0, _, rfl, rfl, SqT.of (s5 _ _ ht2), at_zero, le_line (by show 2 ≤ 16000000; decide), fun t5 ht5 => ?_⟩
          exact tell s5 ht5 (by rw [hm, decide_eq_true c5]) (by
            have em : movN S a = [a, b] := (if_neg (by rw [e1]; exact c)).trans (by rw [z1]; rfl)
            rw [em]
            rfl) rfl
    · rintro σ H2 ⟨us, v2, v3, v4, rfl, g1, p1, l1, sH, gq⟩
      rw [List.length_map, List.length_map] at l1 p1
      have p1 : MvL H2 S us (mvs S) := by
        rw [List.take_length] at p1
        exact p1
      refine ⟨_, rfl, L, us, (mvs S).map (fun a : Nat => (a : Int)), rfl, SqL.of g1, by omega, mvl_fst p1, mvs_inc ok, fun p hp => ?_⟩
      have s3 := same_new hp (o := .lst us)
      exact k p us _ upd_same (p1.same s3) (sH.trans s3)
end

section
variable {P : Program} {w : World} {K : PySem.W.Frag} {mg : Str → Option Value} {base : Heap} {C : Addr}
theorem ok_estate (D : DefAt K mg "_law_e_state" s_law_e_state ["_law_net"]) (R : NetC K C) (T : Bl mg) (M_Net_numbers : MethOk P w K mg base 1 C "numbers" ["self"] (spNumN K C)) (M_Net_symbol_of : MethOk P w K mg base 4 C "symbol_of" ["self", "agent"] (spSymN K C)) (M_Net_lower_of : MethOk P w K mg base 4 C "lower_of" ["self", "agent"] (spLowN K C)) (M_Net_end_of : MethOk P w K mg base 5 C "end_of" ["self", "port"] (spEndN K C)) : CallOk P w K mg base 6 "_law_e_state" ["_law_net"] (spEStateK K C) := by
  refine D.ok sc_law_e_state (fun vs H Q E h => ?_) (fun f cdv A outer s H vs Q E hr h => ?_)
  · obtain ⟨n, r, e, S, rfl, _⟩ := h
    rfl
  · obtain ⟨n, r, e, S, rfl, hN, hK, hnx, k⟩ := h
    refine ⟨_, (pss_cons (ps_set (i := 1) sc_law_e_state.nd rfl (Or.inl rfl) (pe_lst pa_nil))
        (pss_cons (ps_for PassesOwn.never rfl (pi_list (pe_methOk0 M_Net_numbers R.cl hr (by omega) (pv 0))) (pg_name (i := 2) sc_law_e_state.nd rfl (Or.inr rfl) (by first | exact .inl rfl | exact .inr rfl)) (pss_cons (ps_expr (pe_bm PySem.F.plainAttrs_list PySem.F.slot_list_append PySem.F.type_list_append mt_append (pv 1) (pa_cons (pe_tup (pa_cons (pv 2) (pa_cons (pe_methOk M_Net_symbol_of R.cl hr (by omega) (pv 0) (pa_cons (pv 2) pa_nil)) pa_nil))) pa_nil)))
        (pss_one (ps_expr (pe_bm PySem.F.plainAttrs_list PySem.F.slot_list_extend PySem.F.type_list_extend mt_extend (pv 1) (pa_cons (pe_lc (own := [("_law_place", 3)]) (g := gName 3) (tt := tYes) rfl sc_law_e_state.nd (pi_range1 (by rfl) T.range_ (pa_cons (pe_op opAdd (pe_methOk M_Net_lower_of R.cl hr (by omega) (pv 0) (pa_cons (pv 2) pa_nil)) pe_int) pa_nil)) (blkOk_by (N := sl_law_e_state) (sc := defScope s_law_e_state) (by decide +kernel)) (fun _ _ _ _ _ => pg_name (i := 3) sc_law_e_state.nd rfl (Or.inl rfl)) (fun _ _ _ _ _ => pts_nil) (fun _ _ _ _ _ => (pe_methOk M_Net_end_of R.cl hr (by omega) (pv 0) (pa_cons (pe_tup (pa_cons (pv 2) (pa_cons (pv 3) pa_nil))) pa_nil)))) pa_nil))))))
        (pss_one (ps_ret (pv 1))))), ?_⟩
    have hfew := hK.few hnx
    have ok := hN.ok
    obtain ⟨dx, h1⟩ := hN.ob
    refine ⟨Nat.zero_le _, fun L nL => ?_⟩
    have s1 := same_new nL (o := .lst [])
    refine ⟨_, rfl, n, dx, _, rfl, s1 _ _ h1, no3 (by decide +kernel), n, r, e, S, rfl, hN.same s1, fun q hq => ⟨q, rfl, ⟨_, SqL.of upd_same⟩, ?_⟩⟩
    have s2 := same_new hq (o := .lst (S.rows.map fun x => V.int (x.1 : Int)))
    have eL : upd (upd H L (.lst [])) q (.lst (S.rows.map fun x => V.int (x.1 : Int))) L = some (.lst []) := s2 _ _ upd_same
    have qL : q ≠ L := (ne_of_none (upd_same : upd H L (.lst []) L = _) hq).symm
    refine for_list (xs := S.rows.map fun x => V.int (x.1 : Int)) (fun i σ H' => ∃ (us : List V) (v2 v3 : Option V), σ = [some (.ref n), some (.ref L), v2, v3] ∧ H' L = some (.lst us) ∧ DaAll K All H' us ((S.rows.take i).flatMap (rowSt S)) ∧ us.length ≤ 5 * i ∧ Same H H' ∧ H' q = some (.lst (S.rows.map fun x => V.int (x.1 : Int))))
      ⟨[], none, none, rfl, eL, .nil, Nat.zero_le _, s1.trans s2, upd_same⟩ (fun i σ H' _ p => ?_) ?_ ?_
    · obtain ⟨_, _, _, _, _, _, _, _, p⟩ := p
      exact SqL.of p
    · rintro i v σ H2 hx ⟨us, v2, v3, rfl, g1, p1, l1, sH, gq⟩
      rw [List.getElem?_map] at hx
      obtain ⟨⟨a, sym, low⟩, hr0, rfl⟩ := Option.map_eq_some_iff.mp hx
      have hi : i < S.rows.length := (List.getElem?_eq_some_iff.mp hr0).1
      have hla : lk S.rows a = some (sym, low) := ok.at (List.mem_of_getElem? hr0)
      have hlo := hK.lo _ (List.mem_of_getElem? hr0)
      have hlo : low ≤ 3 := hlo
      have nx : (S.rows.take (i + 1)).flatMap (rowSt S) = (S.rows.take i).flatMap (rowSt S) ++ rowSt S (a, sym, low) := by
        rw [List.take_add_one, hr0, List.flatMap_append]
        show _ ++ ([(a, sym, low)].flatMap (rowSt S)) = _
        rw [List.flatMap_cons, List.flatMap_nil, List.append_nil]
      refine ⟨_, rfl, .inl ⟨rfl, _, SqL.of g1⟩, _, rfl, _, rfl, n, dx, _, rfl, sH _ _ h1, no3 (by decide +kernel), _, rfl, n, r, e, S, a, sym, low, rfl, hN.same sH, hla, fun v hv => ⟨le_line (by show 2 ≤ 16000000; decide), fun t ht => ?_⟩⟩
      have s3 := same_new ht (o := .tup [.int (a : Int), v])
      have g3 := s3 _ _ g1
      refine ⟨L, _, _, rfl, rfl, g3, lt_line (by omega), ?_⟩
      have dt : Da K All (upd H2 t (.tup [.int (a : Int), v])) (.ref t) (.tuple [.int (a : Int), sym]) := .tup (SqT.of upd_same) (.cons (.int _) (.cons (hv.same s3) .nil))
      have d3 := (p1.same s3).append (.cons dt .nil)
      have d4 := da_puts d3 g3 (u' := us ++ [.ref t])
      have sH4 : Same H (upd (upd H2 t (.tup [.int (a : Int), v])) L (.lst (us ++ [.ref t]))) := Same.mut (sH.trans s3) nL
      have e4 : upd (upd H2 t (.tup [.int (a : Int), v])) L (.lst (us ++ [.ref t])) L = some (.lst (us ++ [.ref t])) := upd_same
      have gq4 : upd (upd H2 t (.tup [.int (a : Int), v])) L (.lst (us ++ [.ref t])) q = some (.lst (S.rows.map fun x => V.int (x.1 : Int))) := by
        rw [upd_ne qL]
        exact s3 _ _ gq
      generalize upd (upd H2 t (.tup [.int (a : Int), v])) L (.lst (us ++ [.ref t])) = H4 at d4 sH4 e4 gq4
      refine ⟨_, rfl, .inl ⟨rfl, _, SqL.of e4⟩, _, rfl, n, dx, _, rfl, sH4 _ _ h1, no3 (by decide +kernel), _, rfl, n, r, e, S, a, sym, low, rfl, hN.same sH4, hla, .inl ⟨_, _, rfl, rfl, _, rfl, by omega, by omega, fun D hD => ?_⟩⟩
      refine lc_range (lo := 0) (n := ((low : Int) + 1).toNat) (fun j H' => ∃ vs, H' D = some (.lst vs) ∧ DaAll K All H' vs ((List.range j).map fun p => endD S (a, p)) ∧ vs.length ≤ j ∧ Same H4 H') ⟨[], upd_same, .nil, Nat.zero_le _, same_new hD⟩ ?_ ?_
      · rintro j H5 hj ⟨vs, e5, d5, l5, s5⟩
        rw [show (0 : Int) + (j : Int) = (j : Int) by omega]
        have hp : S.port (a, j) := ⟨sym, low, hla, by show j ≤ low; omega⟩
        have nj : (List.range (j + 1)).map (fun p => endD S (a, p)) = (List.range j).map (fun p => endD S (a, p)) ++ [endD S (a, j)] := by
          rw [List.range_succ, List.map_append]
          rfl
        refine ⟨rfl, ?_⟩
        simp only [tYes, if_true]
        have sH5 := sH4.trans s5
        refine ⟨_, rfl, n, dx, _, rfl, sH5 _ _ h1, no3 (by decide +kernel), _, rfl, _, rfl, le_line (by show 2 ≤ 16000000; decide), fun q1 hq1 => ?_⟩
        have s6 := same_new hq1 (o := .tup (ptV (a, j)))
        have e6 := s6 _ _ e5
        refine ⟨n, r, e, q1, S, (a, j), rfl, hN.same (sH5.trans s6), upd_same, hp, fun l => ?_, fun y t2 l ht2 => ?_⟩
        · refine ⟨_, e6, lt_line (by omega), _, upd_same, ?_, by rw [List.length_append, List.length_singleton]; omega, Same.mut (s5.trans s6) hD⟩
          rw [nj]
          have he : endD S (a, j) = .none := by
            unfold endD
            rw [l]
          rw [he]
          exact da_puts ((d5.same s6).append (.cons .non .nil)) e6
        · refine ⟨_, e6, lt_line (by omega), _, upd_same, ?_, by rw [List.length_append, List.length_singleton]; omega, Same.mut (s5.trans s6) hD⟩
          rw [nj]
          have he : endD S (a, j) = ptD y := by
            unfold endD
            rw [l]
          rw [he]
          exact da_puts ((d5.same s6).append (.cons (pt_da ht2) .nil)) e6
      · rintro H5 ⟨vs, e5, d5, l5, s5⟩
        have e45 := s5 _ _ e4
        refine ⟨L, D, _, vs, rfl, rfl, e45, e5, le_line (by rw [List.length_append, List.length_singleton]; omega), ?_⟩
        refine ⟨_, _, _, rfl, upd_same, ?_, ?_, Same.mut (sH4.trans s5) nL, ?_⟩
        · rw [nx]
          have er : rowSt S (a, sym, low) = [.tuple [.int (a : Int), sym]] ++ (List.range ((low : Int) + 1).toNat).map fun p => endD S (a, p) := by
            unfold rowSt
            rw [show ((low : Int) + 1).toNat = low + 1 by omega]
            rfl
          rw [er, ← List.append_assoc]
          exact da_puts ((d4.same s5).append d5) e45
        · rw [List.length_append, List.length_append, List.length_singleton]
          omega
        · rw [upd_ne qL]
          exact s5 _ _ gq4
    · rintro σ H2 ⟨us, v2, v3, rfl, g1, p1, l1, sH, gq⟩
      rw [List.length_map, List.take_length] at p1
      exact ⟨_, rfl, k L us H2 g1 p1 sH nL⟩
theorem ok_eright (D : DefAt K mg "_law_e_right" s_law_e_right ["_law_net", "_law_model"]) (R : NetC K C) (T : Bl mg) (C_law_e_state : CallOk P w K mg base 6 "_law_e_state" ["_law_net"] (spEStateK K C)) (C_moves : CallOk P w K mg base 7 "moves" ["net"] (spMoves2 K C)) (C_law_e_due : CallOk P w K mg base 1 "_law_e_due" ["_law_model"] (spEDueK K C)) : CallG P w K mg base 8 "_law_e_right" ["_law_net", "_law_model"] (spERightK K C) := by
  refine D.okG sc_law_e_right (fun vs H Q E h => ?_) (fun f cdv A outer s H vs Q E hg hr h => ?_)
  · obtain ⟨n, r, e, m, A, E0, S, rfl, _⟩ := h
    rfl
  · obtain ⟨n, r, e, m, M, E0, S, rfl, hM, hK, hnx, k⟩ := h
    refine ⟨_, (pss_cons (ps_set (i := 2) sc_law_e_right.nd rfl (Or.inl rfl) (pe_callOk C_law_e_state hr (by omega) (by rfl) (pa_cons (pv 0) pa_nil)))
        (pss_cons (ps_for PassesOwn.never rfl (pi_range1 (by rfl) T.range_ (pa_cons pe_int pa_nil)) (pg_name (i := 3) sc_law_e_right.nd rfl (Or.inl rfl) (by first | exact .inl rfl | exact .inr rfl)) (pss_cons (ps_set (i := 4) sc_law_e_right.nd rfl (Or.inl rfl) (pe_callOk C_moves hr (by omega) (by rfl) (pa_cons (pv 0) pa_nil)))
        (pss_cons (ps_if (PW.pt (pw_or (pt_cmpR op_ne (pe_callB (call_reprD hg) (by rfl) T.repr_ (by decide +kernel) (pa_cons (pv 4) pa_nil)) (pe_callB (call_reprD hg) (by rfl) T.repr_ (by decide +kernel) (pa_cons (pe_callOk C_law_e_due hr (by omega) (by rfl) (pa_cons (pv 1) pa_nil)) pa_nil)) (nomark _)) (pw_or1 (pt_cmpR (op_neD hr.units) (pe_callOk C_law_e_state hr (by omega) (by rfl) (pa_cons (pv 0) pa_nil)) (pv 2) (nomark _))))) (pss_one (ps_ret pe_bl)) pss_nil)
        (pss_one (ps_expr (pe_bm PySem.F.plainAttrs_list PySem.F.slot_list_append PySem.F.type_list_append mt_append (pv 4) (pa_cons pe_non pa_nil)))))))
        (pss_one (ps_ret pe_bl)))), ?_⟩
    have hSy := hK.syOk (by omega)
    have hsh := stD_sh hK
    have hfit := mvs_fit hK hnx hM.N.ok
    have un : _ + 151 < cLine := room_un (k := 7) hr.un
    refine ⟨_, rfl, n, r, e, S, rfl, hM.N, hK, hnx, fun Ls us H1 e1 d1 s1 nLs => ?_⟩
    refine ⟨2, rfl, by decide, by decide, for_range (lo := 0) (n := 2) (fun i σ H' => ∃ (v3 v4 : Option V), σ = [some (.ref n), some (.ref m), some (.ref Ls), v3, v4] ∧ H' Ls = some (.lst us) ∧ DaAll K All H' us (stD S) ∧ Same H H') ⟨none, none, rfl, e1, d1, s1⟩ ?_ ?_⟩
    · rintro i σ H2 hi ⟨v3, v4, rfl, e2, d2, s2⟩
      have hM2 := hM.same s2
      refine ⟨_, rfl, n, r, e, S, rfl, hM2.N, hSy, fun L ws H3 e3 nL m3 s3 => ?_⟩
      have hM3 := hM2.same s3
      refine ⟨_, rfl, _, .ref L, mvsD S, 100000, rfl, mvl_da m3 e3, hfit, by decide, un, ?_⟩
      refine ⟨_, rfl, n, r, e, m, M, E0, S, rfl, hM3, hK, hnx, fun L4 ws4 H4 e4 m4 s4 => ⟨_, .ref L4, mvsD S, 100000, rfl, mvl_da m4 e4, hfit, by decide, un, ?_⟩⟩
      have hM4 := hM3.same s4
      refine ⟨rfl, _, rfl, iteFx (by rw [decide_eq_true rfl]; rfl) ?_⟩
      refine ⟨_, rfl, n, r, e, S, rfl, hM4.N, hK, hnx, fun L5 us5 H5 e5 d5 s5 nL5 => ?_⟩
      have s25 := (s3.trans s4).trans s5
      have e25 := s25 _ _ e2
      have d25 := d2.same s25
      have hc : PyData.canLayAll0 (stD S) = true := by
        have := hsh.c
        simpa only [PyData.canLay0] using this
      refine ⟨_, rfl, .list (stD S), .list (stD S), .lst (SqL.of e5) (da_dps _ _ hc d5), .lst (SqL.of e25) (da_dps _ _ hc d25), hsh.shaped (by decide), hsh.shaped (by decide), _, rfl, ?_⟩
      rw [eqv_self _ hsh.c]
      refine iteFx rfl ?_
      have e35 := (s4.trans s5) _ _ e3
      have hlw : ws.length ≤ 13 := by
        rw [AP.length m3]
        refine Nat.le_trans (List.length_filter_le ..) ?_
        rw [List.length_map]
        exact hK.few hnx
      refine ⟨_, rfl, .inl ⟨rfl, _, SqL.of e35⟩, L, ws, _, rfl, rfl, e35, lt_line (by omega), ?_⟩
      have ne : Ls ≠ L := ne_of_none e2 nL
      exact ⟨_, _, rfl, by rw [upd_ne ne]; exact e25, da_puts d25 e35, Same.mut (s2.trans s25) (s2.free nL)⟩
    · rintro σ H2 ⟨v3, v4, rfl, e2, d2, s2⟩
      exact k H2 s2
end

section
variable {P : Program} {w : World} {K : PySem.W.Frag} {mg : Str → Option Value} {base : Heap} {C : Addr}
theorem ok_law25 {fL : Addr} {fdL : FuncData} (F : Fun K "law" "law" s_law fL fdL) (R : NetC K C) (T : Bl mg) {fI : Addr} {fdI : FuncData}
    (g_Net : mg "Net" = some (.ref C)) (M_Net : L2.Mk K C fI) (F_Net : FnOk P w K mg base CX0 1 fI fdI ["self"] (spNetInit K C)) (B_Net : L2.Binds K fdI ["self"] [])
    (C_law_e_pen : CallOk P w K mg base 1 "_law_e_pen" ["_law_script"] (spPenE K)) (C_law_e_take : CallOk P w K mg base 2 "_law_e_take" ["_law_pen", "_law_many"] spTakeE)
    (C_law_e_put : CallOk P w K mg base 4 "_law_e_put" ["_law_pen", "_law_net", "_law_model"] (spEPutK K C)) (C_law_e_tie : CallOk P w K mg base 6 "_law_e_tie" ["_law_pen", "_law_net", "_law_model"] (spETieK K C)) (C_law_e_away : CallOk P w K mg base 6 "_law_e_away" ["_law_pen", "_law_net", "_law_model"] (spEAwayK K C)) (C_law_e_right : CallG P w K mg base 8 "_law_e_right" ["_law_net", "_law_model"] (spERightK K C)) :
    FnG P w K mg base 12 fL fdL ["_law_script"] (spLaw K) := by
  refine Fun.okG F sc_law (fun vs H Q E h => ?_) (fun cdv A outer s H vs Q E hg hr h => ?_)
  · obtain ⟨a, ns, rfl, _⟩ := h
    rfl
  · obtain ⟨a, ns, rfl, hS, hl, k⟩ := h
    refine ⟨_, (pss_cons (ps_set (i := 1) sc_law.nd rfl (Or.inl rfl) (pe_callOk C_law_e_pen hr (by omega) (by rfl) (pa_cons (pv 0) pa_nil)))
        (pss_cons (ps_for PassesOwn.never rfl (pi_range1 (by rfl) T.range_ (pa_cons pe_int pa_nil)) (pg_name (i := 2) sc_law.nd rfl (Or.inl rfl) (by first | exact .inl rfl | exact .inr rfl)) (Evl.pss_cut (ps_par (i := 3) (j := 4) (by rfl) sc_law.nd rfl rfl (by decide) rfl rfl (pa_cons (pe_make0 M_Net F_Net (hr.mono (by omega)) (by rfl) g_Net B_Net .nil pass0) (pa_cons (pe_disp (pps_cons pe_str pe_dnewK (pps_cons pe_str pe_dnewT pps_nil)) (by rfl) (by rfl) (fun z => by cases z) (by decide)) pa_nil)) (by rfl))
        (Evl.pss_cut (ps_for PassesOwn.never rfl (pi_range1 (by rfl) T.range_ (pa_cons (pe_callOk C_law_e_take hr (by omega) (by rfl) (pa_cons (pv 1) (pa_cons pe_int pa_nil))) pa_nil)) (pg_name (i := 5) sc_law.nd rfl (Or.inl rfl) (by first | exact .inl rfl | exact .inr rfl)) (pss_one (ps_expr (pe_callOk C_law_e_put hr (by omega) (by rfl) (pa_cons (pv 1) (pa_cons (pv 3) (pa_cons (pv 4) pa_nil)))))))
        (Evl.pss_cut (ps_for PassesOwn.never rfl (pi_range1 (by rfl) T.range_ (pa_cons (pe_callOk C_law_e_take hr (by omega) (by rfl) (pa_cons (pv 1) (pa_cons pe_int pa_nil))) pa_nil)) (pg_name (i := 5) sc_law.nd rfl (Or.inl rfl) (by first | exact .inl rfl | exact .inr rfl)) (pss_one (ps_expr (pe_callOk C_law_e_tie hr (by omega) (by rfl) (pa_cons (pv 1) (pa_cons (pv 3) (pa_cons (pv 4) pa_nil)))))))
        (Evl.pss_cut (ps_if (pt_not (pt_val (pe_callG hg C_law_e_right hr (by omega) (by rfl) (pa_cons (pv 3) (pa_cons (pv 4) pa_nil))))) (pss_one (ps_ret pe_bl)) pss_nil)
        (Evl.pss_cut (ps_expr (pe_callOk C_law_e_away hr (by omega) (by rfl) (pa_cons (pv 1) (pa_cons (pv 3) (pa_cons (pv 4) pa_nil)))))
        (Evl.pss_cut (ps_if (pt_not (pt_val (pe_callG hg C_law_e_right hr (by omega) (by rfl) (pa_cons (pv 3) (pa_cons (pv 4) pa_nil))))) (pss_one (ps_ret pe_bl)) pss_nil)
        (Evl.pss_cut (ps_expr (pe_callOk C_law_e_put hr (by omega) (by rfl) (pa_cons (pv 1) (pa_cons (pv 3) (pa_cons (pv 4) pa_nil)))))
        (Evl.pss_cut (ps_expr (pe_callOk C_law_e_tie hr (by omega) (by rfl) (pa_cons (pv 1) (pa_cons (pv 3) (pa_cons (pv 4) pa_nil)))))
        (pss_one (ps_if (pt_not (pt_val (pe_callG hg C_law_e_right hr (by omega) (by rfl) (pa_cons (pv 3) (pa_cons (pv 4) pa_nil))))) (pss_one (ps_ret pe_bl)) pss_nil)))))))))))
        (pss_one (ps_ret pe_bl)))), ?_⟩
    refine ⟨_, rfl, a, ns, rfl, hS, hl, fun p c H0 hP0 s0 _ _ => ?_⟩
    refine ⟨6, rfl, by decide, by decide, for_range (lo := 0) (n := 6) (fun i σ H' => ∃ (z : Nat) (v2 v3 v4 v5 : Option V), σ = [some (.ref a), some (.ref p), v2, v3, v4, v5] ∧ PenE H' p c z ∧ z ≤ 200 * i) ⟨0, none, none, none, none, rfl, hP0, Nat.zero_le _⟩ ?_ ?_⟩
    · rintro i σ H1 hi ⟨z, v2, v3, v4, v5, rfl, hP1, hz1⟩
      -- a new net, and its model
      refine ⟨fun σ H' => ∃ (n r e m M E0 : Addr), σ = [some (.ref a), some (.ref p), some (.int (0 + (i : Int))), some (.ref n), some (.ref m), v5] ∧ PenE H' p c z ∧ Mod K C H' n r e m M E0 ⟨[], [], 0⟩, ?_, ?_⟩
      · refine fun n dx nn nd ne => ⟨n, dx, rfl, upd_same, fun r e H2 hN k1 nr nE => ?_⟩
        have s1 : Same H1 H2 := fun b o q => k1 b o (by rw [upd_ne (ne_of_none q nn), upd_ne (ne_of_none q nd)]; exact q) (fun z => ne_of_none q nn (List.mem_singleton.mp z))
        have hP2 := hP1.same s1
        refine ⟨rfl, fun m nm M nM E0 nE0 => ⟨?_, [(.inr ("agents" : Str), .ref M), (.inr ("ends" : Str), .ref E0)], rfl, by show 2 ≤ 15; decide, ?_⟩⟩
        · have a1 := same_new nE0 (o := .dT []) _ _ (same_new nM (o := .dK []) _ _ (upd_same (H := H2) (a := m) (o := .dK [])))
          exact a1
        rw [modMerge]
        have sm := same_new nm (o := .dK [])
        have sM := same_new nM (o := .dK [])
        have sE := same_new nE0 (o := .dT [])
        have sA : Same H2 (upd (upd (upd (upd H2 m (.dK [])) M (.dK [])) E0 (.dT [])) m (.dK (modV M E0))) := Same.mut (sm.trans (sM.trans sE)) nm
        have mM : m ≠ M := ne_of_none (upd_same : upd H2 m (.dK []) m = _) nM
        have mE : m ≠ E0 := ne_of_none (sM _ _ (upd_same : upd H2 m (.dK []) m = _)) nE0
        have ME : M ≠ E0 := ne_of_none (upd_same : upd (upd H2 m (.dK [])) M (.dK []) M = _) nE0
        obtain ⟨_, ⟨kr, hr2, _⟩, ⟨ke, he2, _⟩, _⟩ := id hN
        refine ⟨_, _, rfl, n, r, e, m, M, E0, rfl, hP2.same sA, hN.same sA, upd_same, ⟨[], ?_, .nil⟩, ⟨[], ?_, .nil⟩, ne_of_none (sm _ _ hr2) nM, ne_of_none hr2 nm, ne_of_none (sM _ _ (sm _ _ he2)) nE0, mM⟩
        · rw [upd_ne mM.symm, upd_ne ME]
          exact upd_same
        · rw [upd_ne mE.symm]
          exact upd_same
      rintro σ H2 ⟨n, r, e, m, M, E0, rfl, hP2, hM2⟩
      -- put
      refine ⟨fun σ H' => ∃ (S : NetS) (v6 : Option V) (z' : Nat), σ = [some (.ref a), some (.ref p), some (.int (0 + (i : Int))), some (.ref n), some (.ref m), v6] ∧ PenE H' p c z' ∧ z' ≤ z + 25 ∧ Mod K C H' n r e m M E0 S ∧ NetK S ∧ S.next ≤ 12 ∧ S.ends = [], ?_, ?_⟩
      · refine ⟨_, rfl, p, c, z, 13, rfl, hP2, by omega, by decide, by decide, fun j z1 H3 j0 j1 hP3 hz3 k3 => ⟨j, rfl, by omega, by omega, ?_⟩⟩
        refine for_range (lo := 0) (n := j.toNat) (fun t σ H' => ∃ (S : NetS) (v6 : Option V) (z' : Nat), σ = [some (.ref a), some (.ref p), some (.int (0 + (i : Int))), some (.ref n), some (.ref m), v6] ∧ PenE H' p c z' ∧ z' ≤ z + 1 + 2 * t ∧ Mod K C H' n r e m M E0 S ∧ NetK S ∧ S.next = t ∧ S.ends = []) ⟨_, _, z1, rfl, hP3, by omega, hM2.pen hP2 k3, .fresh, rfl, rfl⟩ ?_ ?_
        · rintro t σ H4 ht ⟨S, v6, z', rfl, hP4, hz4, hM4, hK4, hn4, he4⟩
          refine ⟨_, rfl, _, rfl, _, rfl, p, c, n, r, e, m, M, E0, S, z', rfl, hP4, by omega, hM4, hK4, by omega, fun sym low z2 H5 hsy hlo hP5 hz5 hM5 => ?_⟩
          exact ⟨_, _, z2, rfl, hP5, by omega, hM5, hK4.put hsy hlo, by show S.next + 1 = t + 1; rw [hn4], he4⟩
        · rintro σ H4 ⟨S, v6, z', rfl, hP4, hz4, hM4, hK4, hn4, he4⟩
          exact ⟨S, v6, z', rfl, hP4, by omega, hM4, hK4, by omega, he4⟩
      rintro σ H3 ⟨S3, v6, z3, rfl, hP3, hz3, hM3, hK3, hn3, he3⟩
      clear hP2 hM2
      -- tied
      refine ⟨fun σ H' => ∃ (S : NetS) (v6 : Option V) (z' : Nat), σ = [some (.ref a), some (.ref p), some (.int (0 + (i : Int))), some (.ref n), some (.ref m), v6] ∧ PenE H' p c z' ∧ z' ≤ z + 102 ∧ Mod K C H' n r e m M E0 S ∧ NetK S ∧ S.next ≤ 12 ∧ S.ends.length ≤ 100, ?_, ?_⟩
      · refine ⟨_, rfl, p, c, z3, 20, rfl, hP3, by omega, by decide, by decide, fun j z1 H4 j0 j1 hP4 hz4 k4 => ⟨j, rfl, by omega, by omega, ?_⟩⟩
        refine for_range (lo := 0) (n := j.toNat) (fun t σ H' => ∃ (S : NetS) (v6 : Option V) (z' : Nat), σ = [some (.ref a), some (.ref p), some (.int (0 + (i : Int))), some (.ref n), some (.ref m), v6] ∧ PenE H' p c z' ∧ z' ≤ z + 26 + 4 * t ∧ Mod K C H' n r e m M E0 S ∧ NetK S ∧ S.next ≤ 12 ∧ S.ends.length ≤ 2 * t) ⟨S3, _, z1, rfl, hP4, by omega, hM3.pen hP3 k4, hK3, hn3, by rw [he3]; exact Nat.zero_le _⟩ ?_ ?_
        · rintro t σ H5 ht ⟨S, v6, z', rfl, hP5, hz5, hM5, hK5, hn5, he5⟩
          refine ⟨_, rfl, _, rfl, _, rfl, p, c, n, r, e, m, M, E0, S, z', rfl, hP5, by omega, hM5, hK5, by omega, by omega, fun S' z2 H6 hP6 hz6 hM6 hK6 hn6 he6 => ?_⟩
          exact ⟨S', _, z2, rfl, hP6, by omega, hM6, hK6, by omega, by omega⟩
        · rintro σ H5 ⟨S, v6, z', rfl, hP5, hz5, hM5, hK5, hn5, he5⟩
          exact ⟨S, v6, z', rfl, hP5, by omega, hM5, hK5, hn5, by omega⟩
      rintro σ H4 ⟨S4, v7, z4, rfl, hP4, hz4, hM4, hK4, hn4, he4⟩
      clear hP3 hM3
      refine ⟨fun σ H' => σ = [some (.ref a), some (.ref p), some (.int (0 + (i : Int))), some (.ref n), some (.ref m), v7] ∧ PenE H' p c z4 ∧ Mod K C H' n r e m M E0 S4, ?_, ?_⟩
      · exact ⟨_, rfl, _, rfl, n, r, e, m, M, E0, S4, rfl, hM4, hK4, by omega, fun H5 s5 => ⟨_, rfl, iteFx rfl ⟨rfl, hP4.same s5, hM4.same s5⟩⟩⟩
      rintro σ H5 ⟨rfl, hP5, hM5⟩
      clear hP4 hM4
      -- one away
      refine ⟨fun σ H' => ∃ (S : NetS) (E1 : Addr) (z' : Nat), σ = [some (.ref a), some (.ref p), some (.int (0 + (i : Int))), some (.ref n), some (.ref m), v7] ∧ PenE H' p c z' ∧ z' ≤ z + 103 ∧ Mod K C H' n r e m M E1 S ∧ NetK S ∧ S.next ≤ 12 ∧ S.ends.length ≤ 100, ?_, ?_⟩
      · exact ⟨_, rfl, _, rfl, _, rfl, p, c, n, r, e, m, M, E0, S4, z4, rfl, hP5, by omega, hM5, hK4, by omega, by omega, fun S' E1 z2 H6 hP6 hz6 hM6 hK6 hn6 he6 => ⟨S', E1, z2, rfl, hP6, by omega, hM6, hK6, by omega, by omega⟩⟩
      rintro σ H6 ⟨S6, E1, z6, rfl, hP6, hz6, hM6, hK6, hn6, he6⟩
      clear hP5 hM5
      refine ⟨fun σ H' => σ = [some (.ref a), some (.ref p), some (.int (0 + (i : Int))), some (.ref n), some (.ref m), v7] ∧ PenE H' p c z6 ∧ Mod K C H' n r e m M E1 S6, ?_, ?_⟩
      · exact ⟨_, rfl, _, rfl, n, r, e, m, M, E1, S6, rfl, hM6, hK6, by omega, fun H5 s5 => ⟨_, rfl, iteFx rfl ⟨rfl, hP6.same s5, hM6.same s5⟩⟩⟩
      rintro σ H7 ⟨rfl, hP7, hM7⟩
      clear hP6 hM6
      refine ⟨fun σ H' => ∃ (S : NetS) (z' : Nat), σ = [some (.ref a), some (.ref p), some (.int (0 + (i : Int))), some (.ref n), some (.ref m), v7] ∧ PenE H' p c z' ∧ z' ≤ z + 105 ∧ Mod K C H' n r e m M E1 S ∧ NetK S ∧ S.next ≤ 13 ∧ S.ends.length ≤ 100, ?_, ?_⟩
      · exact ⟨_, rfl, _, rfl, _, rfl, p, c, n, r, e, m, M, E1, S6, z6, rfl, hP7, by omega, hM7, hK6, by omega, fun sym low z2 H8 hsy hlo hP8 hz8 hM8 => ⟨_, z2, rfl, hP8, by omega, hM8, hK6.put hsy hlo, Nat.succ_le_succ hn6, he6⟩⟩
      rintro σ H8 ⟨S8, z8, rfl, hP8, hz8, hM8, hK8, hn8, he8⟩
      clear hP7 hM7
      refine ⟨fun σ H' => ∃ (S : NetS) (z' : Nat), σ = [some (.ref a), some (.ref p), some (.int (0 + (i : Int))), some (.ref n), some (.ref m), v7] ∧ PenE H' p c z' ∧ z' ≤ z + 109 ∧ Mod K C H' n r e m M E1 S ∧ NetK S ∧ S.next ≤ 13, ?_, ?_⟩
      · exact ⟨_, rfl, _, rfl, _, rfl, p, c, n, r, e, m, M, E1, S8, z8, rfl, hP8, by omega, hM8, hK8, hn8, by omega, fun S' z2 H9 hP9 hz9 hM9 hK9 hn9 he9 => ⟨S', z2, rfl, hP9, by omega, hM9, hK9, by omega⟩⟩
      rintro σ H9 ⟨S9, z9, rfl, hP9, hz9, hM9, hK9, hn9⟩
      exact ⟨_, rfl, _, rfl, n, r, e, m, M, E1, S9, rfl, hM9, hK9, hn9, fun H5 s5 => ⟨_, rfl, iteFx rfl ⟨z9, _, _, _, _, rfl, hP9.same s5, by omega⟩⟩⟩
    · rintro σ H1 ⟨z, v2, v3, v4, v5, rfl, hP1, hz1⟩
      exact k H1
end


end Ow
namespace Ow
open PySem PySem.Spec PyProof.Rows L2
theorem put_at {K : PySem.W.Frag} {C f : Addr} {fd : FuncData} {dvs : List V} (m : L2.Meth K C "put" f) (F : L2.FunD K "put" "Net.put" (defArgs s_Net_put) (defBody s_Net_put) (defScope s_Net_put) [.int 0] [("at", .non)] f fd)
    (b : L2.FunD K "put" "Net.put" (defArgs s_Net_put) (defBody s_Net_put) (defScope s_Net_put) [.int 0] [("at", .non)] f fd → ∃ ds, Vals dvs ds ∧ L2.Binds K fd ["self", "symbol", "lower", "at"] ds) : MethDAt K C "put" "Net.put" s_Net_put ["self", "symbol", "lower", "at"] dvs := by
  obtain ⟨ds, h1, h2⟩ := b F
  exact ⟨f, fd, ds, m, ⟨_, _, _, _, _, rfl, rfl, rfl, F⟩, h2, h1⟩
theorem mk25a {K : PySem.W.Frag} {h : Heap} {mg : Str → Option Value} {C fI fM fS fW fE fT fA fL fH fN fO fP fU : Addr} {ocI kVI dcI pmI cdI ctI : Value} {odI anI : Option Addr} {slI : Array (Option Value)} {ocM kVM dcM pmM cdM ctM : Value} {odM anM : Option Addr} {slM : Array (Option Value)} {ocS kVS dcS pmS cdS ctS : Value} {odS anS : Option Addr} {slS : Array (Option Value)} {ocW kVW dcW pmW cdW ctW : Value} {odW anW : Option Addr} {slW : Array (Option Value)} {ocE kVE dcE pmE cdE ctE : Value} {odE anE : Option Addr} {slE : Array (Option Value)} {ocT kVT dcT pmT cdT ctT : Value} {odT anT : Option Addr} {slT : Array (Option Value)} {ocA kVA dcA pmA cdA ctA : Value} {odA anA : Option Addr} {slA : Array (Option Value)} {ocL kVL dcL pmL cdL ctL : Value} {odL anL : Option Addr} {slL : Array (Option Value)} {ocH kVH dcH pmH cdH ctH : Value} {odH anH : Option Addr} {slH : Array (Option Value)} {ocN kVN dcN pmN cdN ctN : Value} {odN anN : Option Addr} {slN : Array (Option Value)} {ocO kVO dcO pmO cdO ctO : Value} {odO anO : Option Addr} {slO : Array (Option Value)} {ocP kVP dcP pmP cdP ctP : Value} {odP anP : Option Addr} {slP : Array (Option Value)} {ocU kVU dcU pmU cdU ctU : Value} {odU anU : Option Addr} {slU : Array (Option Value)} {dVU : Value} (X : K.In h) (G : h.Ns mainGlobals mg)
    (gC : PySem.W.nsIn K mainGlobals (Str.ofString "Net") = some (some (.ref C)))
    (pg : PySem.W.plainGet K C Str.empty = true)
    (hd : PySem.W.hasDictIn K C = true)
    (po : PySem.W.plainOver K C = true)
    (sa : PySem.W.findIn K (.ref C) (Str.ofString "__setattr__") = some (some (.builtin "object.__setattr__")))
    (xR : PySem.W.findIn K (.ref C) (Str.ofString "rows") = some none)
    (xE : PySem.W.findIn K (.ref C) (Str.ofString "ends") = some none)
    (xF : PySem.W.findIn K (.ref C) (Str.ofString "following") = some none)
    (mC : PySem.W.makesIn K C = true)
    (kC : PySem.W.keepIn K (.ref C) = true)
    (aI : PySem.W.findIn K (.ref C) (Str.ofString "__init__") = some (some (.ref fI)))
    (nI : PySem.W.isFn K (.ref fI) = true)
    (kI : PySem.W.keepIn K (.ref fI) = true)
    (lI : K.lookup fI = some ⟨ocI, odI, .func (PySem.W.fnOf "__init__" "Net.__init__" (defArgs s_Net_init) (defBody s_Net_init) (defScope s_Net_init) .none kVI dcI pmI anI cdI ctI), slI⟩)
    (cI : PySem.W.codeIn K cdI "Net.__init__" = true)
    (aM : PySem.W.findIn K (.ref C) (Str.ofString "numbers") = some (some (.ref fM)))
    (nM : PySem.W.isFn K (.ref fM) = true)
    (kM : PySem.W.keepIn K (.ref fM) = true)
    (lM : K.lookup fM = some ⟨ocM, odM, .func (PySem.W.fnOf "numbers" "Net.numbers" (defArgs s_Net_numbers) (defBody s_Net_numbers) (defScope s_Net_numbers) .none kVM dcM pmM anM cdM ctM), slM⟩)
    (cM : PySem.W.codeIn K cdM "Net.numbers" = true)
    (aS : PySem.W.findIn K (.ref C) (Str.ofString "symbol_of") = some (some (.ref fS)))
    (nS : PySem.W.isFn K (.ref fS) = true)
    (kS : PySem.W.keepIn K (.ref fS) = true)
    (lS : K.lookup fS = some ⟨ocS, odS, .func (PySem.W.fnOf "symbol_of" "Net.symbol_of" (defArgs s_Net_symbol_of) (defBody s_Net_symbol_of) (defScope s_Net_symbol_of) .none kVS dcS pmS anS cdS ctS), slS⟩)
    (cS : PySem.W.codeIn K cdS "Net.symbol_of" = true)
    (aW : PySem.W.findIn K (.ref C) (Str.ofString "lower_of") = some (some (.ref fW)))
    (nW : PySem.W.isFn K (.ref fW) = true)
    (kW : PySem.W.keepIn K (.ref fW) = true)
    (lW : K.lookup fW = some ⟨ocW, odW, .func (PySem.W.fnOf "lower_of" "Net.lower_of" (defArgs s_Net_lower_of) (defBody s_Net_lower_of) (defScope s_Net_lower_of) .none kVW dcW pmW anW cdW ctW), slW⟩)
    (cW : PySem.W.codeIn K cdW "Net.lower_of" = true)
    (aE : PySem.W.findIn K (.ref C) (Str.ofString "end_of") = some (some (.ref fE)))
    (nE : PySem.W.isFn K (.ref fE) = true)
    (kE : PySem.W.keepIn K (.ref fE) = true)
    (lE : K.lookup fE = some ⟨ocE, odE, .func (PySem.W.fnOf "end_of" "Net.end_of" (defArgs s_Net_end_of) (defBody s_Net_end_of) (defScope s_Net_end_of) .none kVE dcE pmE anE cdE ctE), slE⟩)
    (cE : PySem.W.codeIn K cdE "Net.end_of" = true)
    (aT : PySem.W.findIn K (.ref C) (Str.ofString "tie") = some (some (.ref fT)))
    (nT : PySem.W.isFn K (.ref fT) = true)
    (kT : PySem.W.keepIn K (.ref fT) = true)
    (lT : K.lookup fT = some ⟨ocT, odT, .func (PySem.W.fnOf "tie" "Net.tie" (defArgs s_Net_tie) (defBody s_Net_tie) (defScope s_Net_tie) .none kVT dcT pmT anT cdT ctT), slT⟩)
    (cT : PySem.W.codeIn K cdT "Net.tie" = true)
    (aA : PySem.W.findIn K (.ref C) (Str.ofString "take_away") = some (some (.ref fA)))
    (nA : PySem.W.isFn K (.ref fA) = true)
    (kA : PySem.W.keepIn K (.ref fA) = true)
    (lA : K.lookup fA = some ⟨ocA, odA, .func (PySem.W.fnOf "take_away" "Net.take_away" (defArgs s_Net_take_away) (defBody s_Net_take_away) (defScope s_Net_take_away) .none kVA dcA pmA anA cdA ctA), slA⟩)
    (cA : PySem.W.codeIn K cdA "Net.take_away" = true)
    (aL : PySem.W.findIn K (.ref C) (Str.ofString "__len__") = some (some (.ref fL)))
    (nL : PySem.W.isFn K (.ref fL) = true)
    (kL : PySem.W.keepIn K (.ref fL) = true)
    (lL : K.lookup fL = some ⟨ocL, odL, .func (PySem.W.fnOf "__len__" "Net.__len__" (defArgs s_Net___len__) (defBody s_Net___len__) (defScope s_Net___len__) .none kVL dcL pmL anL cdL ctL), slL⟩)
    (cL : PySem.W.codeIn K cdL "Net.__len__" = true)
    (aH : PySem.W.findIn K (.ref C) (Str.ofString "has_agent") = some (some (.ref fH)))
    (nH : PySem.W.isFn K (.ref fH) = true)
    (kH : PySem.W.keepIn K (.ref fH) = true)
    (lH : K.lookup fH = some ⟨ocH, odH, .func (PySem.W.fnOf "has_agent" "Net.has_agent" (defArgs s_Net_has_agent) (defBody s_Net_has_agent) (defScope s_Net_has_agent) .none kVH dcH pmH anH cdH ctH), slH⟩)
    (cH : PySem.W.codeIn K cdH "Net.has_agent" = true)
    (aN : PySem.W.findIn K (.ref C) (Str.ofString "need_agent") = some (some (.ref fN)))
    (nN : PySem.W.isFn K (.ref fN) = true)
    (kN : PySem.W.keepIn K (.ref fN) = true)
    (lN : K.lookup fN = some ⟨ocN, odN, .func (PySem.W.fnOf "need_agent" "Net.need_agent" (defArgs s_Net_need_agent) (defBody s_Net_need_agent) (defScope s_Net_need_agent) .none kVN dcN pmN anN cdN ctN), slN⟩)
    (cN : PySem.W.codeIn K cdN "Net.need_agent" = true)
    (aO : PySem.W.findIn K (.ref C) (Str.ofString "has_port") = some (some (.ref fO)))
    (nO : PySem.W.isFn K (.ref fO) = true)
    (kO : PySem.W.keepIn K (.ref fO) = true)
    (lO : K.lookup fO = some ⟨ocO, odO, .func (PySem.W.fnOf "has_port" "Net.has_port" (defArgs s_Net_has_port) (defBody s_Net_has_port) (defScope s_Net_has_port) .none kVO dcO pmO anO cdO ctO), slO⟩)
    (cO : PySem.W.codeIn K cdO "Net.has_port" = true)
    (aP : PySem.W.findIn K (.ref C) (Str.ofString "need_port") = some (some (.ref fP)))
    (nP : PySem.W.isFn K (.ref fP) = true)
    (kP : PySem.W.keepIn K (.ref fP) = true)
    (lP : K.lookup fP = some ⟨ocP, odP, .func (PySem.W.fnOf "need_port" "Net.need_port" (defArgs s_Net_need_port) (defBody s_Net_need_port) (defScope s_Net_need_port) .none kVP dcP pmP anP cdP ctP), slP⟩)
    (cP : PySem.W.codeIn K cdP "Net.need_port" = true)
    (aU : PySem.W.findIn K (.ref C) (Str.ofString "put") = some (some (.ref fU)))
    (nU : PySem.W.isFn K (.ref fU) = true)
    (kU : PySem.W.keepIn K (.ref fU) = true)
    (lU : K.lookup fU = some ⟨ocU, odU, .func (PySem.W.fnOf "put" "Net.put" (defArgs s_Net_put) (defBody s_Net_put) (defScope s_Net_put) dVU kVU dcU pmU anU cdU ctU), slU⟩)
    (cU : PySem.W.codeIn K cdU "Net.put" = true)
    (dU : He.dflB K dVU [.int 0] = true)
    (wU : He.kwdB K kVU [((Str.ofString "at"), .non)] = true) :
    ∃ (C fI : Addr) (fdI : FuncData), NetC K C ∧ mg (Str.ofString "Net") = some (.ref C) ∧ Mk K C fI ∧ Fun K (Str.ofString "__init__") (Str.ofString "Net.__init__") s_Net_init fI fdI ∧ L2.Binds K fdI [(Str.ofString "self")] [] ∧ MethDAt K C (Str.ofString "put") (Str.ofString "Net.put") s_Net_put [(Str.ofString "self"), (Str.ofString "symbol"), (Str.ofString "lower"), (Str.ofString "at")] [.int 0, .non] ∧ MethDAt K C (Str.ofString "put") (Str.ofString "Net.put") s_Net_put [(Str.ofString "self"), (Str.ofString "symbol"), (Str.ofString "lower"), (Str.ofString "at")] [.non] ∧ MethAt K C (Str.ofString "numbers") (Str.ofString "Net.numbers") s_Net_numbers [(Str.ofString "self")] ∧ MethAt K C (Str.ofString "symbol_of") (Str.ofString "Net.symbol_of") s_Net_symbol_of [(Str.ofString "self"), (Str.ofString "agent")] ∧ MethAt K C (Str.ofString "lower_of") (Str.ofString "Net.lower_of") s_Net_lower_of [(Str.ofString "self"), (Str.ofString "agent")] ∧ MethAt K C (Str.ofString "end_of") (Str.ofString "Net.end_of") s_Net_end_of [(Str.ofString "self"), (Str.ofString "port")] ∧ MethAt K C (Str.ofString "tie") (Str.ofString "Net.tie") s_Net_tie [(Str.ofString "self"), (Str.ofString "port"), (Str.ofString "other")] ∧ MethAt K C (Str.ofString "take_away") (Str.ofString "Net.take_away") s_Net_take_away [(Str.ofString "self"), (Str.ofString "agent")] ∧ MethAt K C (Str.ofString "__len__") (Str.ofString "Net.__len__") s_Net___len__ [(Str.ofString "self")] ∧ MethAt K C (Str.ofString "has_agent") (Str.ofString "Net.has_agent") s_Net_has_agent [(Str.ofString "self"), (Str.ofString "thing")] ∧ MethAt K C (Str.ofString "need_agent") (Str.ofString "Net.need_agent") s_Net_need_agent [(Str.ofString "self"), (Str.ofString "thing")] ∧ MethAt K C (Str.ofString "has_port") (Str.ofString "Net.has_port") s_Net_has_port [(Str.ofString "self"), (Str.ofString "thing")] ∧ MethAt K C (Str.ofString "need_port") (Str.ofString "Net.need_port") s_Net_need_port [(Str.ofString "self"), (Str.ofString "thing")] :=
  ⟨C, fI, _, ⟨⟨pg, hd, po, sa⟩, xR, xE, xF⟩,
    PySem.W.mg_of X G gC,
    ⟨mC, aI, nI, kC⟩,
    fun_mk lI cI kI,
    (fun_mk (st := s_Net_init) lI cI kI).binds fun _ _ _ _ _ _ us hl => match us, hl with | [_], _ => rfl,
    put_at ⟨aU, nU, kU⟩ (funD_mk lU cU kU dU wU) put_b2,
    put_at ⟨aU, nU, kU⟩ (funD_mk lU cU kU dU wU) put_b3,
    ⟨fM, _, ⟨aM, nM, kM⟩, fun_mk lM cM kM, (fun_mk (st := s_Net_numbers) lM cM kM).binds fun _ _ _ _ _ _ us hl => match us, hl with | [_], _ => rfl⟩,
    ⟨fS, _, ⟨aS, nS, kS⟩, fun_mk lS cS kS, (fun_mk (st := s_Net_symbol_of) lS cS kS).binds fun _ _ _ _ _ _ us hl => match us, hl with | [_, _], _ => rfl⟩,
    ⟨fW, _, ⟨aW, nW, kW⟩, fun_mk lW cW kW, (fun_mk (st := s_Net_lower_of) lW cW kW).binds fun _ _ _ _ _ _ us hl => match us, hl with | [_, _], _ => rfl⟩,
    ⟨fE, _, ⟨aE, nE, kE⟩, fun_mk lE cE kE, (fun_mk (st := s_Net_end_of) lE cE kE).binds fun _ _ _ _ _ _ us hl => match us, hl with | [_, _], _ => rfl⟩,
    ⟨fT, _, ⟨aT, nT, kT⟩, fun_mk lT cT kT, (fun_mk (st := s_Net_tie) lT cT kT).binds fun _ _ _ _ _ _ us hl => match us, hl with | [_, _, _], _ => rfl⟩,
    ⟨fA, _, ⟨aA, nA, kA⟩, fun_mk lA cA kA, (fun_mk (st := s_Net_take_away) lA cA kA).binds fun _ _ _ _ _ _ us hl => match us, hl with | [_, _], _ => rfl⟩,
    ⟨fL, _, ⟨aL, nL, kL⟩, fun_mk lL cL kL, (fun_mk (st := s_Net___len__) lL cL kL).binds fun _ _ _ _ _ _ us hl => match us, hl with | [_], _ => rfl⟩,
    ⟨fH, _, ⟨aH, nH, kH⟩, fun_mk lH cH kH, (fun_mk (st := s_Net_has_agent) lH cH kH).binds fun _ _ _ _ _ _ us hl => match us, hl with | [_, _], _ => rfl⟩,
    ⟨fN, _, ⟨aN, nN, kN⟩, fun_mk lN cN kN, (fun_mk (st := s_Net_need_agent) lN cN kN).binds fun _ _ _ _ _ _ us hl => match us, hl with | [_, _], _ => rfl⟩,
    ⟨fO, _, ⟨aO, nO, kO⟩, fun_mk lO cO kO, (fun_mk (st := s_Net_has_port) lO cO kO).binds fun _ _ _ _ _ _ us hl => match us, hl with | [_, _], _ => rfl⟩,
    ⟨fP, _, ⟨aP, nP, kP⟩, fun_mk lP cP kP, (fun_mk (st := s_Net_need_port) lP cP kP).binds fun _ _ _ _ _ _ us hl => match us, hl with | [_, _], _ => rfl⟩⟩
theorem mk25b {K : PySem.W.Frag} {h : Heap} {mg : Str → Option Value} {tN : Addr} {odN : Option Addr} {itn : Array Value} {nN : Nat} {slN : Array (Option Value)} (X : K.In h) (G : h.Ns mainGlobals mg)
    (gN : PySem.W.nsIn K mainGlobals (Str.ofString "NO_MEETERS") = some (some (.ref tN)))
    (lN : K.lookup tN = some ⟨.type "tuple", odN, .seq itn nN, slN⟩)
    (zN : itn.size ≤ sizeLine)
    (vN : Vals [.str (Str.ofString "out"), .str (Str.ofString "def")] itn.toList) :
    ∃ (tN : Addr), GV mg (Str.ofString "NO_MEETERS") (.ref tN) ∧ ∀ H, SqT K H tN [.str (Str.ofString "out"), .str (Str.ofString "def")] :=
  ⟨tN, ⟨_, PySem.W.mg_of X G gN, rfl⟩, fun _ => .inr ⟨_, itn, nN, lN, rfl, rfl, zN, vN⟩⟩
end Ow
open PySem PySem.W PyProof.Rows
set_option maxRecDepth 100000 in
set_option maxHeartbeats 0 in
theorem PySem.Challenge.cw_oncewire_k25_moves_holds : PySem.Challenge.rw_oncewire_k25_moves.Holds := by
  w_on; o_law; k_head; (case hw => w_witness2)
  k_fill
  refine Ow.walkG (l := PySem.Challenge.rw_oncewire_k25_moves) (n := 63) (k := 12) (x := Str.ofString "_law_script") (sp := Ow.spLaw) rfl (by decide) rfl ⟨rfl, by decide, by decide⟩ (fun w h Y => PySem.W.kIn_of Y) ?F (fun K H a ns hl _ hS => ⟨a, ns, rfl, hS, hl, fun _ => rfl⟩)
  case F =>
    intro w mg fa h KX G hmg
    have D_is_row : Ow.DefAt (L2.KOf KX) mg (Str.ofString "is_row") Ow.s_is_row [Str.ofString "thing", Str.ofString "least", Str.ofString "most"] := by
      dsimp only [L2.KOf]
      refine' Ow.defAt_mk KX G ?a ?l ?c ?k (fun _ _ _ _ _ _ us hl => match us, hl with | [_, _, _], _ => rfl)
      (case a => k_is); (case l => k_is); (case c => k_is); (case k => k_is)
    have D_is_whole : Ow.DefAt (L2.KOf KX) mg (Str.ofString "is_whole") Ow.s_is_whole [Str.ofString "thing"] := by
      dsimp only [L2.KOf]
      refine' Ow.defAt_mk KX G ?a ?l ?c ?k (fun _ _ _ _ _ _ us hl => match us, hl with | [_], _ => rfl)
      (case a => k_is); (case l => k_is); (case c => k_is); (case k => k_is)
    have D_move_from : Ow.DefAt (L2.KOf KX) mg (Str.ofString "move_from") Ow.s_move_from [Str.ofString "net", Str.ofString "agent"] := by
      dsimp only [L2.KOf]
      refine' Ow.defAt_mk KX G ?a ?l ?c ?k (fun _ _ _ _ _ _ us hl => match us, hl with | [_, _], _ => rfl)
      (case a => k_is); (case l => k_is); (case c => k_is); (case k => k_is)
    have D_moves : Ow.DefAt (L2.KOf KX) mg (Str.ofString "moves") Ow.s_moves [Str.ofString "net"] := by
      dsimp only [L2.KOf]
      refine' Ow.defAt_mk KX G ?a ?l ?c ?k (fun _ _ _ _ _ _ us hl => match us, hl with | [_], _ => rfl)
      (case a => k_is); (case l => k_is); (case c => k_is); (case k => k_is)
    have D_law_e_pen : Ow.DefAt (L2.KOf KX) mg (Str.ofString "_law_e_pen") Ow.s_law_e_pen [Str.ofString "_law_script"] := by
      dsimp only [L2.KOf]
      refine' Ow.defAt_mk KX G ?a ?l ?c ?k (fun _ _ _ _ _ _ us hl => match us, hl with | [_], _ => rfl)
      (case a => k_is); (case l => k_is); (case c => k_is); (case k => k_is)
    have D_law_e_fresh : Ow.DefAt (L2.KOf KX) mg (Str.ofString "_law_e_fresh") Ow.s_law_e_fresh [Str.ofString "_law_pen"] := by
      dsimp only [L2.KOf]
      refine' Ow.defAt_mk KX G ?a ?l ?c ?k (fun _ _ _ _ _ _ us hl => match us, hl with | [_], _ => rfl)
      (case a => k_is); (case l => k_is); (case c => k_is); (case k => k_is)
    have D_law_e_take : Ow.DefAt (L2.KOf KX) mg (Str.ofString "_law_e_take") Ow.s_law_e_take [Str.ofString "_law_pen", Str.ofString "_law_many"] := by
      dsimp only [L2.KOf]
      refine' Ow.defAt_mk KX G ?a ?l ?c ?k (fun _ _ _ _ _ _ us hl => match us, hl with | [_, _], _ => rfl)
      (case a => k_is); (case l => k_is); (case c => k_is); (case k => k_is)
    have D_law_e_symbol : Ow.DefAt (L2.KOf KX) mg (Str.ofString "_law_e_symbol") Ow.s_law_e_symbol [Str.ofString "_law_pen"] := by
      dsimp only [L2.KOf]
      refine' Ow.defAt_mk KX G ?a ?l ?c ?k (fun _ _ _ _ _ _ us hl => match us, hl with | [_], _ => rfl)
      (case a => k_is); (case l => k_is); (case c => k_is); (case k => k_is)
    have D_law_e_put : Ow.DefAt (L2.KOf KX) mg (Str.ofString "_law_e_put") Ow.s_law_e_put [Str.ofString "_law_pen", Str.ofString "_law_net", Str.ofString "_law_model"] := by
      dsimp only [L2.KOf]
      refine' Ow.defAt_mk KX G ?a ?l ?c ?k (fun _ _ _ _ _ _ us hl => match us, hl with | [_, _, _], _ => rfl)
      (case a => k_is); (case l => k_is); (case c => k_is); (case k => k_is)
    have D_law_e_free : Ow.DefAt (L2.KOf KX) mg (Str.ofString "_law_e_free") Ow.s_law_e_free [Str.ofString "_law_model", Str.ofString "_law_heads"] := by
      dsimp only [L2.KOf]
      refine' Ow.defAt_mk KX G ?a ?l ?c ?k (fun _ _ _ _ _ _ us hl => match us, hl with | [_, _], _ => rfl)
      (case a => k_is); (case l => k_is); (case c => k_is); (case k => k_is)
    have D_law_e_tie : Ow.DefAt (L2.KOf KX) mg (Str.ofString "_law_e_tie") Ow.s_law_e_tie [Str.ofString "_law_pen", Str.ofString "_law_net", Str.ofString "_law_model"] := by
      dsimp only [L2.KOf]
      refine' Ow.defAt_mk KX G ?a ?l ?c ?k (fun _ _ _ _ _ _ us hl => match us, hl with | [_, _, _], _ => rfl)
      (case a => k_is); (case l => k_is); (case c => k_is); (case k => k_is)
    have D_law_e_away : Ow.DefAt (L2.KOf KX) mg (Str.ofString "_law_e_away") Ow.s_law_e_away [Str.ofString "_law_pen", Str.ofString "_law_net", Str.ofString "_law_model"] := by
      dsimp only [L2.KOf]
      refine' Ow.defAt_mk KX G ?a ?l ?c ?k (fun _ _ _ _ _ _ us hl => match us, hl with | [_, _, _], _ => rfl)
      (case a => k_is); (case l => k_is); (case c => k_is); (case k => k_is)
    have D_law_e_due : Ow.DefAt (L2.KOf KX) mg (Str.ofString "_law_e_due") Ow.s_law_e_due [Str.ofString "_law_model"] := by
      dsimp only [L2.KOf]
      refine' Ow.defAt_mk KX G ?a ?l ?c ?k (fun _ _ _ _ _ _ us hl => match us, hl with | [_], _ => rfl)
      (case a => k_is); (case l => k_is); (case c => k_is); (case k => k_is)
    have D_law_e_state : Ow.DefAt (L2.KOf KX) mg (Str.ofString "_law_e_state") Ow.s_law_e_state [Str.ofString "_law_net"] := by
      dsimp only [L2.KOf]
      refine' Ow.defAt_mk KX G ?a ?l ?c ?k (fun _ _ _ _ _ _ us hl => match us, hl with | [_], _ => rfl)
      (case a => k_is); (case l => k_is); (case c => k_is); (case k => k_is)
    have D_law_e_right : Ow.DefAt (L2.KOf KX) mg (Str.ofString "_law_e_right") Ow.s_law_e_right [Str.ofString "_law_net", Str.ofString "_law_model"] := by
      dsimp only [L2.KOf]
      refine' Ow.defAt_mk KX G ?a ?l ?c ?k (fun _ _ _ _ _ _ us hl => match us, hl with | [_, _], _ => rfl)
      (case a => k_is); (case l => k_is); (case c => k_is); (case k => k_is)
    have T : Ow.Bl mg := by
      refine' ⟨PySem.W.mg_none_of KX G ?z0, PySem.W.mg_none_of KX G ?z1, PySem.W.mg_none_of KX G ?z2, PySem.W.mg_none_of KX G ?z3, PySem.W.mg_none_of KX G ?z4, PySem.W.mg_none_of KX G ?z5, PySem.W.mg_none_of KX G ?z6, PySem.W.mg_none_of KX G ?z7, PySem.W.mg_none_of KX G ?z8, PySem.W.mg_none_of KX G ?z9, PySem.W.mg_none_of KX G ?z10, PySem.W.mg_none_of KX G ?z11, PySem.W.mg_none_of KX G ?z12, PySem.W.mg_none_of KX G ?z13, PySem.W.mg_none_of KX G ?z14, PySem.W.mg_none_of KX G ?z15, PySem.W.mg_none_of KX G ?z16, PySem.W.mg_none_of KX G ?z17, PySem.W.mg_none_of KX G ?z18⟩
      (case z0 => k_is); (case z1 => k_is); (case z2 => k_is); (case z3 => k_is); (case z4 => k_is); (case z5 => k_is); (case z6 => k_is); (case z7 => k_is); (case z8 => k_is); (case z9 => k_is); (case z10 => k_is); (case z11 => k_is); (case z12 => k_is); (case z13 => k_is); (case z14 => k_is); (case z15 => k_is); (case z16 => k_is); (case z17 => k_is); (case z18 => k_is)
    obtain ⟨C, fI, fdI, R, g_R, m_R, F_I, b_I, D_U1, D_U2, D_M, D_S, D_W, D_E, D_T, D_A, D_L, D_H, D_N, D_O, D_P⟩ : ∃ (C fI : Addr) (fdI : FuncData), Ow.NetC (L2.KOf KX) C ∧ mg (Str.ofString "Net") = some (.ref C) ∧ L2.Mk (L2.KOf KX) C fI ∧ L2.Fun (L2.KOf KX) (Str.ofString "__init__") (Str.ofString "Net.__init__") Ow.s_Net_init fI fdI ∧ L2.Binds (L2.KOf KX) fdI [(Str.ofString "self")] [] ∧ Ow.MethDAt (L2.KOf KX) C (Str.ofString "put") (Str.ofString "Net.put") Ow.s_Net_put [(Str.ofString "self"), (Str.ofString "symbol"), (Str.ofString "lower"), (Str.ofString "at")] [.int 0, .non] ∧ Ow.MethDAt (L2.KOf KX) C (Str.ofString "put") (Str.ofString "Net.put") Ow.s_Net_put [(Str.ofString "self"), (Str.ofString "symbol"), (Str.ofString "lower"), (Str.ofString "at")] [.non] ∧ Ow.MethAt (L2.KOf KX) C (Str.ofString "numbers") (Str.ofString "Net.numbers") Ow.s_Net_numbers [(Str.ofString "self")] ∧ Ow.MethAt (L2.KOf KX) C (Str.ofString "symbol_of") (Str.ofString "Net.symbol_of") Ow.s_Net_symbol_of [(Str.ofString "self"), (Str.ofString "agent")] ∧ Ow.MethAt (L2.KOf KX) C (Str.ofString "lower_of") (Str.ofString "Net.lower_of") Ow.s_Net_lower_of [(Str.ofString "self"), (Str.ofString "agent")] ∧ Ow.MethAt (L2.KOf KX) C (Str.ofString "end_of") (Str.ofString "Net.end_of") Ow.s_Net_end_of [(Str.ofString "self"), (Str.ofString "port")] ∧ Ow.MethAt (L2.KOf KX) C (Str.ofString "tie") (Str.ofString "Net.tie") Ow.s_Net_tie [(Str.ofString "self"), (Str.ofString "port"), (Str.ofString "other")] ∧ Ow.MethAt (L2.KOf KX) C (Str.ofString "take_away") (Str.ofString "Net.take_away") Ow.s_Net_take_away [(Str.ofString "self"), (Str.ofString "agent")] ∧ Ow.MethAt (L2.KOf KX) C (Str.ofString "__len__") (Str.ofString "Net.__len__") Ow.s_Net___len__ [(Str.ofString "self")] ∧ Ow.MethAt (L2.KOf KX) C (Str.ofString "has_agent") (Str.ofString "Net.has_agent") Ow.s_Net_has_agent [(Str.ofString "self"), (Str.ofString "thing")] ∧ Ow.MethAt (L2.KOf KX) C (Str.ofString "need_agent") (Str.ofString "Net.need_agent") Ow.s_Net_need_agent [(Str.ofString "self"), (Str.ofString "thing")] ∧ Ow.MethAt (L2.KOf KX) C (Str.ofString "has_port") (Str.ofString "Net.has_port") Ow.s_Net_has_port [(Str.ofString "self"), (Str.ofString "thing")] ∧ Ow.MethAt (L2.KOf KX) C (Str.ofString "need_port") (Str.ofString "Net.need_port") Ow.s_Net_need_port [(Str.ofString "self"), (Str.ofString "thing")] := by
      dsimp only [L2.KOf]
      refine' Ow.mk25a KX G ?gC ?pg ?hd ?po ?sa ?xR ?xE ?xF ?mC ?kC ?aI ?nI ?kI ?lI ?cI ?aM ?nM ?kM ?lM ?cM ?aS ?nS ?kS ?lS ?cS ?aW ?nW ?kW ?lW ?cW ?aE ?nE ?kE ?lE ?cE ?aT ?nT ?kT ?lT ?cT ?aA ?nA ?kA ?lA ?cA ?aL ?nL ?kL ?lL ?cL ?aH ?nH ?kH ?lH ?cH ?aN ?nN ?kN ?lN ?cN ?aO ?nO ?kO ?lO ?cO ?aP ?nP ?kP ?lP ?cP ?aU ?nU ?kU ?lU ?cU ?dU ?wU
      (case gC => k_is); (case pg => k_is); (case hd => k_is); (case po => k_is); (case sa => k_is); (case xR => k_is)
      (case xE => k_is); (case xF => k_is); (case mC => k_is); (case kC => k_is); (case aI => k_is); (case nI => k_is)
      (case kI => k_is); (case lI => k_is); (case cI => k_is); (case aM => k_is); (case nM => k_is); (case kM => k_is)
      (case lM => k_is); (case cM => k_is); (case aS => k_is); (case nS => k_is); (case kS => k_is); (case lS => k_is)
      (case cS => k_is); (case aW => k_is); (case nW => k_is); (case kW => k_is); (case lW => k_is); (case cW => k_is)
      (case aE => k_is); (case nE => k_is); (case kE => k_is); (case lE => k_is); (case cE => k_is); (case aT => k_is)
      (case nT => k_is); (case kT => k_is); (case lT => k_is); (case cT => k_is); (case aA => k_is); (case nA => k_is)
      (case kA => k_is); (case lA => k_is); (case cA => k_is); (case aL => k_is); (case nL => k_is); (case kL => k_is)
      (case lL => k_is); (case cL => k_is); (case aH => k_is); (case nH => k_is); (case kH => k_is); (case lH => k_is)
      (case cH => k_is); (case aN => k_is); (case nN => k_is); (case kN => k_is); (case lN => k_is); (case cN => k_is)
      (case aO => k_is); (case nO => k_is); (case kO => k_is); (case lO => k_is); (case cO => k_is); (case aP => k_is)
      (case nP => k_is); (case kP => k_is); (case lP => k_is); (case cP => k_is); (case aU => k_is); (case nU => k_is)
      (case kU => k_is); (case lU => k_is); (case cU => k_is); (case dU => kernel_rfl); (case wU => kernel_rfl)
    obtain ⟨tN, G_NM, T_NM⟩ : ∃ (tN : Addr), Ow.GV mg (Str.ofString "NO_MEETERS") (.ref tN) ∧ ∀ H, L2.SqT (L2.KOf KX) H tN [.str (Str.ofString "out"), .str (Str.ofString "def")] := by
      dsimp only [L2.KOf]
      refine' Ow.mk25b KX G ?gN ?lN ?zN ?vN
      (case gN => k_is); (case lN => k_is); (case zN => decide +kernel); (case vN => exact .cons ⟨_, rfl⟩ (.cons ⟨_, rfl⟩ .nil))
    obtain ⟨fd, FL, hb⟩ : ∃ fd, L2.Fun (L2.KOf KX) (Str.ofString "law") (Str.ofString "law") Ow.s_law fa fd ∧ ∀ (s : Shared) (u : Value), BindsTo s fd ⟨[u], []⟩ [(Str.ofString "_law_script", u)] := by
      dsimp only [L2.KOf]
      refine' Ow.lawAt_mk KX G hmg ?a ?l ?c ?k ?hb
      (case a => k_is); (case l => k_is); (case c => k_is); (case k => k_is); (case hb => exact fun s u => .of_eq rfl)
    refine ⟨fd, hb, fun base _ _ => ?_⟩
    have c_isrow := Ow.ok_is_row (P := PySem.Challenge.rw_oncewire_k25_moves.prog) (w := w) (base := base) D_is_row T
    have c_pen := Ow.ok_penE (P := PySem.Challenge.rw_oncewire_k25_moves.prog) (w := w) (base := base) D_law_e_pen T
    have c_fresh := Ow.ok_freshE (P := PySem.Challenge.rw_oncewire_k25_moves.prog) (w := w) (base := base) D_law_e_fresh T
    have c_take := Ow.ok_takeE D_law_e_take T c_fresh
    have c_whole := Ow.ok_whole (P := PySem.Challenge.rw_oncewire_k25_moves.prog) (w := w) (base := base) D_is_whole T
    have f_init := Ow.ok_netInit (mg := mg) (P := PySem.Challenge.rw_oncewire_k25_moves.prog) (w := w) (base := base) F_I R
    have m_hasA := Ow.ok_hasA D_H R c_whole
    have m_needA := Ow.ok_needA D_N R m_hasA
    have m_hasP := Ow.ok_hasP D_O R c_isrow c_whole m_hasA
    have m_needP := Ow.ok_needP D_P R m_hasP
    have m_put1 := Ow.ok_put D_U1 R c_whole
    have m_put2 := Ow.ok_put D_U2 R c_whole
    have m_num := Ow.ok_numN (mg := mg) (P := PySem.Challenge.rw_oncewire_k25_moves.prog) (w := w) (base := base) D_M R T
    have m_sym := Ow.ok_symN D_S R T m_needA
    have m_low := Ow.ok_lowN D_W R T m_needA
    have m_end := Ow.ok_endN D_E R T m_needP
    have m_tie := Ow.ok_tieN D_T R T m_needP
    have m_away := Ow.ok_takeN D_A R T m_low
    have c_mfrom := Ow.ok_mfrom D_move_from R T G_NM T_NM m_sym m_end
    have c_moves := Ow.ok_moves D_moves R T m_num c_mfrom
    have c_sym := Ow.ok_esym D_law_e_symbol T c_take
    have c_put := Ow.ok_eput D_law_e_put R T c_sym c_take m_put2
    have c_free := Ow.ok_efree (C := C) (P := PySem.Challenge.rw_oncewire_k25_moves.prog) (w := w) (base := base) D_law_e_free T
    have c_tie := Ow.ok_etie D_law_e_tie R T c_take c_free m_tie
    have c_away := Ow.ok_eaway D_law_e_away R T c_take m_away
    have c_due := Ow.ok_edue (C := C) (P := PySem.Challenge.rw_oncewire_k25_moves.prog) (w := w) (base := base) D_law_e_due T
    have c_state := Ow.ok_estate D_law_e_state R T m_num m_sym m_low m_end
    have c_right := Ow.ok_eright D_law_e_right R T c_state c_moves c_due
    exact Ow.ok_law25 FL R T g_R m_R f_init b_I c_pen c_take c_put c_tie c_away c_right
#print axioms PySem.Challenge.cw_oncewire_k25_moves_holds
