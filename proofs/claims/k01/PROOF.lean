import PyProof.Rows.All
import Wide.All
import OpenK.AllK
import Wide.FinOn
import HandS.ForMost
import HandS.IsInst
import HandS.TupAny
import HandS.Flow
import HandS.Style
import HandS.Zip
import HandS.Evl
import PyProof.ReprRoads
import PyProof.FactsAll.dict
import PyProof.EqKinds
import PyProof.P3In
import HandS.Strs
import HandS.More
import PyProof.SumAny
import HandS.TupMul
import HandS.ExcValue
import HandS.ExcInit
import HandS.ExcField
import HandS.ExcIs
import HandS.MakeKw
import HandS.Defaults
import KE.KExcIs
import PySem.Challenge.RW_oncewire_k01_refusals_apart
set_option Elab.async false
set_option linter.all false
set_option maxRecDepth 100000
set_option maxHeartbeats 4000000
/-! What all our laws over drawn data share: defs and their calls, frames of the heap, the pen that draws, data of any shape. -/
namespace Ow
open PySem PySem.Spec PyProof.Rows L2

/-! ### a def and its calls -/
structure CallOk (P : Program) (w : World) (K : PySem.W.Frag) (mg : Str → Option Value) (base : Heap) (k : Nat) (x : Str) (ps : List Str) (sp : Sp) : Prop where
  ex : ∃ (f : Addr) (fd : FuncData), FnOk P w K mg base CX0 k f fd ps sp ∧ mg x = some (.ref f) ∧ PySem.W.keepIn K (.ref f) = true ∧ Binds K fd ps []
structure DefAt (K : PySem.W.Frag) (mg : Str → Option Value) (x : Str) (st : Stmt) (ps : List Str) : Prop where
  ex : ∃ (f : Addr) (fd : FuncData), Fun K x x st f fd ∧ mg x = some (.ref f) ∧ Binds K fd ps []
section
variable {X : Cx} {k j : Nat} {x : Str} {ps : List Str} {sp : Sp} {p pos : Pos} {e : Expr} {es : List Expr} {t : TA}
theorem pe_callOk (C : CallOk X.prog X.w X.K X.mg X.base k x ps sp) (hr : Room j X.A) (hj : k ≤ j) (hg : Gl X x) (ha : PA X (e :: es) t)
    (hdb : (x == ("__debug__" : Str)) = false := by decide) (he : starEach (e :: es) X.env = (false, eval e X.env) :: starEach es X.env := by rfl)
    (hpl : (backTo pos (starEach es X.env)).any (·.1) = false := by rfl) : PE X (.Call (.Name x p) (e :: es) [] pos) (tCall sp [] E0 t) := by
  obtain ⟨f, fd, F, hm, hk, hb⟩ := C.ex
  exact pe_call F (hr.mono hj) hg hm hk hb .nil pass0 ha hdb he hpl
end
section
variable {P : Program} {w : World} {K : PySem.W.Frag} {mg : Str → Option Value} {base : Heap} {x : Str} {st : Stmt} {N ps : List Str} {k j : Nat} {sp sp' : Sp}
theorem DefAt.ok (D : DefAt K mg x st ps) (S : FnScope N ps (defScope st)) (len : ∀ vs H Q E, sp vs H Q E → vs.length = ps.length)
    (hbody : ∀ (f : Addr) (cdv : Value) (A : Around) (outer : List Env) (s : Shared) (H : Hp) (vs : List V) (Q : VK) (E : XK), Room k (A.deeper (envOfC x (defScope st) s.heap.objs.size f cdv)) → sp vs H Q E →
      ∃ t, PSs (cxOf CX0 P w K mg base N x (defScope st) f cdv A outer s H E).nox (defBody st) t ∧ t { nx := fun _ H' => Q .non H', rt := Q } (start N vs) H) : CallOk P w K mg base (k + 1) x ps sp := by
  obtain ⟨f, fd, F, hm, hb⟩ := D.ex
  exact ⟨f, fd, F.ok S len fun cdv A outer s H vs Q E hr h => hbody f cdv A outer s H vs Q E hr h, hm, F.kp, hb⟩
/-- nothing is promised -/
theorem DefAt.none (D : DefAt K mg x st ps) (S : FnScope N ps (defScope st)) : CallOk P w K mg base 1 x ps (fun _ _ _ _ => False) :=
  D.ok S (fun _ _ _ _ h => h.elim) fun _ _ _ _ _ _ _ _ _ _ h => h.elim
theorem CallOk.mono (C : CallOk P w K mg base j x ps sp) (h : j ≤ k) : CallOk P w K mg base k x ps sp := by
  obtain ⟨f, fd, F, r⟩ := C.ex
  exact ⟨f, fd, F.mono h, r⟩
theorem CallOk.imp (C : CallOk P w K mg base k x ps sp) (h : ∀ vs H Q E, sp' vs H Q E → sp vs H Q E) : CallOk P w K mg base k x ps sp' := by
  obtain ⟨f, fd, F, r⟩ := C.ex
  exact ⟨f, fd, F.imp h, r⟩
end

/-! ### frames: all but the object at p is as it was -/
def Kp (p : Addr) (H H' : Hp) : Prop := ∀ b o, H b = some o → b ≠ p → H' b = some o
section
variable {p q : Addr} {H H1 H2 : Hp} {o : HO}
theorem Kp.refl : Kp p H H := fun _ _ h _ => h
theorem Kp.trans (a : Kp p H H1) (b : Kp p H1 H2) : Kp p H H2 := fun c o h n => b c o (a c o h n) n
theorem Kp.of (s : Same H H1) : Kp p H H1 := fun c o h _ => s c o h
theorem Kp.new (h : H q = none) : Kp p H (upd H q o) := fun c u e _ => by
  rw [upd_ne (ne_of_none e h)]
  exact e
theorem Kp.self : Kp p H (upd H p o) := fun c u e n => by
  rw [upd_ne n]
  exact e
/-- an object that came later is changed -/
theorem Kp.mut (a : Kp p H H1) (h : H q = none) : Kp p H (upd H1 q o) := fun c u e n => by
  rw [upd_ne (ne_of_none e h)]
  exact a c u e n
theorem Kp.put (a : Kp p H H1) : Kp p H (upd H1 p o) := fun c u e n => by
  rw [upd_ne n]
  exact a c u e n
theorem Kp.lay (a : Kp p H H1) (h : H1 q = none) : Kp p H (upd H1 q o) := a.trans (Kp.new h)
theorem Kp.none (a : Kp p H H1) (h : H1 q = none) (n : q ≠ p) : H q = none := by
  cases e : H q with
  | none => rfl
  | some u =>
    rw [a q u e n] at h
    cases h
theorem same_new (h : H q = none) : Same H (upd H q o) := fun c u e => by
  rw [upd_ne (ne_of_none e h)]
  exact e
theorem Same.lay (a : Same H H1) (h : H1 q = none) : Same H (upd H1 q o) := a.trans (same_new h)
theorem Same.mut (a : Same H H1) (h : H q = none) : Same H (upd H1 q o) := fun c u e => by
  rw [upd_ne (ne_of_none e h)]
  exact a c u e
end

/-! ### sums of any kind -/
abbrev rAddAny (K : PySem.W.Frag) : R2 := fun x y H Q => rI0 (fun i j => .int (i + j)) x y H Q ∨ ((∃ i j, x = .str i ∧ y = .str j ∧ i.length + j.length ≤ sizeLine ∧ Q (.str (i ++ j)) H) ∨ (rCatA K x y H Q ∨ rCat x y H Q))
theorem opAdd {X : Cx} : OpR X (binaryOp .Add) (rAddAny X.K) := op_add.or (op_add_str.or (op_catA.or op_cat))

/-! ### the pen -/
def Pen (H : Hp) (p c : Addr) : Prop := (∃ z r, H p = some (.lst [.ref c, .int z, .int r])) ∧ ∃ cs : List Int, H c = some (.lst (cs.map V.int)) ∧ cs.length ≤ 63
section
variable {H H' : Hp} {p c q : Addr} {o : HO}
theorem Pen.ne (h : Pen H p c) : c ≠ p := by
  obtain ⟨⟨z, r, h1⟩, cs, h2, _⟩ := h
  rintro rfl
  rw [h1] at h2
  cases cs with
  | nil => cases h2
  | cons a t =>
    have e : [V.ref c, .int z, .int r] = (a :: t).map V.int := by
      injection h2 with h2
      injection h2
    rw [List.map_cons] at e
    injection e with e _
    cases e
theorem Pen.keep (h : Pen H p c) (n1 : q ≠ p) (n2 : q ≠ c) : Pen (upd H q o) p c := by
  obtain ⟨⟨z, r, h1⟩, cs, h2, hl⟩ := h
  exact ⟨⟨z, r, by rw [upd_ne n1.symm]; exact h1⟩, cs, by rw [upd_ne n2.symm]; exact h2, hl⟩
theorem Pen.neP (h : Pen H p c) (hq : H q = none) : q ≠ p := by
  obtain ⟨⟨z, r, h1⟩, _⟩ := h
  exact (ne_of_none h1 hq).symm
theorem Pen.neC (h : Pen H p c) (hq : H q = none) : q ≠ c := by
  obtain ⟨_, cs, h2, _⟩ := h
  exact (ne_of_none h2 hq).symm
theorem Pen.new (h : Pen H p c) (hq : H q = none) : Pen (upd H q o) p c := h.keep (h.neP hq) (h.neC hq)
theorem Pen.put {z r : Int} (h : Pen H p c) : Pen (upd H p (.lst [.ref c, .int z, .int r])) p c := by
  have n := h.ne
  obtain ⟨_, cs, h2, hl⟩ := h
  exact ⟨⟨z, r, upd_same⟩, cs, by rw [upd_ne n]; exact h2, hl⟩
theorem Pen.same (h : Pen H p c) (s : Same H H') : Pen H' p c := by
  obtain ⟨⟨z, r, h1⟩, cs, h2, hl⟩ := h
  exact ⟨⟨z, r, s _ _ h1⟩, cs, s _ _ h2, hl⟩
end

/-! ### data: None, truths, numbers, texts, tuples, lists and dicts (none of some) -/
def kD : Key → PyData
  | .inl i => .int i
  | .inr x => .str x
mutual
inductive Da (K : PySem.W.Frag) (N : Addr → Prop) (H : Hp) : V → PyData → Prop
  | non : Da K N H .non .none
  | bl (b : Bool) : Da K N H (.bl b) (.bool b)
  | int (i : Int) : Da K N H (.int i) (.int i)
  | str (x : Str) : Da K N H (.str x) (.str x)
  | lst {a : Addr} {xs : List V} {ds : List PyData} : H a = some (.lst xs) → ¬ N a → DaAll K N H xs ds → Da K N H (.ref a) (.list ds)
  | tup {a : Addr} {xs : List V} {ds : List PyData} : SqT K H a xs → DaAll K N H xs ds → Da K N H (.ref a) (.tuple ds)
  | dct {a : Addr} {kvs : List (Key × V)} {ds : List PyData} : H a = some (.dK kvs) → ¬ N a → DaAll K N H (kvs.map (·.2)) ds → Da K N H (.ref a) (.dict ((kvs.map fun kv => kD kv.1).zip ds))
inductive DaAll (K : PySem.W.Frag) (N : Addr → Prop) (H : Hp) : List V → List PyData → Prop
  | nil : DaAll K N H [] []
  | cons {v : V} {vs : List V} {d : PyData} {ds : List PyData} : Da K N H v d → DaAll K N H vs ds → DaAll K N H (v :: vs) (d :: ds)
end
/-- what is tracked -/
def Tk (H : Hp) : Addr → Prop := fun a => H a ≠ none
theorem Tk.of {H : Hp} {a : Addr} {o : HO} (h : H a = some o) : Tk H a := fun e => by
  rw [h] at e
  cases e
theorem Tk.kp {H H' : Hp} {p : Addr} (k : Kp p H H') (hp : Tk H' p) : ∀ a, Tk H a → Tk H' a := fun a h => by
  by_cases e : a = p
  · rw [e]
    exact hp
  · cases q : H a with
    | none => exact absurd q h
    | some o => exact Tk.of (k a o q e)
theorem Pen.tk {H : Hp} {p c : Addr} (h : Pen H p c) : Tk H p := by
  obtain ⟨⟨z, r, e⟩, _⟩ := h
  exact Tk.of e
/-- nothing that reads as a tuple stands at p -/
def NoTup (H : Hp) (p : Addr) : Prop := ∀ xs, ¬ Rd H p (.tup xs)
theorem Pen.noTup {H : Hp} {p c : Addr} (h : Pen H p c) : NoTup H p := fun xs r => by
  obtain ⟨⟨z, u, h1⟩, _⟩ := h
  rcases r with r | ⟨o, r⟩
  · rw [h1] at r
    cases r
  · rw [h1] at r
    cases r
section
variable {K : PySem.W.Frag} {N N' : Addr → Prop} {p : Addr} {H H' : Hp}
theorem sqT_kp {a : Addr} {xs : List V} (k : Kp p H H') (n : NoTup H p) (h : SqT K H a xs) : SqT K H' a xs := by
  rcases h with h | h
  · by_cases e : a = p
    · subst e
      exact (n xs h).elim
    · rcases h with h | ⟨o, h⟩
      · exact .inl (.inl (k _ _ h e))
      · exact .inl (.inr ⟨o, k _ _ h e⟩)
  · exact .inr h
theorem sqL_kp {a : Addr} {xs : List V} (k : Kp p H H') (n : a ≠ p) (h : SqL K H a xs) : SqL K H' a xs := by
  rcases h with h | h
  · rcases h with h | ⟨o, h⟩
    · exact .inl (.inl (k _ _ h n))
    · exact .inl (.inr ⟨o, k _ _ h n⟩)
  · exact .inr h
mutual
theorem Da.kp (k : Kp p H H') (n : NoTup H p) (q : N p) : ∀ {v : V} {d : PyData}, Da K N H v d → Da K N H' v d
  | _, _, .non => .non
  | _, _, .bl b => .bl b
  | _, _, .int i => .int i
  | _, _, .str x => .str x
  | _, _, .lst h ne r => .lst (k _ _ h fun e => ne (e ▸ q)) ne (DaAll.kp k n q r)
  | _, _, .tup h r => .tup (sqT_kp k n h) (DaAll.kp k n q r)
  | _, _, .dct h ne r => .dct (k _ _ h fun e => ne (e ▸ q)) ne (DaAll.kp k n q r)
theorem DaAll.kp (k : Kp p H H') (n : NoTup H p) (q : N p) : ∀ {vs : List V} {ds : List PyData}, DaAll K N H vs ds → DaAll K N H' vs ds
  | _, _, .nil => .nil
  | _, _, .cons a r => .cons (Da.kp k n q a) (DaAll.kp k n q r)
end
mutual
theorem Da.less (k : ∀ a, N' a → N a) : ∀ {v : V} {d : PyData}, Da K N H v d → Da K N' H v d
  | _, _, .non => .non
  | _, _, .bl b => .bl b
  | _, _, .int i => .int i
  | _, _, .str x => .str x
  | _, _, .lst h ne r => .lst h (fun z => ne (k _ z)) (DaAll.less k r)
  | _, _, .tup h r => .tup h (DaAll.less k r)
  | _, _, .dct h ne r => .dct h (fun z => ne (k _ z)) (DaAll.less k r)
theorem DaAll.less (k : ∀ a, N' a → N a) : ∀ {vs : List V} {ds : List PyData}, DaAll K N H vs ds → DaAll K N' H vs ds
  | _, _, .nil => .nil
  | _, _, .cons a r => .cons (Da.less k a) (DaAll.less k r)
end
theorem DaAll.length : ∀ {vs : List V} {ds : List PyData}, DaAll K N H vs ds → vs.length = ds.length
  | _, _, .nil => rfl
  | _, _, .cons _ r => by rw [List.length_cons, List.length_cons, DaAll.length r]
theorem DaAll.get : ∀ {vs : List V} {ds : List PyData}, DaAll K N H vs ds → ∀ {i : Nat} {v : V}, vs[i]? = some v → ∃ d, ds[i]? = some d ∧ Da K N H v d
  | _, _, .nil, _, _, e => by simp at e
  | _, _, .cons a r, 0, _, e => by
    simp only [List.getElem?_cons_zero, Option.some.injEq] at e
    subst e
    exact ⟨_, rfl, a⟩
  | _, _, .cons a r, i + 1, _, e => by
    simp only [List.getElem?_cons_succ] at e
    obtain ⟨d, h1, h2⟩ := DaAll.get r e
    exact ⟨d, by simpa using h1, h2⟩
theorem DaAll.append : ∀ {vs us : List V} {ds es : List PyData}, DaAll K N H vs ds → DaAll K N H us es → DaAll K N H (vs ++ us) (ds ++ es)
  | _, _, _, _, .nil, s => s
  | _, _, _, _, .cons a r, s => .cons a (DaAll.append r s)
theorem DaAll.take : ∀ {vs : List V} {ds : List PyData} (n : Nat), DaAll K N H vs ds → DaAll K N H (vs.take n) (ds.take n)
  | _, _, 0, _ => .nil
  | _, _, _ + 1, .nil => .nil
  | _, _, n + 1, .cons a r => .cons a (DaAll.take n r)
theorem DaAll.drop : ∀ {vs : List V} {ds : List PyData} (n : Nat), DaAll K N H vs ds → DaAll K N H (vs.drop n) (ds.drop n)
  | _, _, 0, r => r
  | _, _, _ + 1, .nil => .nil
  | _, _, n + 1, .cons _ r => DaAll.drop n r
end

/-! ### how long what is shown is, how deep -/
theorem joinLen : ∀ ts : List Str, (Str.join ", " ts).length ≤ (ts.map fun t => t.length + 2).sum
  | [] => by decide
  | [x] => by
    show x.length ≤ _
    simp
  | x :: y :: r => by
    have ih := joinLen (y :: r)
    have e : (Str.join ", " (x :: y :: r)).length = x.length + 2 + (Str.join ", " (y :: r)).length := by
      show (x ++ ", " ++ Str.join ", " (y :: r)).length = _
      rw [strLen_append, strLen_append]
      rfl
    rw [e, List.map_cons, List.sum_cons]
    omega
end Ow

namespace Ow
open PySem PySem.Spec PyProof.Rows L2

/-! ### how long what is shown is -/
mutual
/-- at least as long as what is shown; each place of a row and a brace counted with it -/
def wt : PyData → Nat
  | .none => 4
  | .bool _ => 5
  | .int i => (toString i : Str).length
  | .str x => (reprText x).length + x.length
  | .list xs => wtAll xs + 4
  | .tuple xs => wtAll xs + 4
  | .dict kvs => wtKv kvs + 4
def wtAll : List PyData → Nat
  | [] => 0
  | x :: xs => wt x + 2 + wtAll xs
def wtKv : List (PyData × PyData) → Nat
  | [] => 0
  | (k, v) :: r => wt k + wt v + 4 + wtKv r
end
theorem textFromLen : ∀ (ts : List Str) (k : Nat) (acc : Str), (textFrom k acc ts).length ≤ acc.length + (ts.map fun t => t.length + 2).sum
  | [], k, acc => by
    show acc.length ≤ _
    simp
  | t :: r, k, acc => by
    have ih := textFromLen r (k + 1) (acc ++ (if k > 0 then ", " else "" : String) ++ t)
    have e : (acc ++ (if k > 0 then ", " else "" : String) ++ t).length ≤ acc.length + 2 + t.length := by
      rw [strLen_append, strLen_append]
      by_cases h : k > 0
      · rw [if_pos h]
        show acc.length + 2 + t.length ≤ _
        omega
      · rw [if_neg h]
        show acc.length + 0 + t.length ≤ _
        omega
    show (textFrom (k + 1) (acc ++ (if k > 0 then ", " else "" : String) ++ t) r).length ≤ _
    rw [List.map_cons, List.sum_cons]
    omega
theorem listTextLen (ts : List Str) : (listText ts).length ≤ (ts.map fun t => t.length + 2).sum + 4 := by
  have h := textFromLen ts 0 "["
  have e : (listText ts).length = (textFrom 0 "[" ts).length + 1 := by
    unfold listText
    rw [strLen_append]
    rfl
  have e1 : (("[" : String) : Str).length = 1 := rfl
  rw [e]
  rw [e1] at h
  omega
theorem tupleTextLen (ts : List Str) : (tupleText ts).length ≤ (ts.map fun t => t.length + 2).sum + 4 := by
  have h := joinLen ts
  have e : (tupleText ts).length ≤ 1 + (Str.join ", " ts).length + 2 := by
    unfold tupleText
    rw [strLen_append, strLen_append]
    by_cases q : (ts.length == 1) = true
    · rw [if_pos q]
      exact Nat.le_refl _
    · rw [if_neg q]
      show 1 + (Str.join ", " ts).length + 1 ≤ _
      omega
  omega
theorem dictTextLen (ts : List Str) : (dictText ts).length ≤ (ts.map fun t => t.length + 2).sum + 4 := by
  have h := joinLen ts
  have e : (dictText ts).length = 1 + (Str.join ", " ts).length + 1 := by
    unfold dictText
    rw [strLen_append, strLen_append]
    rfl
  omega
mutual
theorem shownLen : ∀ d : PyData, d.shown.length ≤ wt d
  | .none => by decide
  | .bool b => by
    cases b
    · decide
    · decide
  | .int i => by
    simp only [PyData.shown, wt]
    exact Nat.le_refl _
  | .str x => by
    simp only [PyData.shown, wt]
    exact Nat.le_add_right _ _
  | .list xs => by
    simp only [PyData.shown, wt]
    have h := listTextLen (PyData.shownAll xs)
    have h2 := shownAllLen xs
    omega
  | .tuple xs => by
    simp only [PyData.shown, wt]
    have h := tupleTextLen (PyData.shownAll xs)
    have h2 := shownAllLen xs
    omega
  | .dict kvs => by
    simp only [PyData.shown, wt]
    have h := dictTextLen (PyData.shownKv kvs)
    have h2 := shownKvLen kvs
    omega
theorem shownAllLen : ∀ ds : List PyData, ((PyData.shownAll ds).map fun t => t.length + 2).sum ≤ wtAll ds
  | [] => by simp [PyData.shownAll, wtAll]
  | d :: ds => by
    have h1 := shownLen d
    have h2 := shownAllLen ds
    simp only [PyData.shownAll, wtAll, List.map_cons, List.sum_cons]
    omega
theorem shownKvLen : ∀ ds : List (PyData × PyData), ((PyData.shownKv ds).map fun t => t.length + 2).sum ≤ wtKv ds
  | [] => by simp [PyData.shownKv, wtKv]
  | (k, v) :: r => by
    have h1 := shownLen k
    have h2 := shownLen v
    have h3 := shownKvLen r
    simp only [PyData.shownKv, wtKv, List.map_cons, List.sum_cons]
    have e : (PyData.shown k ++ (": " : Str) ++ PyData.shown v).length = (PyData.shown k).length + 2 + (PyData.shown v).length := by
      rw [strLen_append, strLen_append]
      rfl
    rw [e]
    omega
end
/-- data that repr may be asked of: what is shown at most n long, at most m deep -/
structure Fit (n m : Nat) (d : PyData) : Prop where
  sh : d.showable = true
  wt : wt d ≤ n
  dp : d.depth ≤ m
theorem Fit.le {n m n' m' : Nat} {d : PyData} (f : Fit n m d) (h : n ≤ n') (k : m ≤ m') : Fit n' m' d := ⟨f.sh, Nat.le_trans f.wt h, Nat.le_trans f.dp k⟩

/-! ### what stands in the heap, read as data -/
section
variable {X : Cx} {pins : List (Addr × Obj)} {σ : L2.St} {H : Hp} {s : Shared} {N : Addr → Prop}
theorem pairs_read {P : Program} {w : World} {h : Heap} : ∀ {kvs : List (Key × V)} {vs : List (Key × Value)} {el : List DictEntry}, KV kvs vs → Pairs (mixKind P w) el vs →
    Vals (kvs.map (·.2)) (el.map (·.val)) ∧ ReadsAll h (el.map (·.key)) (kvs.map fun q => kD q.1) []
  | _, _, _, .nil, .nil => ⟨.nil, .nil⟩
  | _, _, _, .cons (a := a) (b := b) q r, .cons (e := e) h1 h2 h3 => by
    obtain ⟨i1, i2⟩ := pairs_read (h := h) r h3
    refine ⟨.cons (by show RelV a.2 e.val; rw [h2]; exact q.2) i1, ?_⟩
    have hk : Reads h e.key (kD a.1) [] := by
      rw [q.1]
      rcases keyIs_shape (k := b.1) (v := e.key) h1 with ⟨i, t, z, z2⟩ | ⟨x, t, z, z2⟩
      · rw [z, z2]
        exact .int i t
      · rw [z, z2]
        exact .str x t
    exact .cons hk i2
theorem list_nsys (I : Inv X pins σ H s) (hs : ∃ o, s.heap.get? sysModules = some o ∧ o.cls ≠ .type "list") {a : Addr} {xs : List V} (h : H a = some (.lst xs)) : a ≠ sysModules := by
  rintro rfl
  obtain ⟨o, e, c⟩ := hs
  obtain ⟨_, its, n, _, q⟩ := I.hok _ _ h
  rw [e] at q
  cases q
  exact c rfl
mutual
theorem Da.reads (I : Inv X pins σ H s) : ∀ {v : V} {d : PyData}, Da X.K N H v d → ∀ {u : Value}, RelV v u → ∃ as, Reads s.heap u d as ∧ ((∃ o, s.heap.get? sysModules = some o ∧ o.cls ≠ .type "list") → sysModules ∉ as)
  | _, _, .non, _, r => by
    cases r
    exact ⟨_, .none, fun _ z => nomatch z⟩
  | _, _, .bl b, _, r => by
    cases r
    exact ⟨_, .bool b, fun _ z => nomatch z⟩
  | _, _, .int i, _, r => by
    obtain ⟨t, rfl⟩ := r
    exact ⟨_, .int i t, fun _ z => nomatch z⟩
  | _, _, .str x, _, r => by
    obtain ⟨t, rfl⟩ := r
    exact ⟨_, .str x t, fun _ z => nomatch z⟩
  | _, _, .lst h ne ra, _, r => by
    cases r
    obtain ⟨its, rv, ⟨o, n, ho, hc, _, hd⟩, _⟩ := I.list (SqL.of h)
    obtain ⟨as, hr, hn⟩ := DaAll.reads I ra rv
    refine ⟨_, .list ho hc hd hr, fun hs z => ?_⟩
    rcases List.mem_cons.mp z with e | z
    · exact list_nsys I hs h e.symm
    · exact hn hs z
  | _, _, .tup h ra, _, r => by
    cases r
    obtain ⟨its, rv, ⟨o, ho, hc, n, hd⟩, _⟩ := I.tuple h
    obtain ⟨as, hr, hn⟩ := DaAll.reads I ra rv
    exact ⟨_, .tuple ho hc hd hr, hn⟩
  | _, _, .dct (kvs := kvs) (ds := ds) h ne ra, _, r => by
    cases r
    obtain ⟨_, hsys, vs, kv, o, es, ep, ho, hx, hd, hko, hpr, _⟩ := I.hok _ _ h
    obtain ⟨q1, q2⟩ := pairs_read (h := s.heap) kv hpr
    obtain ⟨as, hr, hn⟩ := DaAll.reads I ra q1
    have hl : (kvs.map fun q => kD q.1).length = ds.length := by
      rw [List.length_map, ← DaAll.length ra, List.length_map]
    refine ⟨_, .dict (as := []) (bs := as) ho hx.1 hd ?_ ?_, fun hs z => ?_⟩
    · rw [List.map_fst_zip (Nat.le_of_eq hl)]
      exact q2
    · rw [List.map_snd_zip (Nat.le_of_eq hl.symm)]
      exact hr
    · rcases List.mem_cons.mp z with e | z
      · rw [← e] at hsys
        exact absurd hsys (by decide)
      · exact hn hs z
theorem DaAll.reads (I : Inv X pins σ H s) : ∀ {vs : List V} {ds : List PyData}, DaAll X.K N H vs ds → ∀ {us : List Value}, Vals vs us → ∃ as, ReadsAll s.heap us ds as ∧ ((∃ o, s.heap.get? sysModules = some o ∧ o.cls ≠ .type "list") → sysModules ∉ as)
  | _, _, .nil, _, r => by
    cases r
    exact ⟨_, .nil, fun _ z => nomatch z⟩
  | _, _, .cons a ra, _, r => by
    cases r with
    | cons r1 r2 =>
      obtain ⟨as, h1, n1⟩ := Da.reads I a r1
      obtain ⟨bs, h2, n2⟩ := DaAll.reads I ra r2
      exact ⟨_, .cons h1 h2, fun hs z => (List.mem_append.mp z).elim (n1 hs) (n2 hs)⟩
end
end
/-! ### what is shown, item by item -/
section
variable {X : Cx} {pins : List (Addr × Obj)} {σ : L2.St} {H : Hp} {s : Shared} {N : Addr → Prop}
theorem reads_of (I : Inv X pins σ H s) {v : V} {d : PyData} (h : Da X.K N H v d) {u : Value} (r : RelV v u) : ∃ as, Reads s.heap u d as :=
  let ⟨as, q, _⟩ := Da.reads I h r
  ⟨as, q⟩
theorem out_of {a : Addr} {d : PyData} {as bs : List Addr} {h : Heap} (r : Reads h (.ref a) d as) {n : Nat} (hb : ReadAtMost h n bs) (hn : n < d.depth) : a ∉ bs ∧ ReadAtMost h d.depth (a :: bs) :=
  ⟨not_mem_of_deeper r hn hb, .cons r (Nat.le_of_lt hn) hb⟩
theorem dct_of (I : Inv X pins σ H s) {a : Addr} {kvs : List (Key × V)} {ds : List PyData} (h : H a = some (.dK kvs)) (ne : ¬ N a) (ra : DaAll X.K N H (kvs.map (·.2)) ds)
    (hz : (dictText (PyData.shownKv ((kvs.map fun q => kD q.1).zip ds))).length ≤ sizeLine) (hs : PyData.showableKv ((kvs.map fun q => kD q.1).zip ds) = true)
    (vals : ∀ {us : List Value}, Vals (kvs.map (·.2)) us → PyData.showableAll ds = true → (∀ t ∈ PyData.shownAll ds, t.length ≤ sizeLine) →
      ∃ bs, ReadAtMost s.heap (PyData.depthAll ds) bs ∧ ReprAllK X.prog X.w bs s.heap (PyData.depthAll ds) us (PyData.shownAll ds)) :
    ∃ (o : Obj) (es : Array DictEntry) (ep : Nat) (bs : List Addr), s.heap.get? a = some o ∧ o.cls = .type "dict" ∧ o.data = .dict es ep ∧ (a == sysModules) = false ∧ a ∉ bs ∧
      ReadAtMost s.heap (PyData.dict ((kvs.map fun q => kD q.1).zip ds)).depth (a :: bs) ∧ ReprEntriesK X.prog X.w bs s.heap (PyData.depthKv ((kvs.map fun q => kD q.1).zip ds)) es.toList (PyData.shownKv ((kvs.map fun q => kD q.1).zip ds)) := by
  obtain ⟨as, rd⟩ := reads_of I (.dct h ne ra) (u := .ref a) rfl
  obtain ⟨_, hsys, vs, kv, o, es, ep, ho, hx, hd, hko, hpr, _⟩ := I.hok _ _ h
  obtain ⟨q1, q2⟩ := pairs_read (h := s.heap) kv hpr
  have hl : (kvs.map fun q => kD q.1).length = ds.length := by
    rw [List.length_map, ← DaAll.length ra, List.length_map]
  have e1 : (((kvs.map fun q => kD q.1)).zip ds).map (·.1) = kvs.map fun q => kD q.1 := List.map_fst_zip (Nat.le_of_eq hl)
  have e2 : (((kvs.map fun q => kD q.1)).zip ds).map (·.2) = ds := List.map_snd_zip (Nat.le_of_eq hl.symm)
  obtain ⟨s1, s2⟩ := PyData.showableKv_split _ hs
  have zk := fun t ht => Nat.le_trans (let ⟨y, hy, hl⟩ := PyData.shownKv_key_le ((kvs.map fun q => kD q.1).zip ds) t ht; Nat.le_trans hl (dictText_mem_le hy)) hz
  have zv := fun t ht => Nat.le_trans (let ⟨y, hy, hl⟩ := PyData.shownKv_val_le ((kvs.map fun q => kD q.1).zip ds) t ht; Nat.le_trans hl (dictText_mem_le hy)) hz
  have d1 := PyData.depthAll_keys_le (((kvs.map fun q => kD q.1)).zip ds)
  have d2 := PyData.depthAll_vals_le (((kvs.map fun q => kD q.1)).zip ds)
  rw [e1] at s1 zk d1
  rw [e2] at s2 zv d2
  obtain ⟨b1, hb1, k1⟩ := ReprAllK.of_readsAll (prog := X.prog) (w := X.w) q2 s1 (fun _ z => nomatch z) zk
  obtain ⟨b2, hb2, k2⟩ := vals q1 s2 zv
  obtain ⟨o1, o2⟩ := out_of rd ((hb1.mono d1).append (hb2.mono d2)) (by rw [PyData.depth]; exact Nat.lt_succ_self _)
  refine ⟨o, es, ep, b1 ++ b2, ho, hx.1, hd, hsys, o1, o2, ?_⟩
  rw [PyData.shownKv_eq, e1, e2]
  exact .of_two es.toList _ _ (k1.more_le (fun b z => List.mem_append_left _ z) d1) (k2.more_le (fun b z => List.mem_append_right _ z) d2)
mutual
theorem Da.rk (I : Inv X pins σ H s) : ∀ {v : V} {d : PyData}, Da X.K N H v d → ∀ {u : Value}, RelV v u → d.showable = true → d.shown.length ≤ sizeLine →
    ∃ bs, ReadAtMost s.heap d.depth bs ∧ ReprK X.prog X.w bs s.heap d.depth u d.shown
  | _, _, .non, _, r, _, _ => by
    cases r
    refine ⟨[], fun _ z => (nomatch z), ?_⟩
    rw [PyData.shown]
    exact .of_is .none _ _ _
  | _, _, .bl b, _, r, _, _ => by
    cases r
    refine ⟨[], fun _ z => (nomatch z), ?_⟩
    rw [PyData.shown]
    exact .of_is (.bool b) _ _ _
  | _, _, .int i, _, r, hs, _ => by
    obtain ⟨t, rfl⟩ := r
    refine ⟨[], fun _ z => (nomatch z), ?_⟩
    rw [PyData.showable, decide_eq_true_eq] at hs
    rw [PyData.shown]
    exact .of_is (.int t hs) _ _ _
  | _, _, .str x, _, r, _, hz => by
    obtain ⟨t, rfl⟩ := r
    refine ⟨[], fun _ z => (nomatch z), ?_⟩
    rw [PyData.shown] at hz ⊢
    exact .of_is (.str x t hz) _ _ _
  | _, _, .lst (a := a) (ds := ds) h ne ra, _, r, hs, hz => by
    cases r
    obtain ⟨as, rd⟩ := reads_of I (.lst h ne ra) (u := .ref a) rfl
    obtain ⟨its, rv, ⟨o, n, ho, hc, _, hd⟩, _⟩ := I.list (SqL.of h)
    rw [PyData.showable] at hs
    rw [PyData.shown] at hz ⊢
    obtain ⟨bs, hb, hk⟩ := DaAll.rk I ra rv hs fun t ht => Nat.le_trans (listText_mem_le ht) hz
    obtain ⟨o1, o2⟩ := out_of rd hb (by rw [PyData.depth]; exact Nat.lt_succ_self _)
    refine ⟨a :: bs, o2, ?_⟩
    rw [PyData.depth]
    cases its with
    | nil =>
      cases rv
      cases ra
      rw [PyData.shownAll, listText_nil]
      exact .listEmpty ho hc hd
    | cons y t =>
      refine .list ho hc hd o1 ?_ fun i z e => hk.item i z ?_
      · simpa using hk.length_eq
      · simpa using e
  | _, _, .tup (a := a) h ra, _, r, hs, hz => by
    cases r
    obtain ⟨as, rd⟩ := reads_of I (.tup (N := N) h ra) (u := .ref a) rfl
    obtain ⟨its, rv, ⟨o, ho, hc, n, hd⟩, _⟩ := I.tuple h
    rw [PyData.showable] at hs
    rw [PyData.shown] at hz ⊢
    obtain ⟨bs, hb, hk⟩ := DaAll.rk I ra rv hs fun t ht => Nat.le_trans (tupleText_mem_le ht) hz
    obtain ⟨o1, o2⟩ := out_of rd hb (by rw [PyData.depth]; exact Nat.lt_succ_self _)
    refine ⟨a :: bs, o2, ?_⟩
    rw [PyData.depth]
    exact .tuple ho hc hd o1 (by simpa using hk)
  | _, _, .dct (a := a) (kvs := kvs) (ds := ds) h ne ra, _, r, hs, hz => by
    cases r
    rw [PyData.showable] at hs
    rw [PyData.shown] at hz ⊢
    obtain ⟨o, es, ep, bs, h1, h2, h3, h4, h5, h6, h7⟩ := dct_of I h ne ra hz hs fun rv s2 z2 => DaAll.rk I ra rv s2 z2
    refine ⟨a :: bs, h6, ?_⟩
    rw [PyData.depth]
    exact .dict h1 h2 h3 h4 h5 h7
theorem DaAll.rk (I : Inv X pins σ H s) : ∀ {vs : List V} {ds : List PyData}, DaAll X.K N H vs ds → ∀ {us : List Value}, Vals vs us → PyData.showableAll ds = true → (∀ t ∈ PyData.shownAll ds, t.length ≤ sizeLine) →
    ∃ bs, ReadAtMost s.heap (PyData.depthAll ds) bs ∧ ReprAllK X.prog X.w bs s.heap (PyData.depthAll ds) us (PyData.shownAll ds)
  | _, _, .nil, _, r, _, _ => by
    cases r
    refine ⟨[], fun _ z => (nomatch z), ?_⟩
    rw [PyData.shownAll]
    exact .nil
  | _, _, .cons (d := d) (ds := ds) a ra, _, r, hs, hz => by
    cases r with
    | cons r1 r2 =>
      rw [PyData.showableAll, Bool.and_eq_true] at hs
      rw [PyData.shownAll] at hz ⊢
      obtain ⟨b1, h1, k1⟩ := Da.rk I a r1 hs.1 (hz _ (List.mem_cons_self ..))
      obtain ⟨b2, h2, k2⟩ := DaAll.rk I ra r2 hs.2 fun t ht => hz t (List.mem_cons_of_mem _ ht)
      rw [PyData.depthAll]
      exact ⟨b1 ++ b2, .append (h1.mono (Nat.le_max_left _ _)) (h2.mono (Nat.le_max_right _ _)),
        .cons ((k1.more fun b z => List.mem_append_left _ z).level_le (Nat.le_max_left _ _)) (k2.more_le (fun b z => List.mem_append_right _ z) (Nat.le_max_right _ _))⟩
end
end
section
variable {X : Cx}
/-- repr of data: nothing else is shown around, and there is room -/
def rRepr (K : PySem.W.Frag) (un : Nat) : List V → Hp → VK → Prop := fun xs H Q => ∃ (N : Addr → Prop) (v : V) (d : PyData) (n : Nat), xs = [v] ∧ Da K N H v d ∧ Fit n 150 d ∧ n ≤ sizeLine ∧
  un + 151 < cLine ∧ Q (.str d.shown) H
theorem call_reprD (hg : X.A.guards = some []) : CallR X (.builtin "repr") (rRepr X.K X.A.units) := by
  intro pins s σ H xs us Q I r h
  obtain ⟨N, v, d, n, rfl, hd, hf, hn, hu, q⟩ := h
  obtain ⟨u, rfl, r1⟩ := vals1 r
  have hz : d.shown.length ≤ sizeLine := Nat.le_trans (shownLen d) (Nat.le_trans hf.wt hn)
  have hdp := hf.dp
  have hsh := hf.sh
  have fin : ∀ (h' : Heap) (u : Tok) (tk : Nat), (∀ b o, s.heap.get? b = some o → h'.get? b = some o) → EP X pins σ Q (.str d.shown u) { s with heap := h', toks := tk } := fun h' u tk k => ⟨.str _, H, I.kept k, ⟨u, rfl⟩, q⟩
  cases hd with
  | non =>
    cases r1
    exact PySem.P.repr_of_none ⟨.str _, H, I.tok _, ⟨_, rfl⟩, q⟩
  | bl b =>
    cases r1
    exact PySem.P.repr_of_bool ⟨.str _, H, I.tok _, ⟨_, rfl⟩, q⟩
  | int i =>
    obtain ⟨t, rfl⟩ := r1
    rw [PyData.showable, decide_eq_true_eq] at hsh
    exact PySem.P.repr_of_int hsh ⟨.str _, H, I.tok _, ⟨_, rfl⟩, q⟩
  | str x =>
    obtain ⟨t, rfl⟩ := r1
    exact PySem.P.repr_of_str ⟨.str _, H, I.tok _, ⟨_, rfl⟩, q⟩ hz
  | @lst a xs ds h1 h2 h3 =>
    cases r1
    obtain ⟨as, rd⟩ := reads_of I (.lst h1 h2 h3) (u := .ref a) rfl
    obtain ⟨its, rv, ⟨o, m, ho, hc, _, hdt⟩, _⟩ := I.list (SqL.of h1)
    rw [PyData.showable] at hsh
    rw [PyData.shown] at hz fin
    rw [PyData.depth] at hdp
    obtain ⟨bs, hb, hk⟩ := DaAll.rk I h3 rv hsh fun t ht => Nat.le_trans (listText_mem_le ht) hz
    obtain ⟨o1, _⟩ := out_of rd hb (by rw [PyData.depth]; exact Nat.lt_succ_self _)
    refine call_repr_slot (by omega) ⟨o, ho, hc⟩ PySem.F.slot_list_repr.toG ?_
    cases its with
    | nil =>
      cases rv
      cases h3
      rw [PyData.shownAll, listText_nil] at fin
      exact call_list_repr_empty ⟨o, ho, hc⟩ ho hdt ⟨_, _, rfl, fin s.heap _ _ fun _ _ e => e⟩
    | cons y t =>
      refine call_list_reprK ho hc hdt o1 ?_ (fun i z e => hk.item i z ?_) hg (fun b _ => Clear.nil b) ?_ (fun _ _ e => e) (fun h' u tk k => ⟨_, _, rfl, fin h' u tk k⟩) hz
      · simpa using hk.length_eq
      · simpa using e
      · show X.A.units + 1 + (PyData.depthAll ds + 1) < cLine
        omega
  | @tup a xs ds h1 h3 =>
    cases r1
    obtain ⟨as, rd⟩ := reads_of I (.tup (N := N) h1 h3) (u := .ref a) rfl
    obtain ⟨its, rv, ⟨o, ho, hc, m, hdt⟩, _⟩ := I.tuple h1
    rw [PyData.showable] at hsh
    rw [PyData.shown] at hz fin
    rw [PyData.depth] at hdp
    obtain ⟨bs, hb, hk⟩ := DaAll.rk I h3 rv hsh fun t ht => Nat.le_trans (tupleText_mem_le ht) hz
    obtain ⟨o1, _⟩ := out_of rd hb (by rw [PyData.depth]; exact Nat.lt_succ_self _)
    refine call_repr_slot (by omega) ⟨o, ho, hc⟩ PySem.F.slot_tuple_repr ?_
    refine call_tuple_reprK ho hc hdt o1 (by simpa using hk) hg (fun b _ => Clear.nil b) ?_ (fun _ _ e => e) (fun h' u tk k => ⟨_, _, rfl, fin h' u tk k⟩) hz
    show X.A.units + 1 + (PyData.depthAll ds + 1) < cLine
    omega
  | @dct a kvs ds h1 h2 h3 =>
    cases r1
    rw [PyData.showable] at hsh
    rw [PyData.shown] at hz fin
    rw [PyData.depth] at hdp
    obtain ⟨o, es, ep, bs, g1, g2, g3, g4, g5, g6, g7⟩ := dct_of I h1 h2 h3 hz hsh fun rv s2 z2 => DaAll.rk I h3 rv s2 z2
    refine call_repr_slot (by omega) ⟨o, g1, g2⟩ PySem.F.slot_dict_repr ?_
    refine call_dict_reprK g1 g2 g3 g4 g5 g7 hg (fun b _ => Clear.nil b) ?_ (fun _ _ e => e) (fun h' u tk k => ⟨_, _, rfl, fin h' u tk k⟩) hz
    show X.A.units + 1 + (PyData.depthKv ((kvs.map fun q => kD q.1).zip ds) + 1) < cLine
    omega
end

/-! ### a def that runs where nothing is being shown -/
structure FnG (P : Program) (w : World) (K : PySem.W.Frag) (mg : Str → Option Value) (base : Heap) (k : Nat) (f : Addr) (fd : FuncData) (ps : List Str) (sp : Sp) : Prop where
  len : ∀ vs H Q E, sp vs H Q E → vs.length = ps.length
  run : ∀ (A : Around) (outer : List Env) (s : Shared) (H : Hp) (args : Args) (us : List Value) (vs : List V) (Q : VK) (E : XK),
    A.guards = some [] → Room k A → Env0 P w K mg base A outer s H → BindsTo s fd args (ps.zip us) → Vals vs us → sp vs H Q E →
    codeAny (model P w) A (.call (.ref f) args) (CR CX0 outer P w H s Q E) s
/-- the end of a body, as the end of its call -/
theorem ends_call {P : Program} {w : World} {K : PySem.W.Frag} {mg : Str → Option Value} {base : Heap} {N : List Str} {qual : Str} {scope : Scope} {f : Addr} {cd : Value} {A : Around} {outer : List Env} {s s' : Shared} {H : Hp} {E : XK} {Q : VK} {fl : Flow}
    (h : SP (cxOf CX0 P w K mg base N qual scope f cd A outer s H E) [] { nx := fun _ H' => Q .non H', rt := Q } fl s') :
    match fl with
    | .next => CE outer P w H s Q .none s'
    | .ret u => CE outer P w H s Q u s'
    | _ => False := by
  cases fl with
  | next =>
    obtain ⟨_, H', J, q⟩ := h
    exact ⟨.non, H', J.os, J.bare, J.base, J.hok, rfl, q⟩
  | ret u =>
    obtain ⟨v, _, H', J, r, q⟩ := h
    exact ⟨v, H', J.os, J.bare, J.base, J.hok, r, q⟩
  | brk =>
    obtain ⟨_, _, _, q⟩ := h
    exact q
  | cont =>
    obtain ⟨_, _, _, q⟩ := h
    exact q
theorem Fun.okG {P : Program} {w : World} {K : PySem.W.Frag} {mg : Str → Option Value} {base : Heap} {x qual : Str} {st : Stmt} {f : Addr} {fd : FuncData} {N ps : List Str} {k : Nat} {sp : Sp} (F : Fun K x qual st f fd) (S : FnScope N ps (defScope st))
    (len : ∀ vs H Q E, sp vs H Q E → vs.length = ps.length)
    (body : ∀ (cdv : Value) (A : Around) (outer : List Env) (s : Shared) (H : Hp) (vs : List V) (Q : VK) (E : XK), A.guards = some [] → Room k (A.deeper (envOfC qual (defScope st) s.heap.objs.size f cdv)) → sp vs H Q E →
      ∃ t, PSs (cxOf CX0 P w K mg base N qual (defScope st) f cdv A outer s H E).nox (defBody st) t ∧ t { nx := fun _ H' => Q .non H', rt := Q } (start N vs) H) : FnG P w K mg base (k + 1) f fd ps sp := by
  obtain ⟨oc, od, kV, doc, pm, an, cdv, ct, osl, rfl, lk, hcd⟩ := F.ex
  constructor
  · exact len
  · intro A outer s H args us vs Q E ag room e0 bind rel want
    have ln := len vs H Q E want
    have old : ∀ b o, base.get? b = some o → s.heap.get? b = some o := fun b o q => (e0.bs b o q).1
    have KS : K.In s.heap := e0.mod.kin.keeps old
    refine codeAny_call_function room.depth (KS _ _ lk) rfl S.co S.gen rfl (PySem.W.codeRec_of KS hcd) (bind _ _ _ _ ?_)
    refine wpAny_newFunctionEnv_cells S.kind ?_ ?_
    · intro y hy
      obtain ⟨n, v⟩ := y
      have hp := S.par n (List.of_mem_zip hy).1
      rcases hp with q | q
      · exact Or.inl q
      · exact Or.inr ⟨q, PySem.W.cellsFrom_some _ _ _ (Or.inl q)⟩
    · intro env he s1 x
      subst he
      refine ⟨(e0.mod.nolimit.keeps old).keeps x.toInCall.keep, codeAny_func ?_⟩
      obtain ⟨t, ht, hq⟩ := body cdv A outer s H vs Q E ag (room.deeper _) want
      have J : Inv (cxOf CX0 P w K mg base N qual (defScope st) f cdv A outer s H E) [] (start N vs) H s1 := inv_start S room.hd e0 ln rel x
      refine wpAny_mono (ht.nox.run [] s1 (start N vs) H _ J hq) (fun fl s' hs => ?_) fun _ _ z => z
      have z := ends_call hs
      cases fl with
      | next => exact z
      | ret u => exact z
      | brk => exact z.elim
      | cont => exact z.elim
theorem FnOk.g {P : Program} {w : World} {K : PySem.W.Frag} {mg : Str → Option Value} {base : Heap} {k : Nat} {f : Addr} {fd : FuncData} {ps : List Str} {sp : Sp} (F : FnOk P w K mg base CX0 k f fd ps sp) : FnG P w K mg base k f fd ps sp :=
  ⟨F.len, fun A outer s H args us vs Q E _ => F.run A outer s H args us vs Q E⟩
structure CallG (P : Program) (w : World) (K : PySem.W.Frag) (mg : Str → Option Value) (base : Heap) (k : Nat) (x : Str) (ps : List Str) (sp : Sp) : Prop where
  ex : ∃ (f : Addr) (fd : FuncData), FnG P w K mg base k f fd ps sp ∧ mg x = some (.ref f) ∧ PySem.W.keepIn K (.ref f) = true ∧ Binds K fd ps []
theorem DefAt.okG {P : Program} {w : World} {K : PySem.W.Frag} {mg : Str → Option Value} {base : Heap} {x : Str} {st : Stmt} {N ps : List Str} {k : Nat} {sp : Sp} (D : DefAt K mg x st ps) (S : FnScope N ps (defScope st)) (len : ∀ vs H Q E, sp vs H Q E → vs.length = ps.length)
    (body : ∀ (f : Addr) (cdv : Value) (A : Around) (outer : List Env) (s : Shared) (H : Hp) (vs : List V) (Q : VK) (E : XK), A.guards = some [] → Room k (A.deeper (envOfC x (defScope st) s.heap.objs.size f cdv)) → sp vs H Q E →
      ∃ t, PSs (cxOf CX0 P w K mg base N x (defScope st) f cdv A outer s H E).nox (defBody st) t ∧ t { nx := fun _ H' => Q .non H', rt := Q } (start N vs) H) : CallG P w K mg base (k + 1) x ps sp := by
  obtain ⟨f, fd, F, hm, hb⟩ := D.ex
  exact ⟨f, fd, Fun.okG F S len fun cdv A outer s H vs Q E ag hr h => body f cdv A outer s H vs Q E ag hr h, hm, F.kp, hb⟩
section
variable {X : Cx} {k j : Nat} {x : Str} {ps : List Str} {sp : Sp} {p pos : Pos} {e : Expr} {es : List Expr} {t : TA}
theorem pe_callG (ag : X.A.guards = some []) (C : CallG X.prog X.w X.K X.mg X.base k x ps sp) (hr : Room j X.A) (hj : k ≤ j) (hg : Gl X x) (ha : PA X (e :: es) t)
    (hdb : (x == ("__debug__" : Str)) = false := by decide) (he : starEach (e :: es) X.env = (false, eval e X.env) :: starEach es X.env := by rfl)
    (hpl : (backTo pos (starEach es X.env)).any (·.1) = false := by rfl) : PE X (.Call (.Name x p) (e :: es) [] pos) (tCall sp [] E0 t) := by
  obtain ⟨f, fd, F, hm, hk, hb⟩ := C.ex
  constructor
  intro pins s σ H Q I h
  refine wpAny_Call_Name_kw (ld_glob I hg hm ?_ hdb)
  refine PySem.W.callWith_K (h₀ := X.base) I.ok.mod.kin hk (thn (ha.run pos pins s σ H _ I h) fun us s1 q0 => ?_) he hpl
  obtain ⟨vs, H1, I1, r, q⟩ := q0
  refine ⟨I1.kIn, ?_⟩
  have r2 : Vals (vs ++ []) (us ++ []) := r.append .nil
  have ln : (us ++ []).length = ps.length := by
    rw [← r2.length]
    exact F.len _ _ _ _ q
  refine wpAny_call (codeAny_mono (F.run X.A X.stack s1 H1 ⟨us, []⟩ (us ++ []) (vs ++ []) Q E0 ag (hr.mono hj) I1.env0 (hb s1 us I1.kIn ln) r2 q) fun a s' z => ?_)
  match a, z with
  | .ok (.ret u), z => exact I1.after z
  | .ok .next, z => exact z.elim
  | .ok .brk, z => exact z.elim
  | .ok .cont, z => exact z.elim
  | .error _, z => exact z.elim
end
end Ow

namespace Ow
open PySem PySem.Spec PyProof.Rows L2

/-! ### the law's own call -/
/-- the script alone is known, where the module has it not -/
noncomputable def scriptH (K : PySem.W.Frag) (a : Addr) (ob : Obj) (ns : List Int) : Hp := fun b =>
  if b = a ∧ (K.lookup a).isNone = true then some (.frz ob (.lst (ns.map V.int))) else none
section
variable {K : PySem.W.Frag} {a b : Addr} {ob : Obj} {ns : List Int}
theorem scriptH_some {u : HO} (h : scriptH K a ob ns b = some u) : b = a ∧ (K.lookup a).isNone = true ∧ u = .frz ob (.lst (ns.map V.int)) := by
  unfold scriptH at h
  by_cases c : b = a ∧ (K.lookup a).isNone = true
  · rw [if_pos c] at h
    exact ⟨c.1, c.2, (Option.some.inj h).symm⟩
  · rw [if_neg c] at h
    cases h
theorem scriptH_only : Only (scriptH K a ob ns) := fun c => by
  cases e : scriptH K a ob ns c with
  | none => exact .inl rfl
  | some u =>
    obtain ⟨_, _, rfl⟩ := scriptH_some e
    exact .inr ⟨ob, _, rfl⟩
end
/-- a def of one parameter, run on the script from where the top has left off: True -/
theorem law_run {P : Program} {w : World} {K : PySem.W.Frag} {mg mb : Str → Option Value} {k : Nat} {fa a : Addr} {fd : FuncData} {x : Str} {sp : Sp} {t : Shared} {vs : List Value} {ns : List Int}
    (inK : K.In t.heap) (gl : t.heap.Ns mainGlobals mg) (bl : t.heap.Ns builtinsNs mb) (bl2 : ∀ x : Str, x ≠ "__name__" → mb x = bootBuiltins x) (lim : t.heap.NoLimit) (gens : t.gens = #[])
    (obj : t.heap.get? a = some { cls := .type "list", data := .seq vs.toArray }) (hints : IntsAre vs ns) (short : ns.length ≤ sizeLine) (room : Room k callerA)
    (F : ∀ base : Heap, K.In base → base.Ns mainGlobals mg → FnG P w K mg base k fa fd [x] sp) (bind : ∀ (s : Shared) (u : Value), BindsTo s fd ⟨[u], []⟩ [(x, u)])
    (want : ∀ H : Hp, Only H → SqL K H a (ns.map V.int) → sp [.ref a] H (fun v _ => v = .bl true) fun _ _ _ => False) :
    codeAny (model P w) callerA (.call (.ref fa) ⟨[.ref a], []⟩) (fun r s' => r = .ok (.ret (.bool true)) ∧ OldK t.heap s'.heap ∧ s'.os = t.os ∧ AllBare s'.gens) t := by
  have rel := vals_ints hints
  have len := hints.length
  generalize hS : scriptH K a { cls := .type "list", data := .seq vs.toArray } ns = S
  have only : Only S := hS ▸ scriptH_only
  have know : ∀ b u, S b = some u → b = a ∧ (K.lookup a).isNone = true ∧ u = .frz { cls := .type "list", data := .seq vs.toArray } (.lst (ns.map V.int)) := fun b u q => by
    rw [← hS] at q
    exact scriptH_some q
  have read : SqL K S a (ns.map V.int) := by
    cases q : K.lookup a with
    | none =>
      refine .inl (.inr ⟨{ cls := .type "list", data := .seq vs.toArray }, ?_⟩)
      rw [← hS]
      unfold scriptH
      rw [if_pos ⟨rfl, by rw [q]; rfl⟩]
    | some o =>
      have e := inK a o q
      rw [obj] at e
      cases e
      refine .inr ⟨_, vs.toArray, _, q, rfl, rfl, rfl, ?_, rel⟩
      rw [List.size_toArray, len]
      exact short
  have hok : HOk P w S t.heap := fun b u q => by
    obtain ⟨rfl, _, rfl⟩ := know b u q
    refine ⟨obj, ?_, vs, _, rel, obj⟩
    rw [List.length_map]
    exact short
  -- what is no list stands in the base
  have hid : ∀ {b : Addr} {o : Obj}, t.heap.get? b = some o → (b = a → (K.lookup a).isNone = true → False) → (hidT t.heap S).get? b = some o := fun {b o} q n => hidT_get q (by
    cases z : S b with
    | none => rfl
    | some u =>
      obtain ⟨e1, e2, _⟩ := know b u z
      exact (n e1 e2).elim)
  have ns_hid : ∀ {b : Addr} {m : Str → Option Value}, t.heap.Ns b m → (hidT t.heap S).Ns b m := fun {b m} q => by
    obtain ⟨o, es, ep, h1, h2, r⟩ := q
    refine ⟨o, es, ep, hid h1 (fun e _ => ?_), h2, r⟩
    subst e
    rw [obj] at h1
    cases h1
    cases h2
  have in_hid : K.In (hidT t.heap S) := fun b o q => hid (inK b o q) (fun e n => by
    subst e
    rw [q] at n
    cases n)
  have e0 : Env0 P w K mg (hidT t.heap S) callerA [] t S := by
    refine ⟨rfl, ⟨in_hid, ns_hid gl, ⟨mb, ns_hid bl, bl2⟩, ?_⟩, fun b o q => of_hidT q, Nat.le_of_eq (hidT_size _ _), trivial, fun b z => ?_, hok, .of_eq gens⟩
    · obtain ⟨mc, h1, h2⟩ := lim
      exact ⟨mc, ns_hid h1, h2⟩
    · cases z
  refine codeAny_mono ((F _ in_hid (ns_hid gl)).run callerA [] t S ⟨[.ref a], []⟩ [.ref a] [.ref a] _ _ rfl room e0 (bind t (.ref a)) (.cons rfl .nil) (want S only read)) fun r s' h => ?_
  match r, h with
  | .ok (.ret u), h =>
    obtain ⟨v, H', os, bare, un, hok', r', q⟩ := h
    obtain rfl : v = .bl true := q
    obtain rfl : u = Value.bool true := r'
    refine ⟨rfl, OldK.of_keep fun b o q => ?_, os, bare⟩
    cases z : S b with
    | none =>
      refine un.keep b o q z ?_ ?_
      · intro y
        cases y
      · intro y
        cases y
    | some u =>
      obtain ⟨_, _, rfl⟩ := know b u z
      obtain ⟨f1, _⟩ := hok b _ z
      obtain ⟨f2, _⟩ := hok' b _ (un.frzs b _ _ z)
      rw [q] at f1
      cases f1
      exact f2
  | .ok .next, h => exact h.elim
  | .ok .brk, h => exact h.elim
  | .ok .cont, h => exact h.elim
  | .error _, h => exact h.elim

/-- the goal of the head (case hc) -/
theorem walkG {l : PySem.W.OpenLaw} {n k : Nat} {q : Program} {loose : List Str} {XP : (Str → Option Value) → Heap → Prop} {YP : World → Heap → Prop} {d : DefRec} {K : Params → PySem.W.Frag} {sp : PySem.W.Frag → Sp} {x : Str}
    (hn : l.most = some n) (hn2 : n ≤ sizeLine) (hdf : d.params.defaults = []) (hr : Room k callerA) (hY : ∀ (w : World) (h : Heap), YP w h → (K w.params).In h)
    (F : ∀ (w : World) (mg : Str → Option Value) (fa : Addr) (h : Heap), (K w.params).In h → h.Ns mainGlobals mg → mg d.name = some (.ref fa) →
      ∃ fd : FuncData, (∀ (s : Shared) (u : Value), BindsTo s fd ⟨[u], []⟩ [(x, u)]) ∧
        ∀ base : Heap, (K w.params).In base → base.Ns mainGlobals mg → FnG l.prog w (K w.params) mg base k fa fd [x] (sp (K w.params)))
    (want : ∀ (K : PySem.W.Frag) (H : Hp) (a : Addr) (ns : List Int), ns.length ≤ n → Only H → SqL K H a (ns.map V.int) → sp K [.ref a] H (fun v _ => v = .bl true) fun _ _ _ => False) :
    PySem.W.WalkO q loose XP YP l.row.toRowW d [] (fun f vs => PySem.call f vs) := by
  refine Att.attach_call hn hdf fun w s₀ s₁ mg mb fa o pm cd doc a vs ns G Y ho hd hcd hmg hobj hints hlen hg => ?_
  obtain ⟨fd, hb, hF⟩ := F w mg fa _ (hY w _ Y) G.T.g hmg
  exact law_run (hY w _ Y) G.T.g G.T.b G.T.builtins G.T.nolimit hg hobj hints (Nat.le_trans hlen hn2) hr hF hb fun H h1 h2 => want _ H a ns hlen h1 h2
end Ow
namespace Ow
open PySem PySem.Spec PyProof.Rows L2
/-! ### names of the module -/
/-- the built-in names that the text leaves alone -/
structure Bl (mg : Str → Option Value) : Prop where
  len_ : mg "len" = none
  list_ : mg "list" = none
  range_ : mg "range" = none
  isinstance_ : mg "isinstance" = none
  all_ : mg "all" = none
  any_ : mg "any" = none
  tuple_ : mg "tuple" = none
  repr_ : mg "repr" = none
  zip_ : mg "zip" = none
  str_ : mg "str" = none
  bool_ : mg "bool" = none
  int_ : mg "int" = none
  set_ : mg "set" = none
  sum_ : mg "sum" = none
  max_ : mg "max" = none
  min_ : mg "min" = none
  dict_ : mg "dict" = none
  sorted_ : mg "sorted" = none
  enumerate_ : mg "enumerate" = none
/-- a module's constant -/
def GV (mg : Str → Option Value) (x : Str) (v : V) : Prop := ∃ u, mg x = some u ∧ RelV v u
theorem pe_gv {X : Cx} {x : Str} {v : V} {pos : Pos} (h : GV X.mg x v) (hg : Gl X x) (hd : (x == ("__debug__" : Str)) = false := by decide) : PE X (.Name x pos) (tC v) := by
  obtain ⟨u, hm, r⟩ := h
  exact pe_glob hg hm r hd

/-! ### the pen's mathematics -/
theorem cut_front (ns : List Int) (k : Nat) : cutV (ns.map V.int) none (some (k : Int)) = (ns.take (min k ns.length)).map V.int := by
  unfold cutV
  rw [HT.sIx_none, HT.sIx_nat, List.drop_zero, Nat.sub_zero, List.length_map, List.map_take]
theorem dp_ints (K : PySem.W.Frag) (H : Hp) : ∀ cs : List Int, DpAll K H (cs.map V.int) (cs.map PyData.int)
  | [] => .nil
  | c :: cs => .cons (.int c) (dp_ints K H cs)
theorem at_mod (cs : List Int) (z : Int) (h : 0 < cs.length) : ∃ v : Int, atI (cs.map V.int) (z % (cs.length : Int)) = some (.int v) := by
  have h1 : 0 ≤ z % (cs.length : Int) := Int.emod_nonneg _ (by omega)
  have h2 : z % (cs.length : Int) < cs.length := Int.emod_lt_of_pos _ (by omega)
  obtain ⟨j, hj⟩ : ∃ j : Nat, z % (cs.length : Int) = (j : Int) := ⟨(z % (cs.length : Int)).toNat, by omega⟩
  rw [hj] at h2 ⊢
  have h3 : j < cs.length := by omega
  refine ⟨cs[j], atI_nat ?_⟩
  rw [List.getElem?_map, List.getElem?_eq_getElem h3]
  rfl
/-! ### the pen's promises -/
def spPen (K : PySem.W.Frag) : Sp := fun vs H Q _ => ∃ (a : Addr) (ns : List Int), vs = [.ref a] ∧ SqL K H a (ns.map V.int) ∧ ns.length ≤ 63 ∧
  ∀ (p c : Addr) (H' : Hp), Pen H' p c → Same H H' → H p = none → H c = none → Q (.ref p) H'
def spFresh : Sp := fun vs H Q _ => ∃ (p c : Addr), vs = [.ref p] ∧ Pen H p c ∧ ∀ (n : Int) (H' : Hp), Pen H' p c → Kp p H H' → Q (.int n) H'
def spDraw : Sp := fun vs H Q _ => ∃ (p c : Addr) (b : Int), vs = [.ref p, .int b] ∧ Pen H p c ∧ 0 < b ∧ b < 1073741824 ∧
  ∀ (n : Int) (H' : Hp), 0 ≤ n → n < b → Pen H' p c → Kp p H H' → Q (.int n) H'
/-- a name: one to eight small letters -/
def Nm (x : Str) : Prop := 0 < x.cps.size ∧ x.cps.size ≤ 8 ∧ ∀ c ∈ x.cps.toList, 97 ≤ c ∧ c ≤ 122
def spName : Sp := fun vs H Q _ => ∃ (p c g : Addr) (gs : List Str), vs = [.ref p, .ref g] ∧ Pen H p c ∧ H g = some (.lst (gs.map V.str)) ∧ g ≠ p ∧ gs.length ≤ 600 ∧
  ∀ (x : Str) (H' : Hp), Nm x → Pen H' p c → Kp p H H' → Q (.str x) H'
end Ow
namespace Ow
open PySem PySem.Spec PyProof.Rows L2
theorem shaped_intsAll : ∀ cs : List Int, PyData.canLayAll0 (cs.map PyData.int) = true ∧ PyData.depthAll (cs.map PyData.int) ≤ 1
  | [] => by simp [PyData.canLayAll0, PyData.depthAll]
  | c :: cs => by
    obtain ⟨h1, h2⟩ := shaped_intsAll cs
    refine ⟨?_, ?_⟩
    · simp only [List.map_cons, PyData.canLayAll0, PyData.canLay0, h1, Bool.and_self]
    · simp only [List.map_cons, PyData.depthAll, PyData.depth]
      omega
theorem shaped_ints (cs : List Int) : SeqAt.shaped (.list (cs.map PyData.int)) = true := by
  obtain ⟨h1, h2⟩ := shaped_intsAll cs
  have h3 : (PyData.list (cs.map PyData.int)).depth ≤ 64 := by
    simp only [PyData.depth]
    omega
  unfold SeqAt.shaped
  rw [decide_eq_true h3, Bool.and_true]
  simp only [PyData.canLay0]
  exact h1
theorem shaped_nil : SeqAt.shaped (.list []) = true := shaped_ints []
theorem eqv_nil (cs : List Int) : PyData.eqv (.list (cs.map PyData.int)) (.list []) = cs.isEmpty := by
  cases cs with
  | nil => simp [PyData.eqv, PyData.eqvAll]
  | cons c cs => simp [PyData.eqv, PyData.eqvAll]
theorem le_line {n : Nat} (h : n ≤ 16000000) : n ≤ sizeLine := Nat.le_trans h (by decide)
theorem lt_line {n : Nat} (h : n ≤ 16000000) : n < sizeLine := Nat.lt_of_le_of_lt h (by decide)
end Ow
namespace Ow
open PySem PySem.Spec PyProof.Rows L2
/-! ### names' mathematics -/
abbrev abc : Str := Str.ofString "abcdefghijklmnopqrstuvwxyz"
theorem abc_list : abc.cps.toList = (List.range 26).map (97 + ·) := by decide +kernel
theorem abc_at {n : Int} (h0 : 0 ≤ n) (h1 : n < 26) : ∃ c : Nat, atI abc.cps.toList n = some c ∧ 97 ≤ c ∧ c ≤ 122 := by
  obtain ⟨j, rfl⟩ : ∃ j : Nat, n = (j : Int) := ⟨n.toNat, by omega⟩
  refine ⟨97 + j, atI_nat ?_, by omega, by omega⟩
  rw [abc_list, List.getElem?_map, List.getElem?_range (by omega)]
  rfl
theorem abc_len : abc.length ≤ sizeLine := by decide +kernel
/-- small letters alone, so many -/
def Lt (x : Str) (n : Nat) : Prop := x.cps.size = n ∧ ∀ c ∈ x.cps.toList, 97 ≤ c ∧ c ≤ 122
theorem lt_nil : Lt (Str.ofString "") 0 := ⟨by decide, fun c h => by
  have e : (Str.ofString "").cps.toList = [] := by decide
  rw [e] at h
  cases h⟩
theorem app_cps (x y : Str) : (x ++ y).cps.toList = x.cps.toList ++ y.cps.toList := by
  show (x.cps ++ y.cps).toList = _
  rw [Array.toList_append]
theorem Lt.app {x y : Str} {n m : Nat} (h : Lt x n) (k : Lt y m) : Lt (x ++ y) (n + m) := by
  refine ⟨?_, fun c hc => ?_⟩
  · show (x.cps ++ y.cps).size = _
    rw [Array.size_append, h.1, k.1]
  · rw [app_cps] at hc
    exact (List.mem_append.mp hc).elim (h.2 c) (k.2 c)
theorem lt_one {c : Nat} (h1 : 97 ≤ c) (h2 : c ≤ 122) : Lt ⟨#[c]⟩ 1 := ⟨rfl, fun d hd => by
  have e : d = c := by simpa using hd
  subst e
  exact ⟨h1, h2⟩⟩
theorem Lt.front {x : Str} {n : Nat} (h : Lt x n) (k : Nat) : ∃ m, m ≤ k ∧ Lt (cutS x none (some (k : Int))) m := by
  have e : (cutS x none (some (k : Int))).cps.toList = x.cps.toList.take (min k x.length) := by
    unfold cutS
    rw [HT.sIx_none, HT.sIx_nat, List.drop_zero, Nat.sub_zero]
  have z : (cutS x none (some (k : Int))).cps.size = (x.cps.toList.take (min k x.length)).length := by
    rw [← e, Array.length_toList]
  refine ⟨_, ?_, rfl, fun c hc => ?_⟩
  · rw [z, List.length_take]
    omega
  · rw [e] at hc
    exact h.2 c (List.mem_of_mem_take hc)
theorem Lt.nm {x : Str} {n : Nat} (h : Lt x n) (h0 : 0 < n) (h8 : n ≤ 8) : Nm x := ⟨by rw [h.1]; exact h0, by rw [h.1]; exact h8, h.2⟩
theorem Lt.len {x : Str} {n : Nat} (h : Lt x n) : x.length = n := h.1
end Ow

/-! Data of any kind beside a text: equal, in a tuple of texts. -/
namespace PySem.SeqAt
open AutoSeq1 (wpAny_loadPart')
open MeetsSeq
theorem str_no_dict (b : Str) (u : Tok) (l : Addr) (c : Value) (es : Array DictEntry) (n : Nat) (dd : Option Addr) (sl : Array (Option Value)) :
    Meets (Builtin.«str.__eq__» ⟨[.str b u, .ref l], []⟩) (fun _ R s => s.heap.get? l = some { cls := c, dict := dd, data := .dict es n, slots := sl } ∧ R (.ok (.ret .notImplemented)) s) :=
  .of_wp fun prog w A R s h => by
    obtain ⟨hp, g, d, tk, os⟩ := s
    obtain ⟨hl, h⟩ := h
    wp_walk using wpAny_loadPart' hl, wpAny_load hl
    exact ⟨_, rfl, h⟩
theorem dict_no_str (l : Addr) (es : Array DictEntry) (n : Nat) (dd : Option Addr) (sl : Array (Option Value)) (b : Str) (u : Tok) :
    Meets (Builtin.«dict.__eq__» ⟨[.ref l, .str b u], []⟩) (fun _ R s => s.heap.get? l = some { cls := .type "dict", dict := dd, data := .dict es n, slots := sl } ∧ R (.ok (.ret .notImplemented)) s) :=
  .of_wp fun prog w A R s h => by
    obtain ⟨hp, g, d, tk, os⟩ := s
    obtain ⟨hl, h⟩ := h
    have f1 : isSubtype (.type "str") (.type "dict") = pure false := by rw [isSubtype_type]; kernel_rfl
    wp_walk using wpAny_loadPart' hl, wpAny_load hl
    exact ⟨_, rfl, h⟩
section
variable {A : Around} {s : Shared}
theorem str_dict {l : Addr} {o : Obj} {es : Array DictEntry} {n : Nat} (b : Str) (u : Tok) (ho : s.heap.get? l = some o) (hc : o.cls = .type "dict") (hd : o.data = .dict es n) (hu : A.units < cLine) : EqAt A s (.str b u) (.ref l) false := fun prog w E Q h => by
  obtain ⟨cls, dd, data, sl⟩ := o
  simp only at hc hd
  subst hc hd
  unfold eqBool
  refine wpAny_holding ?_
  refine wpAny_ite_split (fun hab => absurd (eq_of_beq hab) nofun) (fun _ => ?_)
  refine wpAny_bind (rc_eq_decline_or (k := false) (typeIs_str s b u) ⟨_, ho, rfl⟩ (by decide) F.sub_dict_str F.slot_str_eq F.slot_dict_eq_refl ?_ ?_ ?_ (.inr hu) (wpAny_truthy_bool h))
  · exact fun _ hq => call_meets F.slot_str_eq (typeIs_str s b u) F.entry_str_eq (F.args_str_eq_2 _ _) (str_no_dict b u l (.type "dict") es n dd sl) ⟨ho, hq⟩
  · exact fun _ hq => call_meets F.slot_dict_eq_refl ⟨_, ho, rfl⟩ F.entry_dict_eq (F.args_dict_eq_2 _ _) (dict_no_str l es n dd sl b u) ⟨ho, hq⟩
  · exact fun _ hq => wpAny_of_eq (rfl : isSame (.str b u) (.ref l) = pure false) hq
end
end PySem.SeqAt
namespace Ow
open PySem PySem.Spec PyProof.Rows L2
/-- whether a text is among some, of any data -/
def memD (d : PyData) (zs : List Str) : Bool := match d with
  | .str z => decide (z ∈ zs)
  | _ => false
/-- the equality that such an item has with the data -/
def eqD (d : PyData) : Value → Bool
  | .str b _ => (match d with | .str z => decide (b = z) | _ => false)
  | _ => false
section
variable {X : Cx} {pins : List (Addr × Obj)} {σ : L2.St} {H : Hp} {s : Shared} {N : Addr → Prop}
/-- a text beside data -/
theorem eq_text (I : Inv X pins σ H s) {A : Around} (hu : A.units < cLine) {v : V} {d : PyData} (h : Da X.K N H v d) {u : Value} (r : RelV v u) (b : Str) (t : Tok) : SeqAt.EqAt A s (.str b t) u (eqD d (.str b t)) := by
  cases h with
  | non => cases r; exact .str_none b t
  | bl x => cases r; exact .str_bool b t x
  | int i =>
    obtain ⟨t2, rfl⟩ := r
    exact .str_int b t i t2
  | str x =>
    obtain ⟨t2, rfl⟩ := r
    have e := SeqAt.EqAt.str_str (A := A) (s := s) b t x t2
    have e2 : (b == x) = decide (b = x) := by
      by_cases z : b = x
      · subst z
        simp
      · rw [decide_eq_false z]
        exact beq_eq_false_iff_ne.mpr z
    rw [e2] at e
    exact e
  | lst h1 h2 h3 =>
    cases r
    obtain ⟨its, rv, ⟨o, n, ho, hc, _, hd⟩, _⟩ := I.list (SqL.of h1)
    exact .str_list b t ⟨o, ho, hc, n, hd⟩ hu
  | tup h1 h3 =>
    cases r
    obtain ⟨its, rv, ht, _⟩ := I.tuple h1
    exact .str_tuple b t ht hu
  | dct h1 h2 h3 =>
    cases r
    obtain ⟨_, hsys, vs, kv, o, es, ep, ho, hx, hd, _⟩ := I.hok _ _ h1
    exact SeqAt.str_dict b t ho hx.1 hd hu
/-- x in a tuple of texts, x not in it -/
def rInT (K : PySem.W.Frag) (neg : Bool) : R2 := fun x y H Q => ∃ (N : Addr → Prop) (t : Addr) (zs : List Str) (d : PyData), y = .ref t ∧ SqT K H t (zs.map V.str) ∧ Da K N H x d ∧ Q (.bl (if neg then !memD d zs else memD d zs)) H
theorem strs_of : ∀ {zs : List Str} {us : List Value}, Vals (zs.map V.str) us → ∀ y ∈ us, ∃ z t, z ∈ zs ∧ y = .str z t
  | [], _, r, y, h => by
    cases r
    cases h
  | z :: zs, _, r, y, h => by
    rw [List.map_cons] at r
    cases r with
    | cons r1 r2 =>
      rcases List.mem_cons.mp h with e | h
      · obtain ⟨t, q⟩ := r1
        exact ⟨z, t, List.mem_cons_self .., e.trans q⟩
      · obtain ⟨z', t, h1, h2⟩ := strs_of r2 y h
        exact ⟨z', t, List.mem_cons_of_mem _ h1, h2⟩
theorem any_strs (d : PyData) : ∀ {zs : List Str} {us : List Value}, Vals (zs.map V.str) us → us.any (eqD d) = memD d zs
  | [], _, r => by
    cases r
    cases d <;> rfl
  | z :: zs, _, r => by
    rw [List.map_cons] at r
    cases r with
    | cons r1 r2 =>
      obtain ⟨t, rfl⟩ := r1
      rw [List.any_cons, any_strs d r2]
      cases d with
      | str x =>
        show (decide (z = x) || decide (x ∈ zs)) = decide (x ∈ z :: zs)
        rw [← Bool.decide_or]
        exact decide_eq_decide.mpr ⟨fun e => e.elim (fun e => e ▸ List.mem_cons_self ..) (List.mem_cons_of_mem _), fun e => (List.mem_cons.mp e).imp Eq.symm id⟩
      | _ => rfl
theorem op_inT (hu : X.A.units + 64 < cLine) : OpR X (compareOp .In) (rInT X.K false) := by
  intro pins s σ H x y v u Q I rx ry h
  obtain ⟨p, t, zs, d, rfl, ht, hd, q⟩ := h
  cases ry
  obtain ⟨its, rv, hit, _⟩ := I.tuple ht
  refine SeqAt.in_tupleAt (eqD d) hit (fun y hy => ?_) ?_
  · obtain ⟨z, tk, _, rfl⟩ := strs_of rv y (by simpa using hy)
    exact eq_text I (A := X.A.in1) (by show X.A.units + 1 < cLine; omega) hd rx z tk
  · refine ⟨.bl _, H, I, ?_, q⟩
    show Value.bool _ = Value.bool _
    rw [← any_strs d rv]
    simp
theorem op_notInT (hu : X.A.units + 64 < cLine) : OpR X (compareOp .NotIn) (rInT X.K true) := by
  intro pins s σ H x y v u Q I rx ry h
  obtain ⟨p, t, zs, d, rfl, ht, hd, q⟩ := h
  cases ry
  obtain ⟨its, rv, hit, _⟩ := I.tuple ht
  refine SeqAt.notIn_tupleAt (eqD d) hit (fun y hy => ?_) ?_
  · obtain ⟨z, tk, _, rfl⟩ := strs_of rv y (by simpa using hy)
    exact eq_text I (A := X.A.in1) (by show X.A.units + 1 < cLine; omega) hd rx z tk
  · refine ⟨.bl _, H, I, ?_, q⟩
    show Value.bool _ = Value.bool _
    rw [← any_strs d rv]
    simp
/-! ### isinstance of data -/
def tyD : PyData → String
  | .none => "NoneType"
  | .bool _ => "bool"
  | .int _ => "int"
  | .str _ => "str"
  | .list _ => "list"
  | .tuple _ => "tuple"
  | .dict _ => "dict"
theorem Da.ty {K : PySem.W.Frag} {v : V} {d : PyData} (h : Da K N H v d) : TyX K H v (.type (tyD d)) := by
  cases h with
  | non => exact .base .non
  | bl b => exact .base (.bl b)
  | int i => exact .base (.int i)
  | str x => exact .base (.str x)
  | lst h1 _ _ => exact .base (.lst h1)
  | tup h1 _ =>
    rcases h1 with (h1 | ⟨o, h1⟩) | ⟨o, its, n, hk, hc, _⟩
    · exact .base (.tup h1)
    · exact .fTuple h1
    · exact .kTuple hk hc
  | dct h1 _ _ => exact .base (.dK h1)
/-- isinstance(x, T) of data, T one of the built-in types that laws ask for -/
def rIsD (K : PySem.W.Frag) : List V → Hp → VK → Prop := fun xs H Q => ∃ (N : Addr → Prop) (v : V) (d : PyData) (T : String), xs = [v, .ty T] ∧ Da K N H v d ∧ (T = "str" ∨ T = "tuple" ∨ T = "bool") ∧ Q (.bl (decide (tyD d = T))) H
theorem kit_all : ∀ t ∈ ["NoneType", "bool", "int", "str", "list", "tuple", "dict"], ∀ T ∈ ["str", "tuple", "bool"], kitB t T = some (decide (t = T)) := by decide +kernel
theorem kit_tyD (d : PyData) (T : String) (h : T = "str" ∨ T = "tuple" ∨ T = "bool") : kitB (tyD d) T = some (decide (tyD d = T)) := by
  refine kit_all _ ?_ _ ?_
  · cases d <;> simp [tyD]
  · simpa using h
theorem call_isD : CallR X (.builtin "isinstance") (rIsD X.K) := by
  intro pins s σ H xs us Q I r h
  obtain ⟨p, v, d, T, rfl, hd, hT, q⟩ := h
  exact call_isi pins s σ H _ us Q I r ⟨v, .ty T, _, _, _, rfl, .ty T, hd.ty, kit_ty (kit_tyD d T hT), q⟩
end
end Ow

/-! How large data is; what is a name, a kind. -/
namespace Ow
open PySem PySem.Spec PyProof.Rows L2
/-! ### sizes -/
structure FitAll (n m : Nat) (ds : List PyData) : Prop where
  sh : PyData.showableAll ds = true
  wt : wtAll ds ≤ n
  dp : PyData.depthAll ds ≤ m
section
variable {n m n' m' k : Nat} {d : PyData} {ds es : List PyData}
theorem FitAll.nil : FitAll n m [] := ⟨by rw [PyData.showableAll], by rw [wtAll]; exact Nat.zero_le _, by rw [PyData.depthAll]; exact Nat.zero_le _⟩
theorem FitAll.cons (f : Fit n m d) (g : FitAll n' m ds) : FitAll (n + 2 + n') m (d :: ds) := by
  refine ⟨?_, ?_, ?_⟩
  · rw [PyData.showableAll, f.sh, g.sh]
    rfl
  · rw [wtAll]
    have := f.wt
    have := g.wt
    omega
  · rw [PyData.depthAll]
    have := f.dp
    have := g.dp
    omega
theorem FitAll.le (f : FitAll n m ds) (h : n ≤ n') (k : m ≤ m') : FitAll n' m' ds := ⟨f.sh, Nat.le_trans f.wt h, Nat.le_trans f.dp k⟩
theorem FitAll.append : ∀ {ds : List PyData} {n : Nat}, FitAll n m ds → FitAll n' m es → FitAll (n + n') m (ds ++ es)
  | [], n, _, g => g.le (by omega) (Nat.le_refl _)
  | d :: ds, n, f, g => by
    have hs := f.sh
    rw [PyData.showableAll, Bool.and_eq_true] at hs
    have hw := f.wt
    rw [wtAll] at hw
    have hd := f.dp
    rw [PyData.depthAll] at hd
    have f1 : Fit (Ow.wt d) m d := ⟨hs.1, Nat.le_refl _, by omega⟩
    have f2 : FitAll (wtAll ds) m ds := ⟨hs.2, Nat.le_refl _, by omega⟩
    exact (FitAll.cons f1 (f2.append g)).le (by omega) (Nat.le_refl _)
theorem Fit.tup (f : FitAll n m ds) : Fit (n + 4) (m + 1) (.tuple ds) := by
  refine ⟨by rw [PyData.showable]; exact f.sh, ?_, ?_⟩
  · rw [Ow.wt]
    have := f.wt
    omega
  · rw [PyData.depth]
    have := f.dp
    omega
theorem Fit.lst (f : FitAll n m ds) : Fit (n + 4) (m + 1) (.list ds) := by
  refine ⟨by rw [PyData.showable]; exact f.sh, ?_, ?_⟩
  · rw [Ow.wt]
    have := f.wt
    omega
  · rw [PyData.depth]
    have := f.dp
    omega
theorem Fit.items (f : Fit n (m + 1) (.tuple ds)) : 4 ≤ n ∧ FitAll (n - 4) m ds := by
  have h1 := f.sh
  have h2 := f.wt
  have h3 := f.dp
  rw [PyData.showable] at h1
  rw [Ow.wt] at h2
  rw [PyData.depth] at h3
  exact ⟨by omega, h1, by omega, by omega⟩
theorem Fit.deep (f : Fit n m (.tuple ds)) : ∃ m', m = m' + 1 := by
  have h3 := f.dp
  rw [PyData.depth] at h3
  exact ⟨m - 1, by omega⟩
theorem FitAll.split (f : FitAll n m ds) (k : Nat) : ∃ a b, a + b ≤ n ∧ FitAll a m (ds.take k) ∧ FitAll b m (ds.drop k) := by
  induction k generalizing ds n with
  | zero => exact ⟨0, n, by omega, .nil, by simpa using f⟩
  | succ k ih =>
    cases ds with
    | nil => exact ⟨0, 0, by omega, .nil, .nil⟩
    | cons d ds =>
      have hs := f.sh
      rw [PyData.showableAll, Bool.and_eq_true] at hs
      have hw := f.wt
      rw [wtAll] at hw
      have hd := f.dp
      rw [PyData.depthAll] at hd
      have f1 : Fit (Ow.wt d) m d := ⟨hs.1, Nat.le_refl _, by omega⟩
      have f2 : FitAll (wtAll ds) m ds := ⟨hs.2, Nat.le_refl _, by omega⟩
      obtain ⟨a, b, hab, fa, fb⟩ := ih f2
      exact ⟨Ow.wt d + 2 + a, b, by omega, .cons f1 fa, fb⟩
theorem FitAll.get {i : Nat} (f : FitAll n m ds) (h : ds[i]? = some d) : ∃ a b c, a + b + 2 + c ≤ n ∧ FitAll a m (ds.take i) ∧ Fit b m d ∧ FitAll c m (ds.drop (i + 1)) := by
  obtain ⟨a, b, hab, fa, fb⟩ := f.split i
  obtain ⟨hi, e⟩ := List.getElem?_eq_some_iff.mp h
  have q : ds.drop i = d :: ds.drop (i + 1) := by
    rw [← e]
    exact List.drop_eq_getElem_cons hi
  rw [q] at fb
  have hs := fb.sh
  rw [PyData.showableAll, Bool.and_eq_true] at hs
  have hw := fb.wt
  rw [wtAll] at hw
  have hd := fb.dp
  rw [PyData.depthAll] at hd
  exact ⟨a, Ow.wt d, wtAll (ds.drop (i + 1)), by omega, fa, ⟨hs.1, Nat.le_refl _, by omega⟩, ⟨hs.2, Nat.le_refl _, by omega⟩⟩
theorem FitAll.rep (f : Fit n m d) : ∀ k : Nat, ∀ {ds : List PyData}, ds.length = k → (∀ e ∈ ds, Fit n m e) → FitAll (k * (n + 2)) m ds
  | 0, [], _, _ => .nil
  | k + 1, e :: ds, h, g => by
    have h2 := FitAll.rep f k (ds := ds) (by simpa using h) fun x hx => g x (List.mem_cons_of_mem _ hx)
    refine (FitAll.cons (g e (List.mem_cons_self ..)) h2).le ?_ (Nat.le_refl _)
    rw [Nat.succ_mul]
    omega
end
theorem fit_str {x : Str} {n : Nat} (hc : ∀ c ∈ x.cps.toList, c < 16 ^ 8) (hn : x.length ≤ n) : Fit (11 * n + 2) 0 (.str x) := by
  refine ⟨by rw [PyData.showable], ?_, ?_⟩
  · rw [Ow.wt]
    have := StrLaws.reprText_len x hc
    omega
  · simp only [PyData.depth]
    exact Nat.zero_le _
theorem fit_nm {x : Str} (h : Nm x) : Fit 90 0 (.str x) := (fit_str (n := 8) (fun c hc => by have := (h.2.2 c hc).2; omega) h.2.1).le (by decide) (Nat.le_refl _)
theorem fit_str_len {n m : Nat} {x : Str} (f : Fit n m (.str x)) : x.length ≤ n := by
  have h := f.wt
  rw [Ow.wt] at h
  omega
/-! ### a tuple beside the empty one -/
def rEqU (K : PySem.W.Frag) : R2 := fun x y H Q => ∃ (a b : Addr) (xs : List V), x = .ref a ∧ y = .ref b ∧ SqT K H a xs ∧ SqT K H b [] ∧ Q (.bl xs.isEmpty) H
theorem op_eqU {X : Cx} (hu : X.A.units + 64 < cLine) : OpR X (compareOp .Eq) (rEqU X.K) := by
  intro pins s σ H x y v u Q I rx ry h
  obtain ⟨a, b, xs, rfl, rfl, ha, hb, q⟩ := h
  cases rx
  cases ry
  obtain ⟨its, rv, hit, _⟩ := I.tuple ha
  obtain ⟨its2, rv2, hit2, _⟩ := I.tuple hb
  cases rv2
  refine SeqAt.eq_tupleAt (e := fun _ => true) hit hit2 (by omega) (fun j h1 h2 => ?_) ?_
  · exact absurd h2 (Nat.not_lt_zero _)
  · refine ⟨.bl _, H, I, ?_, q⟩
    show Value.bool _ = Value.bool _
    cases rv with
    | nil => rfl
    | cons _ _ => simp
/-! ### names and kinds, of any data -/
def isNameD : PyData → Bool
  | .str z => decide (1 ≤ z.length) && decide (z.length ≤ 8) && z.cps.toList.all fun c => decide (c ∈ abc.cps.toList)
  | _ => false
def isRowD (d : PyData) (a b : Int) : Bool := match d with
  | .tuple ds => decide (a ≤ ds.length) && decide ((ds.length : Int) ≤ b)
  | _ => false
abbrev signs2 : List Str := [Str.ofString ">", Str.ofString "*"]
/-- a kind of at most so many within one another -/
def kindW : Nat → PyData → Bool
  | 0, _ => false
  | n + 1, d => match d with
    | .str z => isNameD (.str z)
    | .tuple [s, a, b] => decide (n ≠ 0) && memD s signs2 && kindW n a && kindW n b
    | _ => false
/-- whether no function stands in a kind -/
def shownW : Nat → PyData → Bool
  | 0, _ => true
  | n + 1, d => match d with
    | .tuple [s, a, b] => !(memD s [Str.ofString ">"]) && shownW n a && shownW n b
    | _ => true
end Ow
namespace Ow
open PySem PySem.Spec PyProof.Rows L2
section
variable {K : PySem.W.Frag} {N : Addr → Prop} {H H' : Hp}
theorem sqT_same {a : Addr} {xs : List V} (k : Same H H') (h : SqT K H a xs) : SqT K H' a xs := by
  rcases h with (h | ⟨o, h⟩) | h
  · exact .inl (.inl (k _ _ h))
  · exact .inl (.inr ⟨o, k _ _ h⟩)
  · exact .inr h
mutual
theorem Da.same (k : Same H H') : ∀ {v : V} {d : PyData}, Da K N H v d → Da K N H' v d
  | _, _, .non => .non
  | _, _, .bl b => .bl b
  | _, _, .int i => .int i
  | _, _, .str x => .str x
  | _, _, .lst h ne r => .lst (k _ _ h) ne (DaAll.same k r)
  | _, _, .tup h r => .tup (sqT_same k h) (DaAll.same k r)
  | _, _, .dct h ne r => .dct (k _ _ h) ne (DaAll.same k r)
theorem DaAll.same (k : Same H H') : ∀ {vs : List V} {ds : List PyData}, DaAll K N H vs ds → DaAll K N H' vs ds
  | _, _, .nil => .nil
  | _, _, .cons a r => .cons (Da.same k a) (DaAll.same k r)
end
theorem Da.tupInv {v : V} {ds : List PyData} (h : Da K N H v (.tuple ds)) : ∃ a xs, v = .ref a ∧ SqT K H a xs ∧ DaAll K N H xs ds := by
  cases h with
  | tup h r => exact ⟨_, _, rfl, h, r⟩
theorem Da.strInv {v : V} {x : Str} (h : Da K N H v (.str x)) : v = .str x := by
  cases h
  rfl
theorem Da.tup3 {v : V} {s a b : PyData} (h : Da K N H v (.tuple [s, a, b])) : ∃ t x y z, v = .ref t ∧ SqT K H t [x, y, z] ∧ Da K N H x s ∧ Da K N H y a ∧ Da K N H z b := by
  obtain ⟨t, xs, rfl, h1, h2⟩ := h.tupInv
  cases h2 with
  | cons g1 h2 =>
    cases h2 with
    | cons g2 h2 =>
      cases h2 with
      | cons g3 h2 =>
        cases h2
        exact ⟨_, _, _, _, rfl, h1, g1, g2, g3⟩
end
theorem ty_str {d : PyData} (h : tyD d = "str") : ∃ x, d = .str x := by
  cases d <;> simp [tyD] at h ⊢
theorem ty_tup {d : PyData} (h : tyD d = "tuple") : ∃ ds, d = .tuple ds := by
  cases d <;> simp [tyD] at h ⊢
theorem row3 {d : PyData} (h : isRowD d 3 3 = true) : ∃ s a b, d = .tuple [s, a, b] := by
  cases d with
  | tuple ds =>
    simp only [isRowD, Bool.and_eq_true, decide_eq_true_eq] at h
    match ds, h with
    | [s, a, b], _ => exact ⟨s, a, b, rfl⟩
    | [], h => simp at h
    | [_], h => simp at h
    | [_, _], h => simp at h
    | _ :: _ :: _ :: _ :: _, h =>
      simp only [List.length_cons] at h
      omega
  | _ => simp [isRowD] at h
theorem kind_str (n : Nat) (x : Str) : kindW (n + 1) (.str x) = isNameD (.str x) := rfl
theorem kind_tup (n : Nat) (s a b : PyData) : kindW (n + 1) (.tuple [s, a, b]) = (decide (n ≠ 0) && memD s signs2 && kindW n a && kindW n b) := rfl
theorem kind_no {n : Nat} {d : PyData} (h : tyD d ≠ "str") (h2 : n = 0 ∨ isRowD d 3 3 = false) : kindW (n + 1) d = false := by
  cases d with
  | str x => exact absurd rfl h
  | tuple ds =>
    match ds with
    | [s, a, b] =>
      rw [kind_tup]
      rcases h2 with h2 | h2
      · rw [h2]
        rfl
      · simp [isRowD] at h2
    | [] => rfl
    | [_] => rfl
    | [_, _] => rfl
    | _ :: _ :: _ :: _ :: _ => rfl
  | _ => rfl
theorem fit3 {n m : Nat} {s a b : PyData} (f : Fit n m (.tuple [s, a, b])) : Fit n m s ∧ Fit n m a ∧ Fit n m b := by
  obtain ⟨m', rfl⟩ := f.deep
  obtain ⟨h4, g⟩ := f.items
  obtain ⟨_, _, _, _, _, g0, _⟩ := g.get (i := 0) rfl
  obtain ⟨_, _, _, _, _, g1, _⟩ := g.get (i := 1) rfl
  obtain ⟨_, _, _, _, _, g2, _⟩ := g.get (i := 2) rfl
  exact ⟨g0.le (by omega) (by omega), g1.le (by omega) (by omega), g2.le (by omega) (by omega)⟩
/-! ### what the program's and the law's own looks promise -/
def spIsRow (K : PySem.W.Frag) : Sp := fun vs H Q _ => ∃ (N : Addr → Prop) (v : V) (d : PyData) (a b : Int), vs = [v, .int a, .int b] ∧ Da K N H v d ∧ Q (.bl (isRowD d a b)) H
def spIsName (K : PySem.W.Frag) : Sp := fun vs H Q _ => ∃ (N : Addr → Prop) (v : V) (d : PyData) (n m : Nat), vs = [v] ∧ Da K N H v d ∧ Fit n m d ∧ n ≤ 16000000 ∧ ∀ H', Same H H' → Q (.bl (isNameD d)) H'
def spKindW (K : PySem.W.Frag) (k : Nat) : Sp := fun vs H Q _ => ∃ (N : Addr → Prop) (v : V) (d : PyData) (n m : Nat) (z : Int), vs = [v, .int z] ∧ z = (k : Int) ∧ 1 ≤ k ∧ Da K N H v d ∧ Fit n m d ∧ n ≤ 16000000 ∧ ∀ H', Same H H' → Q (.bl (kindW k d)) H'
def spKind (K : PySem.W.Frag) : Sp := fun vs H Q _ => ∃ (N : Addr → Prop) (v : V) (d : PyData) (n m : Nat), vs = [v] ∧ Da K N H v d ∧ Fit n m d ∧ n ≤ 16000000 ∧ ∀ H', Same H H' → Q (.bl (kindW 6 d)) H'
def spShown (K : PySem.W.Frag) (neg : Bool) (k : Nat) : Sp := fun vs H Q _ => ∃ (N : Addr → Prop) (v : V) (d : PyData), vs = [v] ∧ Da K N H v d ∧ kindW k d = true ∧ Q (.bl (if neg then !shownW k d else shownW k d)) H
end Ow

/-! Comprehensions whose element is plain. -/
namespace Ow
open PySem PySem.Spec PyProof.Rows L2
/-- what a comprehension over J asks: the new list at D -/
def LcG (J : It) (g : TG) (tt : TT) (te : TE) (vs : List Nat) (σ : L2.St) (H1 : Hp) (D : Addr) (Qd : Hp → Prop) : Prop :=
  ∃ W : Nat → Nat → Hp → Prop, (∃ m, W 0 m (upd H1 D (.lst []))) ∧
    ∀ i m H, W i m H → (J.stop i H ∧ Qd H) ∨ (J.go i H ∧ ∃ Nx : Hp → Prop, (∀ H', Nx H' → ∃ m', m' < m ∧ W (i + 1) m' H') ∧
      ∀ x H', J.yld i H x H' → g x (wipe σ vs) H' fun σ2 H2 => wipe σ2 vs = wipe σ vs ∧
        tt σ2 H2 fun b H3 => if b = true then te σ2 H3 fun y H4 => ∃ acc, H4 D = some (.lst acc) ∧ acc.length < sizeLine ∧ Nx (upd H4 D (.lst (acc ++ [y]))) else Nx H3)
section
variable {j : Nat} {te : TE} {vs : List Nat} {σ : L2.St} {H1 : Hp} {D : Addr} {Qd : Hp → Prop}
/-- over a text: each sign's value is f of its code -/
theorem lc_str_map {x : Str} (f : Nat → V) (hx : x.cps.size < sizeLine) (hw : ∀ v, wipe ((wipe σ vs).set j (some v)) vs = wipe σ vs)
    (hv : ∀ c ∈ x.cps.toList, ∀ (H2 : Hp) (Q : VK), Q (f c) H2 → te ((wipe σ vs).set j (some (.str ⟨#[c]⟩))) H2 Q)
    (hd : Qd (upd H1 D (.lst (x.cps.toList.map f)))) : LcG (Its x) (gName j) tYes te vs σ H1 D Qd := by
  refine ⟨fun i m H => m = x.cps.size - i ∧ i ≤ x.cps.size ∧ H = upd H1 D (.lst ((x.cps.toList.take i).map f)), ⟨_, rfl, Nat.zero_le _, rfl⟩, ?_⟩
  rintro i m H ⟨rfl, hi, rfl⟩
  by_cases hl : i < x.cps.size
  · refine .inr ⟨hl, fun H => H = upd H1 D (.lst ((x.cps.toList.take (i + 1)).map f)), fun H' e => ⟨x.cps.size - (i + 1), by omega, rfl, hl, e⟩, fun y H' z => ?_⟩
    obtain ⟨rfl, c, hc, rfl⟩ := z
    have hc2 : x.cps.toList[i]? = some c := by
      rw [Array.getElem?_toList]
      exact hc
    refine ⟨hw _, ?_⟩
    simp only [tYes, if_true]
    refine hv c (List.mem_of_getElem? hc2) _ _ ⟨_, upd_same, ?_, ?_⟩
    · rw [List.length_map, List.length_take]
      omega
    · rw [upd_upd, List.take_add_one, hc2, List.map_append]
      rfl
  · have e : i = x.cps.size := by omega
    subst e
    refine .inl ⟨Nat.le_refl _, ?_⟩
    rw [List.take_of_length_le (by simp)]
    exact hd
/-- over a list or a tuple that stays: each item's value is f of it -/
theorem lc_seq_map {K : PySem.W.Frag} {J : It} {xs : List V} (hJ : ∀ i H, (i < xs.length → Same H1 H → J.go i H) ∧ (xs.length ≤ i → Same H1 H → J.stop i H)) (hy : ∀ i H x H', Same H1 H → J.yld i H x H' → H' = H ∧ xs[i]? = some x)
    (hD : H1 D = none) (f : V → V) (hx : xs.length < sizeLine) (hw : ∀ v, wipe ((wipe σ vs).set j (some v)) vs = wipe σ vs)
    (hv : ∀ x ∈ xs, ∀ (H2 : Hp) (Q : VK), Same H1 H2 → Q (f x) H2 → te ((wipe σ vs).set j (some x)) H2 Q)
    (hd : Qd (upd H1 D (.lst (xs.map f)))) : LcG J (gName j) tYes te vs σ H1 D Qd := by
  refine ⟨fun i m H => m = xs.length - i ∧ i ≤ xs.length ∧ H = upd H1 D (.lst ((xs.take i).map f)), ⟨_, rfl, Nat.zero_le _, rfl⟩, ?_⟩
  rintro i m H ⟨rfl, hi, rfl⟩
  have sm : ∀ l, Same H1 (upd H1 D (.lst l)) := fun l => same_new hD
  by_cases hl : i < xs.length
  · refine .inr ⟨(hJ i _).1 hl (sm _), fun H => H = upd H1 D (.lst ((xs.take (i + 1)).map f)), fun H' e => ⟨xs.length - (i + 1), by omega, rfl, hl, e⟩, fun y H' z => ?_⟩
    obtain ⟨rfl, hc⟩ := hy i _ y H' (sm _) z
    refine ⟨hw _, ?_⟩
    simp only [tYes, if_true]
    refine hv y (List.mem_of_getElem? hc) _ _ (sm _) ⟨_, upd_same, ?_, ?_⟩
    · rw [List.length_map, List.length_take]
      omega
    · rw [upd_upd, List.take_add_one, hc, List.map_append]
      rfl
  · have e : i = xs.length := by omega
    subst e
    refine .inl ⟨(hJ _ _).2 (Nat.le_refl _) (sm _), ?_⟩
    rw [List.take_of_length_le (Nat.le_refl _)]
    exact hd
end
end Ow
namespace Ow
open PySem PySem.Spec PyProof.Rows L2
theorem kind_cases {n : Nat} {d : PyData} (h : kindW n d = true) : (∃ x, d = .str x) ∨ ∃ (m : Nat) (sg : Str) (a b : PyData), n = m + 1 ∧ d = .tuple [.str sg, a, b] ∧ sg ∈ signs2 ∧ kindW m a = true ∧ kindW m b = true := by
  cases n with
  | zero => cases h
  | succ n =>
    by_cases ht : tyD d = "str"
    · exact .inl (ty_str ht)
    · cases hr : isRowD d 3 3 with
      | false =>
        rw [kind_no ht (.inr hr)] at h
        cases h
      | true =>
        obtain ⟨s, a, b, rfl⟩ := row3 hr
        rw [kind_tup] at h
        simp only [Bool.and_eq_true] at h
        obtain ⟨⟨⟨_, h2⟩, h3⟩, h4⟩ := h
        cases s with
        | str sg => exact .inr ⟨n, sg, a, b, rfl, rfl, of_decide_eq_true h2, h3, h4⟩
        | _ => cases h2
theorem shown_str (n : Nat) (x : Str) : shownW n (.str x) = true := by cases n <;> rfl
theorem shown_tup (n : Nat) (s a b : PyData) : shownW (n + 1) (.tuple [s, a, b]) = (!(memD s [Str.ofString ">"]) && shownW n a && shownW n b) := rfl
theorem mem_one (sg z : Str) : memD (.str sg) [z] = decide (sg = z) := by
  show decide (sg ∈ [z]) = _
  simp
end Ow
namespace Ow
open PySem PySem.Spec PyProof.Rows L2
/-! ### what the drawing defs promise -/
def bAny : Nat → Nat
  | 0 => 60
  | n + 1 => 5 * (bAny n + 2) + 20
theorem bAny_ge : ∀ n : Nat, 60 ≤ bAny n
  | 0 => Nat.le_refl _
  | n + 1 => by
    have := bAny_ge n
    show 60 ≤ 5 * (bAny n + 2) + 20
    omega
def spAny (K : PySem.W.Frag) (k : Nat) : Sp := fun vs H Q _ => ∃ (p c : Addr) (z : Int), vs = [.ref p, .int z] ∧ z = (k : Int) ∧ k ≤ 4 ∧ Pen H p c ∧
  ∀ (v : V) (d : PyData) (H' : Hp), Da K (Tk H) H' v d → Fit (bAny k) (2 * k) d → Pen H' p c → Kp p H H' → Q v H'
abbrev anyList : List V := [.int 0, .bl true, .non, .str "", .str "x", .str "^", .str "Ab", .str "x1", .int (-(10 ^ (39 : Int).toNat)), .str "abcdefghi"]
theorem fit_of {d : PyData} (h : (d.showable && decide (wt d ≤ 60) && decide (d.depth ≤ 0)) = true) : Fit 60 0 d := by
  simp only [Bool.and_eq_true, decide_eq_true_eq] at h
  exact ⟨h.1.1, h.1.2, h.2⟩
theorem any_at {n : Int} (h0 : 0 ≤ n) (h1 : n < 10) : ∃ (v : V) (d : PyData), atI anyList n = some v ∧ (∀ K N H, Da K N H v d) ∧ Fit 60 0 d := by
  have : n = 0 ∨ n = 1 ∨ n = 2 ∨ n = 3 ∨ n = 4 ∨ n = 5 ∨ n = 6 ∨ n = 7 ∨ n = 8 ∨ n = 9 := by omega
  rcases this with rfl | rfl | rfl | rfl | rfl | rfl | rfl | rfl | rfl | rfl
  · exact ⟨_, _, rfl, fun _ _ _ => .int _, fit_of (by decide +kernel)⟩
  · exact ⟨_, _, rfl, fun _ _ _ => .bl _, fit_of (by decide +kernel)⟩
  · exact ⟨_, _, rfl, fun _ _ _ => .non, fit_of (by decide +kernel)⟩
  · exact ⟨_, _, rfl, fun _ _ _ => .str _, fit_of (by decide +kernel)⟩
  · exact ⟨_, _, rfl, fun _ _ _ => .str _, fit_of (by decide +kernel)⟩
  · exact ⟨_, _, rfl, fun _ _ _ => .str _, fit_of (by decide +kernel)⟩
  · exact ⟨_, _, rfl, fun _ _ _ => .str _, fit_of (by decide +kernel)⟩
  · exact ⟨_, _, rfl, fun _ _ _ => .str _, fit_of (by decide +kernel)⟩
  · exact ⟨_, _, rfl, fun _ _ _ => .int _, fit_of (by decide +kernel)⟩
  · exact ⟨_, _, rfl, fun _ _ _ => .str _, fit_of (by decide +kernel)⟩
section
variable {K : PySem.W.Frag} {N : Addr → Prop} {H H' : Hp}
theorem Da.put {D : Addr} {o o' : HO} {v : V} {d : PyData} (h : Da K N H v d) (hD : H D = some o) (ht : ∀ xs, o ≠ .tup xs) (hf : ∀ ob u, o ≠ .frz ob u) (hN : N D) : Da K N (upd H D o') v d :=
  h.kp (p := D) Kp.self (fun xs r => by
    rcases r with r | ⟨ob, r⟩
    · rw [hD] at r
      exact ht _ (Option.some.inj r)
    · rw [hD] at r
      exact hf _ _ (Option.some.inj r)) hN
theorem DaAll.put {D : Addr} {o o' : HO} {vs : List V} {ds : List PyData} (h : DaAll K N H vs ds) (hD : H D = some o) (ht : ∀ xs, o ≠ .tup xs) (hf : ∀ ob u, o ≠ .frz ob u) (hN : N D) : DaAll K N (upd H D o') vs ds :=
  h.kp (p := D) Kp.self (fun xs r => by
    rcases r with r | ⟨ob, r⟩
    · rw [hD] at r
      exact ht _ (Option.some.inj r)
    · rw [hD] at r
      exact hf _ _ (Option.some.inj r)) hN
end
theorem Pen.keepTk {H H0 : Hp} {p c D : Addr} {o : HO} (h : Pen H p c) (h0 : Pen H0 p c) (hD : H0 D = none) : Pen (upd H D o) p c := h.keep (h0.neP hD) (h0.neC hD)
end Ow
namespace Ow
open PySem PySem.Spec PyProof.Rows L2
/-- data without lists and dicts avoids all -/
abbrev All : Addr → Prop := fun _ => True
def bKind : Nat → Nat
  | 0 => 90
  | n + 1 => 2 * (bKind n + 2) + 12
def spRough (K : PySem.W.Frag) (k : Nat) : Sp := fun vs H Q _ => ∃ (p c : Addr) (z : Int), vs = [.ref p, .int z] ∧ z = (k : Int) ∧ k ≤ 6 ∧ Pen H p c ∧
  ∀ (v : V) (d : PyData) (H' : Hp), Da K All H' v d → Fit (bKind k) k d → Pen H' p c → Kp p H H' → Q v H'
theorem bKind_ge : ∀ n : Nat, 90 ≤ bKind n
  | 0 => Nat.le_refl _
  | n + 1 => by
    have := bKind_ge n
    show 90 ≤ 2 * (bKind n + 2) + 12
    omega
theorem fit_sign {x : Str} (h : wt (.str x) ≤ 4) : Fit 4 0 (.str x) := ⟨by rw [PyData.showable], h, by simp only [PyData.depth]; exact Nat.zero_le _⟩
abbrev signs3 : List V := [.str ">", .str "*"]
theorem sign_at {n : Int} (h0 : 0 ≤ n) (h1 : n < 2) : ∃ x : Str, atI signs3 n = some (.str x) ∧ Fit 4 0 (.str x) ∧ x ∈ signs2 := by
  have : n = 0 ∨ n = 1 := by omega
  rcases this with rfl | rfl
  · exact ⟨_, rfl, fit_sign (by decide +kernel), by simp⟩
  · exact ⟨_, rfl, fit_sign (by decide +kernel), by simp⟩
end Ow
namespace Ow
open PySem PySem.Spec PyProof.Rows L2
def spSpoil (K : PySem.W.Frag) (k : Nat) : Sp := fun vs H Q _ => ∃ (p c : Addr) (v : V) (d : PyData) (z : Int) (n m : Nat), vs = [.ref p, v, .int z] ∧ z = (k : Int) ∧ k ≤ 8 ∧ Pen H p c ∧ Da K All H v d ∧ Fit n m d ∧ n ≤ 4000000 ∧
  ∀ (v' : V) (d' : PyData) (H' : Hp), Da K (Tk H) H' v' d' → Fit (2 * n + 1800) (m + 8) d' → Pen H' p c → Kp p H H' → Q v' H'
section
variable {K : PySem.W.Frag} {H : Hp} {Q : VK} {a b : Addr} {xs ys : List V}
theorem cat_any (ha : SqT K H a xs) (hb : SqT K H b ys) (hl : xs.length + ys.length ≤ sizeLine) (k : ∀ t H', Same H H' → SqT K H' t (xs ++ ys) → Q (.ref t) H') : rCatA K (.ref a) (.ref b) H Q := by
  refine ⟨a, b, xs, ys, rfl, rfl, ha, hb, hl, fun e => ?_, fun _ e => ?_, fun _ _ p hp => ?_⟩
  · exact k b H (Same.refl H) (by rw [e, List.nil_append]; exact hb)
  · exact k a H (Same.refl H) (by rw [e, List.append_nil]; exact ha)
  · exact k p _ (same_new hp) (SqT.of upd_same)
theorem cut_any {lo hi : Option Int} (ha : SqT K H a xs) (k : ∀ t H', Same H H' → SqT K H' t (cutV xs lo hi) → Q (.ref t) H') : rSlA K (.ref a) lo hi H Q := by
  refine ⟨a, xs, rfl, ha, fun e => ?_, fun _ p hp => ?_⟩
  · refine k a H (Same.refl H) ?_
    have z : cutV xs lo hi = xs := by
      unfold cutV
      rw [e.1, e.2]
      simp
    rw [z]
    exact ha
  · exact k p _ (same_new hp) (SqT.of upd_same)
theorem cut_take (xs : List V) (k : Nat) : cutV xs none (some (k : Int)) = xs.take k := by
  unfold cutV
  rw [HT.sIx_none, HT.sIx_nat, List.drop_zero, Nat.sub_zero]
  by_cases h : k ≤ xs.length
  · rw [Nat.min_eq_left h]
  · rw [Nat.min_eq_right (by omega), List.take_of_length_le (Nat.le_refl _), List.take_of_length_le (by omega)]
theorem cut_drop (xs : List V) (k : Nat) : cutV xs (some (k : Int)) none = xs.drop k := by
  unfold cutV
  rw [HT.sIx_none, HT.sIx_nat]
  by_cases h : k ≤ xs.length
  · rw [Nat.min_eq_left h, List.take_of_length_le (by rw [List.length_drop]; exact Nat.le_refl _)]
  · rw [Nat.min_eq_right (by omega), Nat.sub_self, List.take_zero, List.drop_eq_nil_of_le (by omega)]
end
end Ow
namespace Ow
open PySem PySem.Spec PyProof.Rows L2
theorem len_wt : ∀ ds : List PyData, ds.length ≤ wtAll ds
  | [] => Nat.zero_le _
  | d :: ds => by
    have := len_wt ds
    rw [wtAll, List.length_cons]
    omega
theorem Kp.same {p : Addr} {H H1 H2 : Hp} (a : Kp p H H1) (s : Same H1 H2) : Kp p H H2 := a.trans (Kp.of s)
end Ow
namespace Ow
open PySem PySem.Spec PyProof.Rows L2
def spChain (K : PySem.W.Frag) : Sp := fun vs H Q _ => ∃ (p c : Addr) (z : Int), vs = [.ref p, .int z] ∧ 1 ≤ z ∧ z ≤ 7 ∧ Pen H p c ∧
  ∀ (v : V) (d : PyData) (H' : Hp), Da K All H' v d → Fit 2000 10 d → Pen H' p c → Kp p H H' → Q v H'
/-- the script is handed in, True comes out -/
def spLaw (K : PySem.W.Frag) : Sp := fun vs H Q _ => ∃ (a : Addr) (ns : List Int), vs = [.ref a] ∧ SqL K H a (ns.map V.int) ∧ ns.length ≤ 63 ∧ ∀ H', Q (.bl true) H'
abbrev signs4 : List V := [.str ">", .str "*", .str "*"]
theorem sign_at3 {n : Int} (h0 : 0 ≤ n) (h1 : n < 3) : ∃ x : Str, atI signs4 n = some (.str x) ∧ Fit 4 0 (.str x) := by
  have : n = 0 ∨ n = 1 ∨ n = 2 := by omega
  rcases this with rfl | rfl | rfl
  · exact ⟨_, rfl, fit_sign (by decide +kernel)⟩
  · exact ⟨_, rfl, fit_sign (by decide +kernel)⟩
  · exact ⟨_, rfl, fit_sign (by decide +kernel)⟩
abbrev tails7 : List V := [.str "", .str "a", .str "A", .str "_", .str " ", .str "1", .str "7"]
/-- a short text of small codes -/
def Sm (x : Str) (n : Nat) : Prop := x.length ≤ n ∧ ∀ c ∈ x.cps.toList, c < 16 ^ 8
theorem sm_of {x : Str} {n : Nat} (h : (decide (x.length ≤ n) && x.cps.toList.all fun c => decide (c < 16 ^ 8)) = true) : Sm x n := by
  simp only [Bool.and_eq_true, decide_eq_true_eq, List.all_eq_true] at h
  exact h
theorem tail_at {n : Int} (h0 : 0 ≤ n) (h1 : n < 7) : ∃ x : Str, atI tails7 n = some (.str x) ∧ Sm x 1 := by
  have : n = 0 ∨ n = 1 ∨ n = 2 ∨ n = 3 ∨ n = 4 ∨ n = 5 ∨ n = 6 := by omega
  rcases this with rfl | rfl | rfl | rfl | rfl | rfl | rfl <;> exact ⟨_, rfl, sm_of (by decide +kernel)⟩
theorem Nm.sm {x : Str} (h : Nm x) : Sm x 8 := ⟨h.2.1, fun c hc => by have := (h.2.2 c hc).2; omega⟩
theorem Sm.app {x y : Str} {n m : Nat} (h : Sm x n) (k : Sm y m) : Sm (x ++ y) (n + m) := by
  refine ⟨?_, fun c hc => ?_⟩
  · have := h.1
    have := k.1
    rw [strLen_append]
    omega
  · rw [app_cps] at hc
    exact (List.mem_append.mp hc).elim (h.2 c) (k.2 c)
theorem Sm.fit {x : Str} {n : Nat} (h : Sm x n) : Fit (11 * n + 2) 0 (.str x) := fit_str h.2 h.1
end Ow
namespace Ow
open PySem PySem.Spec PyProof.Rows L2
/-- two truths beside one another -/
def spTruth : Sp := fun vs H Q _ => ∃ a b : Bool, vs = [.bl a, .bl b] ∧ Q (.bl (decide (a = b))) H
theorem room_un {n k : Nat} (h : n + 16 * k + 200 < cLine) : n + 151 < cLine := by omega
end Ow
namespace Ow
open PySem PySem.Spec PyProof.Rows L2
section
variable {K : PySem.W.Frag} {mg : Str → Option Value} {h : Heap} {x : Str} {st : Stmt} {ps : List Str} {f : Addr} {od an : Option Addr} {sl : Array (Option Value)} {oc kV dc pm cd ct : Value}
theorem defAt_mk (X : K.In h) (G : h.Ns mainGlobals mg) (a : PySem.W.nsIn K mainGlobals x = some (some (.ref f)))
    (l : K.lookup f = some ⟨oc, od, .func (PySem.W.fnOf x x (defArgs st) (defBody st) (defScope st) .none kV dc pm an cd ct), sl⟩) (c : PySem.W.codeIn K cd x = true) (k : PySem.W.keepIn K (.ref f) = true)
    (hb : ∀ (kV doc pm : Value) (an : Option Addr) (cdv ct : Value) (us : List Value), us.length = ps.length → bindArgs (PySem.W.fnOf x x (defArgs st) (defBody st) (defScope st) .none kV doc pm an cdv ct) ⟨us, []⟩ = pure (ps.zip us)) : DefAt K mg x st ps :=
  ⟨f, _, fun_mk l c k, PySem.W.mg_of X G a, (fun_mk (st := st) l c k).binds hb⟩
theorem lawAt_mk {fa : Addr} {y : Str} (X : K.In h) (G : h.Ns mainGlobals mg) (hmg : mg x = some (.ref fa)) (a : PySem.W.nsIn K mainGlobals x = some (some (.ref f)))
    (l : K.lookup f = some ⟨oc, od, .func (PySem.W.fnOf x x (defArgs st) (defBody st) (defScope st) .none kV dc pm an cd ct), sl⟩) (c : PySem.W.codeIn K cd x = true) (k : PySem.W.keepIn K (.ref f) = true)
    (hb : ∀ (s : Shared) (u : Value), BindsTo s (PySem.W.fnOf x x (defArgs st) (defBody st) (defScope st) .none kV dc pm an cd ct) ⟨[u], []⟩ [(y, u)]) :
    ∃ fd, Fun K x x st fa fd ∧ ∀ (s : Shared) (u : Value), BindsTo s fd ⟨[u], []⟩ [(y, u)] := by
  have e := hmg.symm.trans (PySem.W.mg_of X G a)
  injection e with e
  injection e with e
  subst e
  exact ⟨_, fun_mk l c k, hb⟩
theorem gv_mk {v : V} {u : Value} (X : K.In h) (G : h.Ns mainGlobals mg) (a : PySem.W.nsIn K mainGlobals x = some (some u)) (r : RelV v u) : GV mg x v := ⟨u, PySem.W.mg_of X G a, r⟩
end
end Ow

/-! Drawn terms: their shape, their size. -/
namespace Ow
open PySem PySem.Spec PyProof.Rows L2
abbrev strD (x : Str) : PyData := .str x
/-- the shape of a term, by how many are within one another at most -/
inductive Tm : Nat → PyData → Prop
  | name (n : Nat) (x : Str) : Tm (n + 1) (.str x)
  | at (n : Nat) (f : Str) : Tm (n + 1) (.tuple [.str (Str.ofString "@"), .str f])
  | lam {n : Nat} (x : Str) (k : PyData) {t : PyData} : Tm n t → Tm (n + 1) (.tuple [.str (Str.ofString "^"), .str x, k, t])
  | two {n : Nat} (s : Str) {t u : PyData} : s ∈ [Str.ofString "!", Str.ofString "&", Str.ofString "-"] → Tm n t → Tm n u → Tm (n + 1) (.tuple [.str s, t, u])
  | five {n : Nat} (s x y : Str) {t u : PyData} : s ∈ [Str.ofString "/", Str.ofString "+"] → Tm n t → Tm n u → Tm (n + 1) (.tuple [.str s, t, .str x, .str y, u])
  | mk {n : Nat} (c : Str) (ts : List PyData) : (∀ t ∈ ts, Tm n t) → Tm (n + 1) (.tuple [.str (Str.ofString "#"), .str c, .tuple ts])
  | ch {n : Nat} {t : PyData} (cs : List (Str × List Str × PyData)) : Tm n t → (∀ c ∈ cs, Tm n c.2.2) →
      Tm (n + 1) (.tuple [.str (Str.ofString "?"), t, .tuple (cs.map fun c => .tuple [.str c.1, .tuple (c.2.1.map strD), c.2.2])])
theorem Tm.up : ∀ {n : Nat} {d : PyData}, Tm n d → ∀ {m : Nat}, n ≤ m → Tm m d
  | _, _, .name n x, m, h => by
    obtain ⟨m, rfl⟩ : ∃ k, m = k + 1 := ⟨m - 1, by omega⟩
    exact .name m x
  | _, _, .at n x, m, h => by
    obtain ⟨m, rfl⟩ : ∃ k, m = k + 1 := ⟨m - 1, by omega⟩
    exact .at m x
  | _, _, .lam x k t, m, h => by
    obtain ⟨m, rfl⟩ : ∃ k, m = k + 1 := ⟨m - 1, by omega⟩
    exact .lam x k (t.up (by omega))
  | _, _, .two s hs t u, m, h => by
    obtain ⟨m, rfl⟩ : ∃ k, m = k + 1 := ⟨m - 1, by omega⟩
    exact .two s hs (t.up (by omega)) (u.up (by omega))
  | _, _, .five s x y hs t u, m, h => by
    obtain ⟨m, rfl⟩ : ∃ k, m = k + 1 := ⟨m - 1, by omega⟩
    exact .five s x y hs (t.up (by omega)) (u.up (by omega))
  | _, _, .mk c ts ht, m, h => by
    obtain ⟨m, rfl⟩ : ∃ k, m = k + 1 := ⟨m - 1, by omega⟩
    exact .mk c ts fun t z => (ht t z).up (by omega)
  | _, _, .ch cs t hc, m, h => by
    obtain ⟨m, rfl⟩ : ∃ k, m = k + 1 := ⟨m - 1, by omega⟩
    exact .ch cs (t.up (by omega)) fun c z => (hc c z).up (by omega)
def bT : Nat → Nat
  | 0 => 110
  | n + 1 => 4 * bT n + 1700
theorem bT_ge : ∀ n : Nat, 110 ≤ bT n
  | 0 => Nat.le_refl _
  | n + 1 => by
    have := bT_ge n
    show 110 ≤ 4 * bT n + 1700
    omega
def spFew : Sp := fun vs H Q _ => ∃ (p c : Addr), vs = [.ref p] ∧ Pen H p c ∧ ∀ (x : Str) (H' : Hp), Nm x → Pen H' p c → Kp p H H' → Q (.str x) H'
def spRow (K : PySem.W.Frag) : Sp := fun vs H Q _ => ∃ (p c : Addr) (z : Int), vs = [.ref p, .int z] ∧ 0 ≤ z ∧ z ≤ 4 ∧ Pen H p c ∧
  ∀ (t : Addr) (xs : List Str) (H' : Hp), SqT K H' t (xs.map V.str) → (xs.length : Int) = z → (∀ x ∈ xs, Nm x) → Pen H' p c → Kp p H H' → Q (.ref t) H'
def spRoughT (K : PySem.W.Frag) (k : Nat) : Sp := fun vs H Q _ => ∃ (p c : Addr) (z : Int), vs = [.ref p, .int z] ∧ z ≤ (k : Int) ∧ k ≤ 6 ∧ Pen H p c ∧
  ∀ (v : V) (d : PyData) (H' : Hp), Da K All H' v d → Fit (bT k) (3 * k + 2) d → Tm (k + 1) d → Pen H' p c → Kp p H H' → Q v H'
abbrev few3 : List Str := [Str.ofString "x", Str.ofString "y", Str.ofString "xy"]
theorem nm_of {x : Str} (h : (decide (0 < x.cps.size) && decide (x.cps.size ≤ 8) && x.cps.toList.all fun c => decide (97 ≤ c) && decide (c ≤ 122)) = true) : Nm x := by
  simp only [Bool.and_eq_true, decide_eq_true_eq, List.all_eq_true] at h
  exact ⟨h.1.1, h.1.2, h.2⟩
theorem nm_few : ∀ x ∈ few3, Nm x := by
  intro x h
  simp only [List.mem_cons, List.not_mem_nil, or_false] at h
  rcases h with rfl | rfl | rfl
  · exact nm_of (by decide +kernel)
  · exact nm_of (by decide +kernel)
  · exact nm_of (by decide +kernel)
theorem few_at {y : Str} (hy : Nm y) {n : Int} (h0 : 0 ≤ n) (h1 : n < 4) : ∃ x : Str, atI [V.str "x", .str "y", .str "xy", .str y] n = some (.str x) ∧ Nm x := by
  have : n = 0 ∨ n = 1 ∨ n = 2 ∨ n = 3 := by omega
  rcases this with rfl | rfl | rfl | rfl
  · exact ⟨_, rfl, nm_few _ (by simp)⟩
  · exact ⟨_, rfl, nm_few _ (by simp)⟩
  · exact ⟨_, rfl, nm_few _ (by simp)⟩
  · exact ⟨_, rfl, hy⟩
theorem fit_names : ∀ {xs : List Str}, (∀ x ∈ xs, Nm x) → FitAll (92 * xs.length) 0 (xs.map strD)
  | [], _ => .nil
  | x :: xs, h => by
    have g := fit_names (xs := xs) fun y hy => h y (List.mem_cons_of_mem _ hy)
    refine (FitAll.cons (fit_nm (h x (List.mem_cons_self ..))) g).le ?_ (Nat.le_refl _)
    rw [List.length_cons]
    omega
theorem da_names {K : PySem.W.Frag} {N : Addr → Prop} {H : Hp} : ∀ xs : List Str, DaAll K N H (xs.map V.str) (xs.map strD)
  | [] => .nil
  | x :: xs => .cons (.str x) (da_names xs)
abbrev tri : List V := [.str "!", .str "&", .str "-"]
theorem tri_at {n : Int} (h0 : 0 ≤ n) (h1 : n < 3) : ∃ x : Str, atI tri n = some (.str x) ∧ Fit 4 0 (.str x) ∧ x ∈ [Str.ofString "!", Str.ofString "&", Str.ofString "-"] := by
  have : n = 0 ∨ n = 1 ∨ n = 2 := by omega
  rcases this with rfl | rfl | rfl
  · exact ⟨_, rfl, fit_sign (by decide +kernel), by simp⟩
  · exact ⟨_, rfl, fit_sign (by decide +kernel), by simp⟩
  · exact ⟨_, rfl, fit_sign (by decide +kernel), by simp⟩
abbrev duo : List V := [.str "/", .str "+"]
theorem duo_at {n : Int} (h0 : 0 ≤ n) (h1 : n < 2) : ∃ x : Str, atI duo n = some (.str x) ∧ Fit 4 0 (.str x) ∧ x ∈ [Str.ofString "/", Str.ofString "+"] := by
  have : n = 0 ∨ n = 1 := by omega
  rcases this with rfl | rfl
  · exact ⟨_, rfl, fit_sign (by decide +kernel), by simp⟩
  · exact ⟨_, rfl, fit_sign (by decide +kernel), by simp⟩
end Ow

/-! What stands within a term, in the order of its text. -/
namespace Ow
open PySem PySem.Spec PyProof.Rows L2
abbrev sg (x : String) : Str := Str.ofString x
def nmD : PyData → Str
  | .str x => x
  | _ => sg ""
def itD : PyData → List PyData
  | .tuple ds => ds
  | _ => []
def caseD : PyData → List Str × PyData
  | .tuple [_, ns, u] => ((itD ns).map nmD, u)
  | c => ([], c)
def kids : PyData → List (List Str × PyData)
  | .tuple [.str s, a, b] => if s = sg "#" then (itD b).map (fun t => ([], t)) else if s = sg "?" then ([], a) :: (itD b).map caseD else [([], a), ([], b)]
  | .tuple [.str _, x, _, t] => [([nmD x], t)]
  | .tuple [.str _, t, x, y, u] => [([], t), ([nmD x, nmD y], u)]
  | _ => []
theorem nm_map (xs : List Str) : (xs.map strD).map nmD = xs := by
  induction xs with
  | nil => rfl
  | cons x xs ih =>
    show x :: (xs.map strD).map nmD = _
    rw [ih]
theorem kids_str (x : Str) : kids (.str x) = [] := rfl
theorem kids_at (s : Str) (f : PyData) : kids (.tuple [.str s, f]) = [] := rfl
theorem kids_lam (s x : Str) (k t : PyData) : kids (.tuple [.str s, .str x, k, t]) = [([x], t)] := rfl
theorem kids_five (s x y : Str) (t u : PyData) : kids (.tuple [.str s, t, .str x, .str y, u]) = [([], t), ([x, y], u)] := rfl
theorem kids_three (s : Str) (a b : PyData) : kids (.tuple [.str s, a, b]) = if s = sg "#" then (itD b).map (fun t => ([], t)) else if s = sg "?" then ([], a) :: (itD b).map caseD else [([], a), ([], b)] := rfl
theorem kids_mk (c : PyData) (ts : List PyData) : kids (.tuple [.str (sg "#"), c, .tuple ts]) = ts.map (fun t => ([], t)) := by
  rw [kids_three, if_pos rfl]
  rfl
theorem kids_ch (t : PyData) (cs : List (Str × List Str × PyData)) : kids (.tuple [.str (sg "?"), t, .tuple (cs.map fun c => .tuple [.str c.1, .tuple (c.2.1.map strD), c.2.2])]) = ([], t) :: cs.map (·.2) := by
  rw [kids_three, if_neg (by decide +kernel), if_pos rfl]
  show _ :: (cs.map _).map caseD = _
  rw [List.map_map]
  congr 1
  refine List.map_congr_left fun c _ => ?_
  show ((c.2.1.map strD).map nmD, c.2.2) = c.2
  rw [nm_map]
theorem kids_two {s : Str} (t u : PyData) (h : s ∈ [sg "!", sg "&", sg "-"]) : kids (.tuple [.str s, t, u]) = [([], t), ([], u)] := by
  rw [kids_three]
  simp only [List.mem_cons, List.not_mem_nil, or_false] at h
  rcases h with rfl | rfl | rfl
  all_goals rw [if_neg (by decide +kernel), if_neg (by decide +kernel)]
theorem kids_tm : ∀ {n : Nat} {d : PyData}, Tm (n + 1) d → ∀ k ∈ kids d, Tm n k.2
  | _, _, .name n x, k, h => by cases h
  | _, _, .at n x, k, h => by cases h
  | _, _, .lam x kk t, k, h => by
    rw [kids_lam] at h
    rw [List.mem_singleton.mp h]
    exact t
  | _, _, .two s hs t u, k, h => by
    rw [kids_two _ _ hs] at h
    simp only [List.mem_cons, List.not_mem_nil, or_false] at h
    rcases h with rfl | rfl
    · exact t
    · exact u
  | _, _, .five s x y hs t u, k, h => by
    rw [kids_five] at h
    simp only [List.mem_cons, List.not_mem_nil, or_false] at h
    rcases h with rfl | rfl
    · exact t
    · exact u
  | _, _, .mk c ts ht, k, h => by
    rw [kids_mk] at h
    obtain ⟨t, ht', rfl⟩ := List.mem_map.mp h
    exact ht t ht'
  | _, _, .ch cs t hc, k, h => by
    rw [kids_ch] at h
    rcases List.mem_cons.mp h with rfl | h
    · exact t
    · obtain ⟨c, hc', rfl⟩ := List.mem_map.mp h
      exact hc c hc'
theorem FitAll.unc {n m : Nat} {d : PyData} {ds : List PyData} (f : FitAll n m (d :: ds)) : ∃ a b, a + 2 + b ≤ n ∧ Fit a m d ∧ FitAll b m ds := by
  obtain ⟨a, b, c, h, _, f2, f3⟩ := f.get (i := 0) rfl
  exact ⟨b, c, by omega, f2, f3⟩
theorem FitAll.fmap (f : PyData → PyData) : ∀ {ds : List PyData} {n m : Nat}, (∀ d ∈ ds, ∀ {n m : Nat}, Fit n m d → Fit n m (f d)) → FitAll n m ds → FitAll n m (ds.map f)
  | [], n, m, _, h => h
  | d :: ds, n, m, g, h => by
    obtain ⟨a, b, l, f1, f2⟩ := h.unc
    exact (FitAll.cons (g d (List.mem_cons_self ..) f1) (FitAll.fmap f (fun e he => g e (List.mem_cons_of_mem _ he)) f2)).le l (Nat.le_refl _)
theorem Fit.two {n m : Nat} {s t u : PyData} (f : Fit n m (.tuple [s, t, u])) : FitAll n m [t, u] ∧ Fit n m u ∧ Fit n m t := by
  obtain ⟨m', rfl⟩ := f.deep
  obtain ⟨h4, fa⟩ := f.items
  obtain ⟨a, b, l, f1, f2⟩ := fa.unc
  obtain ⟨a2, b2, l2, f3, f4⟩ := f2.unc
  obtain ⟨a3, b3, l3, f5, f6⟩ := f4.unc
  exact ⟨f2.le (by omega) (by omega), f5.le (by omega) (by omega), f3.le (by omega) (by omega)⟩
theorem Fit.inner {n m : Nat} {ts : List PyData} (f : Fit n m (.tuple ts)) : FitAll n m ts := by
  obtain ⟨m', rfl⟩ := f.deep
  obtain ⟨h4, fa⟩ := f.items
  exact fa.le (by omega) (by omega)
theorem kids_fit : ∀ {n w m : Nat} {d : PyData}, Tm n d → Fit w m d → FitAll w m ((kids d).map (·.2))
  | _, w, m, _, .name n x, f => FitAll.nil.le (Nat.zero_le _) (Nat.le_refl _)
  | _, w, m, _, .at n x, f => FitAll.nil.le (Nat.zero_le _) (Nat.le_refl _)
  | _, w, m, _, .lam x kk t, f => by
    rw [kids_lam]
    obtain ⟨a, b, l, f1, f2⟩ := f.inner.unc
    obtain ⟨a2, b2, l2, f3, f4⟩ := f2.unc
    obtain ⟨a3, b3, l3, f5, f6⟩ := f4.unc
    exact f6.le (by omega) (Nat.le_refl _)
  | _, w, m, _, .two s hs t u, f => by
    rw [kids_two _ _ hs]
    exact f.two.1
  | _, w, m, _, .five s x y hs t u, f => by
    rw [kids_five]
    obtain ⟨a, b, l, f1, f2⟩ := f.inner.unc
    obtain ⟨a2, b2, l2, f3, f4⟩ := f2.unc
    obtain ⟨a3, b3, l3, f5, f6⟩ := f4.unc
    obtain ⟨a4, b4, l4, f7, f8⟩ := f6.unc
    exact (FitAll.cons f3 f8).le (by omega) (Nat.le_refl _)
  | _, w, m, _, .mk c ts ht, f => by
    rw [kids_mk, List.map_map]
    have := f.two.2.1.inner
    rwa [show ts.map ((fun x : List Str × PyData => x.2) ∘ fun t => ([], t)) = ts from List.map_id _]
  | _, w, m, _, .ch cs t hc, f => by
    rw [kids_ch]
    obtain ⟨a, b, l, f1, f2⟩ := f.inner.unc
    obtain ⟨a2, b2, l2, f3, f4⟩ := f2.unc
    obtain ⟨a3, b3, l3, f5, f6⟩ := f4.unc
    have g := f5.inner
    have g2 := FitAll.fmap (fun c => (caseD c).2) (fun d hd => by
      obtain ⟨c, _, rfl⟩ := List.mem_map.mp hd
      intro n m q
      exact q.two.2.1) g
    rw [List.map_map] at g2
    show FitAll w m (_ :: (cs.map (·.2)).map (·.2))
    rw [List.map_map]
    exact (FitAll.cons f3 g2).le (by omega) (Nat.le_refl _)
theorem len_wt2 : ∀ {n m : Nat} {ds : List PyData}, FitAll n m ds → 2 * ds.length ≤ n
  | n, m, [], _ => Nat.zero_le _
  | n, m, d :: ds, f => by
    obtain ⟨a, b, l, f1, f2⟩ := f.unc
    have := len_wt2 f2
    rw [List.length_cons]
    omega
theorem kids_len {n w m : Nat} {d : PyData} (t : Tm n d) (f : Fit w m d) : 2 * (kids d).length ≤ w := by
  have := len_wt2 (kids_fit t f)
  rwa [List.length_map] at this
theorem FitAll.mem {n m : Nat} {ds : List PyData} (f : FitAll n m ds) {d : PyData} (h : d ∈ ds) : Fit n m d := by
  obtain ⟨i, hi⟩ := List.getElem?_of_mem h
  obtain ⟨a, b, c, l, _, f2, _⟩ := f.get hi
  exact f2.le (by omega) (Nat.le_refl _)
theorem kids_names : ∀ {n w m : Nat} {d : PyData}, Tm n d → Fit w m d → 4 ≤ w → ∀ k ∈ kids d, k.1.length ≤ w
  | _, w, m, _, .name n x, f, _, k, h => by cases h
  | _, w, m, _, .at n x, f, _, k, h => by cases h
  | _, w, m, _, .lam x kk t, f, hw, k, h => by
    rw [kids_lam] at h
    rw [List.mem_singleton.mp h]
    show 1 ≤ w
    omega
  | _, w, m, _, .two s hs t u, f, _, k, h => by
    rw [kids_two _ _ hs] at h
    simp only [List.mem_cons, List.not_mem_nil, or_false] at h
    rcases h with rfl | rfl
    · exact Nat.zero_le _
    · exact Nat.zero_le _
  | _, w, m, _, .five s x y hs t u, f, hw, k, h => by
    rw [kids_five] at h
    simp only [List.mem_cons, List.not_mem_nil, or_false] at h
    rcases h with rfl | rfl
    · exact Nat.zero_le _
    · show 2 ≤ w
      omega
  | _, w, m, _, .mk c ts ht, f, _, k, h => by
    rw [kids_mk] at h
    obtain ⟨t, ht', rfl⟩ := List.mem_map.mp h
    exact Nat.zero_le _
  | _, w, m, _, .ch cs t hc, f, _, k, h => by
    rw [kids_ch] at h
    rcases List.mem_cons.mp h with rfl | h
    · exact Nat.zero_le _
    · obtain ⟨c, hc', rfl⟩ := List.mem_map.mp h
      have g := f.two.2.1.inner.mem (List.mem_map.mpr ⟨c, hc', rfl⟩)
      have := len_wt2 g.two.2.2.inner
      rw [List.length_map] at this
      omega
/-- each part, in the order of the text -/
def pre : Nat → PyData → List PyData
  | 0, _ => []
  | n + 1, d => d :: (kids d).flatMap fun k => pre n k.2
/-- each part with the names that are given around it -/
def walkD : Nat → PyData → List Str → List (PyData × List Str)
  | 0, _, _ => []
  | n + 1, d, g => (d, g) :: (kids d).flatMap fun k => walkD n k.2 (g ++ k.1)
theorem map_flat {A B C : Type} (f : A → List B) (g : B → C) : ∀ xs : List A, (xs.flatMap f).map g = xs.flatMap fun x => (f x).map g
  | [] => rfl
  | x :: xs => by
    rw [List.flatMap_cons, List.flatMap_cons, List.map_append, map_flat f g xs]
theorem flat_eq {A B : Type} {f g : A → List B} : ∀ {xs : List A}, (∀ x ∈ xs, f x = g x) → xs.flatMap f = xs.flatMap g
  | [], _ => rfl
  | x :: xs, h => by
    rw [List.flatMap_cons, List.flatMap_cons, h x (List.mem_cons_self ..), flat_eq fun y hy => h y (List.mem_cons_of_mem _ hy)]
theorem walk_pre : ∀ (n : Nat) (d : PyData) (g : List Str), (walkD n d g).map (·.1) = pre n d
  | 0, _, _ => rfl
  | n + 1, d, g => by
    show d :: ((kids d).flatMap fun k => walkD n k.2 (g ++ k.1)).map (·.1) = d :: _
    rw [map_flat]
    congr 1
    exact flat_eq fun k _ => walk_pre n k.2 _
theorem walk_up : ∀ {m : Nat} {d : PyData} {g : List Str}, Tm m d → ∀ {n : Nat}, m ≤ n → walkD n d g = walkD m d g
  | 0, d, g, t, n, h => by cases t
  | m + 1, d, g, t, n, h => by
    obtain ⟨n, rfl⟩ : ∃ k, n = k + 1 := ⟨n - 1, by omega⟩
    show (d, g) :: _ = (d, g) :: _
    congr 1
    exact flat_eq fun k hk => walk_up (kids_tm t k hk) (by omega)
theorem pre_up {m n : Nat} {d : PyData} (t : Tm m d) (h : m ≤ n) : pre n d = pre m d := by
  rw [← walk_pre n d [], ← walk_pre m d [], walk_up t h]
theorem pre_fit : ∀ {n w m : Nat} {d : PyData}, Tm n d → Fit w m d → FitAll (n * (w + 2)) m (pre n d)
  | 0, w, m, d, t, f => by cases t
  | n + 1, w, m, d, t, f => by
    have step : ∀ (ks : List (List Str × PyData)) (b : Nat), (∀ k ∈ ks, Tm n k.2) → FitAll b m (ks.map (·.2)) → FitAll (n * b) m (ks.flatMap fun k => pre n k.2) := by
      intro ks
      induction ks with
      | nil => exact fun b _ h => FitAll.nil.le (Nat.zero_le _) (Nat.le_refl _)
      | cons k ks ih =>
        intro b ht h
        obtain ⟨x, y, l, f1, f2⟩ := FitAll.unc h
        rw [List.flatMap_cons]
        refine ((pre_fit (ht k (List.mem_cons_self ..)) f1).append (ih y (fun e he => ht e (List.mem_cons_of_mem _ he)) f2)).le ?_ (Nat.le_refl _)
        rw [← Nat.mul_add]
        exact Nat.mul_le_mul_left _ l
    refine (FitAll.cons f (step (kids d) w (kids_tm t) (kids_fit t f))).le ?_ (Nat.le_refl _)
    rw [Nat.succ_mul]
    have : n * w ≤ n * (w + 2) := Nat.mul_le_mul_left _ (by omega)
    omega
theorem pre_len {n w m : Nat} {d : PyData} (t : Tm n d) (f : Fit w m d) : 2 * (pre n d).length ≤ n * (w + 2) := len_wt2 (pre_fit t f)
/-- each but the first of its like is left out -/
def dd (acc : List Str) : List Str → List Str
  | [] => acc
  | x :: xs => dd (if x ∈ acc then acc else acc ++ [x]) xs
/-- a name that is not given -/
def outs : List (PyData × List Str) → List Str
  | [] => []
  | (.str x, g) :: ws => if x ∈ g then outs ws else x :: outs ws
  | _ :: ws => outs ws
theorem dd_app (xs ys : List Str) : ∀ acc, dd acc (xs ++ ys) = dd (dd acc xs) ys := by
  induction xs with
  | nil => exact fun _ => rfl
  | cons x xs ih => exact fun acc => ih _
theorem outs_app (ws zs : List (PyData × List Str)) : outs (ws ++ zs) = outs ws ++ outs zs := by
  induction ws with
  | nil => rfl
  | cons q ws ih =>
    obtain ⟨d, g⟩ := q
    cases d with
    | str x =>
      show (if x ∈ g then outs (ws ++ zs) else x :: outs (ws ++ zs)) = (if x ∈ g then outs ws else x :: outs ws) ++ outs zs
      by_cases h : x ∈ g
      · rw [if_pos h, if_pos h, ih]
      · rw [if_neg h, if_neg h, ih]
        rfl
    | _ => exact ih
theorem outs_len (ws : List (PyData × List Str)) : (outs ws).length ≤ ws.length := by
  induction ws with
  | nil => exact Nat.le_refl _
  | cons q ws ih =>
    obtain ⟨d, g⟩ := q
    rw [List.length_cons]
    cases d with
    | str x =>
      show (if x ∈ g then outs ws else x :: outs ws).length ≤ _
      by_cases h : x ∈ g
      · rw [if_pos h]
        omega
      · rw [if_neg h, List.length_cons]
        omega
    | _ => exact Nat.le_trans ih (by omega)
theorem dd_len (xs : List Str) : ∀ acc, (dd acc xs).length ≤ acc.length + xs.length := by
  induction xs with
  | nil => exact fun _ => Nat.le_refl _
  | cons x xs ih =>
    intro acc
    refine Nat.le_trans (ih _) ?_
    rw [List.length_cons]
    by_cases h : x ∈ acc
    · rw [if_pos h]
      omega
    · rw [if_neg h, List.length_append]
      show acc.length + 1 + _ ≤ _
      omega
/-! tuples that stay -/
def Ts (K : PySem.W.Frag) (H H' : Hp) : Prop := ∀ a xs, SqT K H a xs → SqT K H' a xs
section
variable {K : PySem.W.Frag} {H H1 H2 H' : Hp}
theorem Ts.trans (a : Ts K H H1) (b : Ts K H1 H2) : Ts K H H2 := fun c xs h => b c xs (a c xs h)
theorem Ts.of (s : Same H H') : Ts K H H' := fun c xs h => sqT_same s h
theorem Ts.refl : Ts K H H := fun c xs h => h
theorem Ts.kp {p : Addr} (k : Kp p H H') (n : NoTup H p) : Ts K H H' := fun c xs h => sqT_kp k n h
theorem Ts.put {p : Addr} {xs : List V} {o : HO} (h : H p = some (.lst xs)) : Ts K H (upd H p o) := Ts.kp Kp.self fun ys r => by
  rcases r with r | ⟨ob, r⟩
  · rw [h] at r
    cases r
  · rw [h] at r
    cases r
mutual
theorem Da.ts (k : Ts K H H') : ∀ {v : V} {d : PyData}, Da K All H v d → Da K All H' v d
  | _, _, .non => .non
  | _, _, .bl b => .bl b
  | _, _, .int i => .int i
  | _, _, .str x => .str x
  | _, _, .lst e n r => absurd trivial n
  | _, _, .tup h r => .tup (k _ _ h) (r.ts k)
  | _, _, .dct e n r => absurd trivial n
theorem DaAll.ts (k : Ts K H H') : ∀ {vs : List V} {ds : List PyData}, DaAll K All H vs ds → DaAll K All H' vs ds
  | _, _, .nil => .nil
  | _, _, .cons h r => .cons (h.ts k) (r.ts k)
end
end
theorem DaAll.snoc {K : PySem.W.Frag} {N : Addr → Prop} {H : Hp} {ds : List PyData} {d : PyData} : ∀ {vs : List V}, DaAll K N H vs (ds ++ [d]) → ∃ us v, vs = us ++ [v] ∧ DaAll K N H us ds ∧ Da K N H v d := by
  induction ds with
  | nil =>
    intro vs h
    cases h with
    | cons a b =>
      cases b
      exact ⟨[], _, rfl, .nil, a⟩
  | cons e ds ih =>
    intro vs h
    cases h with
    | cons a b =>
      obtain ⟨us, v, rfl, h1, h2⟩ := ih b
      exact ⟨_ :: us, v, rfl, .cons a h1, h2⟩
theorem DaAll.rev {K : PySem.W.Frag} {N : Addr → Prop} {H : Hp} : ∀ {vs : List V} {ds : List PyData}, DaAll K N H vs ds → DaAll K N H vs.reverse ds.reverse
  | _, _, .nil => .nil
  | _, _, .cons a b => by
    rw [List.reverse_cons, List.reverse_cons]
    exact b.rev.append (.cons a .nil)
theorem DaAll.at {K : PySem.W.Frag} {N : Addr → Prop} {H : Hp} {vs : List V} {ds : List PyData} (h : DaAll K N H vs ds) {i : Nat} {d : PyData} (e : ds[i]? = some d) : ∃ v, vs[i]? = some v ∧ Da K N H v d := by
  have hl := h.length
  obtain ⟨hi, _⟩ := List.getElem?_eq_some_iff.mp e
  have hv : vs[i]? = some vs[i] := List.getElem?_eq_getElem (by omega)
  obtain ⟨d', e', hd⟩ := h.get hv
  rw [e] at e'
  cases e'
  exact ⟨_, hv, hd⟩
def kdA (k : List Str × PyData) : PyData := .tuple [.tuple (k.1.map strD), k.2]
def kdB (k : List Str × PyData) : PyData := .tuple [k.2, .tuple (k.1.map strD)]
def spKids (K : PySem.W.Frag) (f : List Str × PyData → PyData) : Sp := fun vs H Q _ => ∃ (v : V) (d : PyData) (n w m : Nat), vs = [v] ∧ Da K All H v d ∧ Tm n d ∧ Fit w m d ∧ w ≤ 16000000 ∧
  ∀ (L : Addr) (us : List V) (H' : Hp), Same H H' → H L = none → H' L = some (.lst us) → DaAll K All H' us ((kids d).map f) → Q (.ref L) H'
def spParts (K : PySem.W.Frag) : Sp := fun vs H Q _ => ∃ (v : V) (d : PyData) (n w m : Nat), vs = [v] ∧ Da K All H v d ∧ Tm n d ∧ Fit w m d ∧ n * (w + 2) ≤ 16000000 ∧
  ∀ (L : Addr) (us : List V) (H' : Hp), Same H H' → H L = none → H' L = some (.lst us) → DaAll K All H' us (pre n d) → Q (.ref L) H'
def spUses (K : PySem.W.Frag) : Sp := fun vs H Q _ => ∃ (v : V) (d : PyData) (n w m : Nat), vs = [v] ∧ Da K All H v d ∧ Tm n d ∧ Fit w m d ∧ 4 ≤ w ∧ n * (w + 2) ≤ 16000000 ∧
  ∀ (L : Addr) (H' : Hp), Same H H' → H L = none → H' L = some (.lst ((dd [] (outs (walkD n d []))).map V.str)) → Q (.ref L) H'
def spFirst : Sp := fun vs H Q _ => ∃ (a : Addr) (xs : List Str), vs = [.ref a] ∧ H a = some (.lst (xs.map V.str)) ∧ xs.length ≤ 16000000 ∧
  ∀ (L : Addr) (H' : Hp), Same H H' → H L = none → H' L = some (.lst ((dd [] xs).map V.str)) → Q (.ref L) H'
/-- a row of a part with a list of the names given around it -/
def Wk (K : PySem.W.Frag) (H : Hp) (u : V) (q : PyData × List Str) : Prop := ∃ (t : Addr) (v : V) (h : Addr), u = .ref t ∧ SqT K H t [v, .ref h] ∧ Da K All H v q.1 ∧ H h = some (.lst (q.2.map V.str))
theorem Wk.same {K : PySem.W.Frag} {H H' : Hp} {u : V} {q : PyData × List Str} (s : Same H H') (h : Wk K H u q) : Wk K H' u q := by
  obtain ⟨t, v, a, rfl, h1, h2, h3⟩ := h
  exact ⟨t, v, a, rfl, sqT_same s h1, h2.same s, s _ _ h3⟩
inductive WkAll (K : PySem.W.Frag) (H : Hp) : List V → List (PyData × List Str) → Prop
  | nil : WkAll K H [] []
  | cons {u : V} {us : List V} {q : PyData × List Str} {qs : List (PyData × List Str)} : Wk K H u q → WkAll K H us qs → WkAll K H (u :: us) (q :: qs)
theorem WkAll.same {K : PySem.W.Frag} {H H' : Hp} (s : Same H H') : ∀ {us : List V} {qs : List (PyData × List Str)}, WkAll K H us qs → WkAll K H' us qs
  | _, _, .nil => .nil
  | _, _, .cons a b => .cons (a.same s) (b.same s)
theorem WkAll.append {K : PySem.W.Frag} {H : Hp} : ∀ {us vs : List V} {qs rs : List (PyData × List Str)}, WkAll K H us qs → WkAll K H vs rs → WkAll K H (us ++ vs) (qs ++ rs)
  | _, _, _, _, .nil, h => h
  | _, _, _, _, .cons a b, h => .cons a (b.append h)
theorem WkAll.length {K : PySem.W.Frag} {H : Hp} : ∀ {us : List V} {qs : List (PyData × List Str)}, WkAll K H us qs → us.length = qs.length
  | _, _, .nil => rfl
  | _, _, .cons a b => by rw [List.length_cons, List.length_cons, b.length]
theorem WkAll.get {K : PySem.W.Frag} {H : Hp} : ∀ {us : List V} {qs : List (PyData × List Str)}, WkAll K H us qs → ∀ {i : Nat} {u : V}, us[i]? = some u → ∃ q, qs[i]? = some q ∧ Wk K H u q
  | _, _, .nil, i, u, e => by cases e
  | _, _, .cons a b, 0, u, e => by
    cases e
    exact ⟨_, rfl, a⟩
  | _, _, .cons a b, i + 1, u, e => b.get (i := i) e
def spWalk (K : PySem.W.Frag) (n : Nat) : Sp := fun vs H Q _ => ∃ (v : V) (d : PyData) (h : Addr) (g : List Str) (w m : Nat), vs = [v, .ref h] ∧ Da K All H v d ∧ Tm n d ∧ Fit w m d ∧ 4 ≤ w ∧ H h = some (.lst (g.map V.str)) ∧ n * (w + 2) ≤ 16000000 ∧ g.length + n * w ≤ 16000000 ∧
  ∀ (L : Addr) (us : List V) (H' : Hp), Same H H' → H L = none → H' L = some (.lst us) → WkAll K H' us (walkD n d g) → Q (.ref L) H'
section
variable {K : PySem.W.Frag} {N : Addr → Prop} {H H' : Hp}
theorem DaAll.unc {vs : List V} {d : PyData} {ds : List PyData} (h : DaAll K N H vs (d :: ds)) : ∃ v us, vs = v :: us ∧ Da K N H v d ∧ DaAll K N H us ds := by
  cases h with
  | cons a b => exact ⟨_, _, rfl, a, b⟩
theorem DaAll.un0 {vs : List V} (h : DaAll K N H vs []) : vs = [] := by
  cases h
  rfl
theorem Da.tup2 {v : V} {a b : PyData} (h : Da K N H v (.tuple [a, b])) : ∃ t x y, v = .ref t ∧ SqT K H t [x, y] ∧ Da K N H x a ∧ Da K N H y b := by
  obtain ⟨t, xs, rfl, hT, hA⟩ := h.tupInv
  obtain ⟨x, us, rfl, hx, hA⟩ := hA.unc
  obtain ⟨y, us, rfl, hy, hA⟩ := hA.unc
  obtain rfl := hA.un0
  exact ⟨t, x, y, rfl, hT, hx, hy⟩
theorem Da.tup4 {v : V} {a b c d : PyData} (h : Da K N H v (.tuple [a, b, c, d])) : ∃ t x y z w, v = .ref t ∧ SqT K H t [x, y, z, w] ∧ Da K N H x a ∧ Da K N H y b ∧ Da K N H z c ∧ Da K N H w d := by
  obtain ⟨t, xs, rfl, hT, hA⟩ := h.tupInv
  obtain ⟨x, us, rfl, hx, hA⟩ := hA.unc
  obtain ⟨y, us, rfl, hy, hA⟩ := hA.unc
  obtain ⟨z, us, rfl, hz, hA⟩ := hA.unc
  obtain ⟨w, us, rfl, hw, hA⟩ := hA.unc
  obtain rfl := hA.un0
  exact ⟨t, x, y, z, w, rfl, hT, hx, hy, hz, hw⟩
theorem Da.tup5 {v : V} {a b c d e : PyData} (h : Da K N H v (.tuple [a, b, c, d, e])) : ∃ t x y z w u, v = .ref t ∧ SqT K H t [x, y, z, w, u] ∧ Da K N H x a ∧ Da K N H y b ∧ Da K N H z c ∧ Da K N H w d ∧ Da K N H u e := by
  obtain ⟨t, xs, rfl, hT, hA⟩ := h.tupInv
  obtain ⟨x, us, rfl, hx, hA⟩ := hA.unc
  obtain ⟨y, us, rfl, hy, hA⟩ := hA.unc
  obtain ⟨z, us, rfl, hz, hA⟩ := hA.unc
  obtain ⟨w, us, rfl, hw, hA⟩ := hA.unc
  obtain ⟨u, us, rfl, hu, hA⟩ := hA.unc
  obtain rfl := hA.un0
  exact ⟨t, x, y, z, w, u, rfl, hT, hx, hy, hz, hw, hu⟩
theorem da_strs : ∀ {vs : List V} {xs : List Str}, DaAll K N H vs (xs.map strD) → vs = xs.map V.str
  | vs, [], h => h.un0
  | vs, x :: xs, h => by
    obtain ⟨v, us, rfl, hv, hA⟩ := DaAll.unc h
    rw [hv.strInv, da_strs hA]
    rfl
theorem Da.names {v : V} {xs : List Str} (h : Da K N H v (.tuple (xs.map strD))) : ∃ t, v = .ref t ∧ SqT K H t (xs.map V.str) := by
  obtain ⟨t, vs, rfl, hT, hA⟩ := h.tupInv
  rw [da_strs hA] at hT
  exact ⟨t, rfl, hT⟩
theorem row_a {t n : Addr} {v : V} {d : PyData} {xs : List Str} (h : SqT K H t [.ref n, v]) (h1 : SqT K H n (xs.map V.str)) (h2 : Da K All H v d) : Da K All H (.ref t) (kdA (xs, d)) :=
  .tup h (.cons (.tup h1 (da_names xs)) (.cons h2 .nil))
theorem row_b {t n : Addr} {v : V} {d : PyData} {xs : List Str} (h : SqT K H t [v, .ref n]) (h1 : SqT K H n (xs.map V.str)) (h2 : Da K All H v d) : Da K All H (.ref t) (kdB (xs, d)) :=
  .tup h (.cons h2 (.cons (.tup h1 (da_names xs)) .nil))
theorem acc_da {D : Addr} {us : List V} {ds : List PyData} {y : V} {d : PyData} (e : H D = some (.lst us)) (h : DaAll K All H us ds) (g : Da K All H y d) : DaAll K All (upd H D (.lst (us ++ [y]))) (us ++ [y]) (ds ++ [d]) :=
  (h.append (.cons g .nil)).ts (Ts.put e)
theorem in_strs (s : Str) (xs : List Str) : inV (.str s) (xs.map V.str) = decide (s ∈ xs) := by
  induction xs with
  | nil => rfl
  | cons x xs ih =>
    show ((x == s) || inV (.str s) (xs.map V.str)) = _
    rw [ih]
    by_cases h : x = s
    · subst h
      simp
    · rw [show (x == s) = false from beq_eq_false_iff_ne.mpr h, Bool.false_or]
      have : ¬ s = x := fun e => h e.symm
      simp [this]
theorem flat_strs (xs : List Str) : (xs.map V.str).all flatV = true := by simp [flatV]
end
theorem iteSF {A B : Prop} {a b : Str} (h : a ≠ b) (hb : B) : if decide (V.str a = V.str b) = true then A else B := by
  rw [decide_eq_false (fun e => h (by injection e))]
  exact iteF hb
theorem iteST {A B : Prop} {a b : Str} (h : a = b) (ha : A) : if decide (V.str a = V.str b) = true then A else B := by
  rw [decide_eq_true (congrArg V.str h)]
  exact iteT ha
theorem iteInF {A B : Prop} {x : Str} {xs : List Str} (h : x ∉ xs) (hb : B) : if (if false = true then !inV (.str x) (xs.map V.str) else inV (.str x) (xs.map V.str)) = true then A else B := by
  rw [if_neg Bool.false_ne_true, in_strs, decide_eq_false h]
  exact iteF hb
theorem iteInT {A B : Prop} {x : Str} {xs : List Str} (h : x ∈ xs) (ha : A) : if (if false = true then !inV (.str x) (xs.map V.str) else inV (.str x) (xs.map V.str)) = true then A else B := by
  rw [if_neg Bool.false_ne_true, in_strs, decide_eq_true h]
  exact iteT ha
abbrev m2 : List Str := [Str.ofString "/", Str.ofString "+"]
abbrev m3 : List Str := [Str.ofString "!", Str.ofString "&", Str.ofString "-"]
theorem ne_mem {s z : Str} {l : List Str} (h : s ∈ l) (g : z ∉ l) : s ≠ z := fun e => g (e ▸ h)
theorem none_same {H H' : Hp} {L : Addr} (s : Same H H') (h : H' L = none) : H L = none := by
  cases e : H L with
  | none => rfl
  | some o => exact absurd (s _ _ e) (by rw [h]; nofun)
theorem ix_tupK {X : Cx} {K : PySem.W.Frag} (h : X.K = K) : IxR X (rIxT K) := h ▸ ix_tup
theorem ix_listK {X : Cx} {K : PySem.W.Frag} (h : X.K = K) : IxR X (rIxL K) := h ▸ ix_list
theorem notIn_seqK {X : Cx} {K : PySem.W.Frag} (h : X.K = K) : OpR X (compareOp .NotIn) (rIn K true) := h ▸ op_notIn_seq
theorem isDK {X : Cx} {K : PySem.W.Frag} (h : X.K = K) : CallR X (.builtin "isinstance") (rIsD K) := h ▸ call_isD
theorem tm_pos {n : Nat} {d : PyData} (t : Tm n d) : ∃ m, n = m + 1 := by
  cases n with
  | zero => cases t
  | succ m => exact ⟨m, rfl⟩
theorem kids_tmn {n : Nat} {d : PyData} (t : Tm n d) : ∀ k ∈ kids d, Tm n k.2 := by
  obtain ⟨m, rfl⟩ := tm_pos t
  exact fun k hk => (kids_tm t k hk).up (by omega)
theorem walk_step {n : Nat} {d : PyData} (t : Tm n d) (g : List Str) : walkD n d g = (d, g) :: (kids d).flatMap fun k => walkD n k.2 (g ++ k.1) := by
  obtain ⟨m, rfl⟩ := tm_pos t
  show (d, g) :: _ = (d, g) :: _
  congr 1
  exact flat_eq fun k hk => (walk_up (kids_tm t k hk) (by omega)).symm
theorem flat_map {A B C : Type} (f : A → B) (g : B → List C) : ∀ xs : List A, (xs.map f).flatMap g = xs.flatMap fun x => g (f x)
  | [] => rfl
  | x :: xs => by rw [List.map_cons, List.flatMap_cons, List.flatMap_cons, flat_map f g xs]
theorem pre_step {n : Nat} {d : PyData} (t : Tm n d) : pre n d = d :: ((kids d).map (·.2)).flatMap (pre n) := by
  obtain ⟨m, rfl⟩ := tm_pos t
  show d :: _ = d :: _
  rw [flat_map]
  congr 1
  exact flat_eq fun k hk => (pre_up (kids_tm t k hk) (by omega)).symm
theorem pre_pos {n : Nat} {d : PyData} (t : Tm n d) : 1 ≤ (pre n d).length := by
  rw [pre_step t, List.length_cons]
  omega
theorem flat_ge {n : Nat} : ∀ {ds : List PyData}, (∀ e ∈ ds, Tm n e) → ds.length ≤ (ds.flatMap (pre n)).length
  | [], _ => Nat.le_refl _
  | d :: ds, h => by
    have := flat_ge (ds := ds) fun e he => h e (List.mem_cons_of_mem _ he)
    have := pre_pos (h d (List.mem_cons_self ..))
    rw [List.flatMap_cons, List.length_append, List.length_cons]
    omega
theorem walk_len {n : Nat} {d : PyData} {g : List Str} : (walkD n d g).length = (pre n d).length := by
  rw [← walk_pre n d g, List.length_map]
theorem opAddK {X : Cx} {K : PySem.W.Frag} (h : X.K = K) : OpR X (binaryOp .Add) (rAddAny K) := h ▸ opAdd
theorem outs_no {d : PyData} {g : List Str} {ws : List (PyData × List Str)} (h : tyD d ≠ "str") : outs ((d, g) :: ws) = outs ws := by
  cases d with
  | str x => exact absurd rfl h
  | _ => rfl
theorem outs_str (x : Str) (g : List Str) : outs [(.str x, g)] = if x ∈ g then [] else [x] := rfl
theorem outs_cons (q : PyData × List Str) (ws : List (PyData × List Str)) : outs (q :: ws) = outs [q] ++ outs ws := outs_app [q] ws
theorem dd_one (t : List Str) (x : Str) : dd t [x] = if x ∈ t then t else t ++ [x] := rfl
theorem walk_ge {n : Nat} : ∀ {qs : List (List Str × PyData)}, (∀ q ∈ qs, Tm n q.2) → qs.length ≤ (qs.flatMap fun q => walkD n q.2 q.1).length
  | [], _ => Nat.le_refl _
  | q :: qs, h => by
    have := walk_ge (qs := qs) fun e he => h e (List.mem_cons_of_mem _ he)
    have h1 := pre_pos (h q (List.mem_cons_self ..))
    rw [← walk_len (g := q.1)] at h1
    rw [List.flatMap_cons, List.length_append, List.length_cons]
    omega
theorem FitAll.sub {m : Nat} {es ds : List PyData} (h : es.Sublist ds) : ∀ {n : Nat}, FitAll n m ds → FitAll n m es := by
  induction h with
  | slnil => exact fun f => f
  | cons a h ih =>
    intro n f
    obtain ⟨x, y, l, _, f2⟩ := f.unc
    exact (ih f2).le (by omega) (Nat.le_refl _)
  | cons_cons a h ih =>
    intro n f
    obtain ⟨x, y, l, f1, f2⟩ := f.unc
    exact (FitAll.cons f1 (ih f2)).le l (Nat.le_refl _)
theorem outs_sub : ∀ ws : List (PyData × List Str), ((outs ws).map strD).Sublist (ws.map (·.1))
  | [] => .slnil
  | (d, g) :: ws => by
    have ih := outs_sub ws
    by_cases hs : tyD d = "str"
    · obtain ⟨x, rfl⟩ := ty_str hs
      show ((if x ∈ g then outs ws else x :: outs ws).map strD).Sublist (.str x :: ws.map (·.1))
      by_cases h : x ∈ g
      · rw [if_pos h]
        exact ih.cons _
      · rw [if_neg h]
        exact ih.cons_cons _
    · rw [outs_no hs]
      exact ih.cons _
theorem dd_sub : ∀ (xs acc : List Str), ∃ ys, dd acc xs = acc ++ ys ∧ ys.Sublist xs
  | [], acc => ⟨[], (List.append_nil _).symm, .slnil⟩
  | x :: xs, acc => by
    by_cases h : x ∈ acc
    · obtain ⟨ys, e, l⟩ := dd_sub xs acc
      refine ⟨ys, ?_, l.cons _⟩
      show dd (if x ∈ acc then acc else acc ++ [x]) xs = _
      rw [if_pos h, e]
    · obtain ⟨ys, e, l⟩ := dd_sub xs (acc ++ [x])
      refine ⟨x :: ys, ?_, l.cons_cons _⟩
      show dd (if x ∈ acc then acc else acc ++ [x]) xs = _
      rw [if_neg h, e, List.append_assoc]
      rfl
/-- the names of a term, as a list that is shown -/
theorem free_fit {n w m : Nat} {d : PyData} (t : Tm n d) (f : Fit w m d) : FitAll (n * (w + 2)) m ((dd [] (outs (walkD n d []))).map strD) := by
  obtain ⟨ys, e, l⟩ := dd_sub (outs (walkD n d [])) []
  rw [e, List.nil_append]
  refine FitAll.sub (l.map strD) (FitAll.sub (outs_sub _) ?_)
  rw [walk_pre]
  exact pre_fit t f
abbrev No : Addr → Prop := fun _ => False
theorem da_lst {K : PySem.W.Frag} {H : Hp} {L : Addr} {us : List V} {ds : List PyData} (e : H L = some (.lst us)) (g : DaAll K All H us ds) : Da K No H (.ref L) (.list ds) := .lst e (fun z => z) (g.less fun _ z => z.elim)
theorem da_frees {K : PySem.W.Frag} {H : Hp} {L : Addr} {xs : List Str} (e : H L = some (.lst (xs.map V.str))) : Da K No H (.ref L) (.list (xs.map strD)) := .lst e (fun z => z) (da_names xs)
end Ow

/-! How many texts of a tuple are unlike: len(set(..)). -/
namespace Ow
open PySem PySem.Spec PyProof.Rows
def Dn (g : Nat → Str) (i : Nat) : List Str := dd [] ((List.range i).map g)
theorem Dn_succ (g : Nat → Str) (i : Nat) : Dn g (i + 1) = if g i ∈ Dn g i then Dn g i else Dn g i ++ [g i] := by
  show dd [] ((List.range (i + 1)).map g) = _
  rw [List.range_succ, List.map_append, dd_app]
  rfl
theorem Dn_le (g : Nat → Str) (i : Nat) : (Dn g i).length ≤ i := by
  have := dd_len ((List.range i).map g) []
  rw [List.length_map, List.length_range] at this
  exact Nat.le_trans this (by show 0 + i ≤ i; omega)
theorem setOf_eq {prog : Program} {w : World} {h : Heap} {a : Addr} {S T : Str → Bool} {n m : Nat} (z : h.SetOf (strKind prog w) a S n) (e : S = T) (f : n = m) : h.SetOf (strKind prog w) a T m := e ▸ f ▸ z
section
variable {prog : Program} {w : World} {A : Around} {R : Result → Shared → Prop} {it : Addr} {fp wr : List Addr} {G : Array GenState → Array GenState → Prop} {n : Nat} {P : Nat → Value → Prop} {St : Nat → Shared → Prop}
theorem fill_loop (W : WalksS prog w A.in1 it fp wr G n P St) {C : Addr} (out : C ∉ fp) (g : Nat → Str) (isG : ∀ i v, P i v → ∃ t, v = Value.str (g i) t) (room : n + 1 < scanBound) (left : Nat) :
    ∀ (i : Nat) (z : Shared), i + left = n → St i z → z.heap.SetOf (strKind prog w) C (fun q => decide (q ∈ Dn g i)) (Dn g i).length →
      (∀ z', Moved (C :: wr) G z z' → z'.heap.SetOf (strKind prog w) C (fun q => decide (q ∈ Dn g n)) (Dn g n).length → R (.ok (.ret .none)) z') →
      codeAny (model prog w) A (.builtin "set.update.loop" ⟨[.ref C, .ref it], []⟩) R z := by
  have outW : C ∉ wr := fun c => out (W.sub _ c)
  have wider : ∀ {a b : Shared}, Moved wr G a b → Moved (C :: wr) G a b := fun mv => mv.mono fun c hc => List.mem_cons_of_mem _ hc
  have moved : ∀ {a b : Shared} {S : Str → Bool} {k : Nat}, Moved wr G a b → a.heap.SetOf (strKind prog w) C S k → b.heap.SetOf (strKind prog w) C S k := fun mv hs => by
    obtain ⟨ob, x1, x2, x3, at_, more⟩ := hs
    exact ⟨ob, x1, x2, x3, mv.heap C _ outW at_, more⟩
  induction left with
  | zero =>
    intro i z hi st hs fin
    obtain rfl : i = n := by omega
    refine codeAny_builtin F.entry_set_update_loop ?_
    rw [Around.under_plainId F.plain_set_update_loop _]
    exact wpAny_bind (W.done z _ _ st fun z' mv => wpAny_pure (fin z' (wider mv) (moved mv hs)))
  | succ left ih =>
    intro i z hi st hs fin
    refine codeAny_builtin F.entry_set_update_loop ?_
    rw [Around.under_plainId F.plain_set_update_loop _]
    refine wpAny_bind (W.item i z _ _ (by omega) st fun v z1 pv st1 mv => ?_)
    obtain ⟨t, rfl⟩ := isG i v pv
    show wpAny _ A.in1 (holding [Value.str (g i) t] (setAdd C (.str (g i) t)) >>= _) _ _ z1
    refine wpAny_bind (wpAny_holding ?_)
    unfold setAdd
    refine wpAny_holding (wpAny_bind ((strKind prog w).pyHash (k := g i) (strKind_is _ _ _ _) ?_))
    refine wpAny_setAddHashed_of (knd := strKind prog w) (s := { z1 with toks := z1.toks + 1 }) (strKind_is _ _ _ _) rfl (moved (b := z1) mv hs) (by have := Dn_le g i; omega) fun h2 same hs2 => ?_
    have next : h2.SetOf (strKind prog w) C (fun q => decide (q ∈ Dn g (i + 1))) (Dn g (i + 1)).length := by
      refine setOf_eq hs2 (funext fun q => ?_) ?_
      · rw [Dn_succ]
        by_cases c : g i ∈ Dn g i
        · rw [if_pos c]
          by_cases e : q = g i
          · subst e
            simp [c]
          · simp [e]
        · rw [if_neg c]
          simp
      · rw [Dn_succ]
        by_cases c : g i ∈ Dn g i
        · rw [if_pos c, if_pos (decide_eq_true c)]
        · rw [if_neg c, if_neg (by simpa using c), List.length_append]
          rfl
    have still : ∀ b, b ≠ C → ∀ o, z1.heap.get? b = some o → h2.get? b = some o := fun b hb o e => by
      rw [same.2 b hb]
      exact e
    refine wpAny_pure ⟨plainId_quiet F.plain_set_update_loop _, ih (i + 1) _ (by omega) (W.frame _ z1 _ _ st1 (Nat.le_succ _) fun b hb o e => still b (fun c => out (c ▸ hb)) o e) next fun z3 mv3 hs3 => ?_⟩
    exact fin z3 (Moved.trans W.gtrans ((wider mv).then_heap (Nat.le_succ _) fun b o hb e => still b (fun c => hb (c ▸ List.mem_cons_self ..)) o e) mv3) hs3
end
abbrev freshSet (led : Bool) : Obj := ⟨.type "set", none, .set #[] 0 (.fresh 0 0 led), #[]⟩
theorem strs_get : ∀ {us : List Value} {xs : List Str}, StrsAre us xs → ∀ {i : Nat} {v : Value}, us[i]? = some v → ∃ t, v = .str (xs.getD i Str.empty) t
  | _, _, .nil, i, v, e => by cases e
  | _, _, .cons x t r, 0, v, e => by
    cases e
    exact ⟨t, rfl⟩
  | _, _, .cons x t r, i + 1, v, e => strs_get r (i := i) e
theorem strs_len : ∀ {us : List Value} {xs : List Str}, StrsAre us xs → us.length = xs.length
  | _, _, .nil => rfl
  | _, _, .cons x t r => by rw [List.length_cons, List.length_cons, strs_len r]
theorem range_getD (xs : List Str) : (List.range xs.length).map (fun i => xs.getD i Str.empty) = xs := by
  refine List.ext_getElem (by simp) fun i h1 h2 => ?_
  rw [List.getElem_map, List.getElem_range, List.getD_eq_getElem?_getD, List.getElem?_eq_getElem h2]
  rfl
section
variable {prog : Program} {w : World} {A : Around} {E : Value → Shared → Prop} {s : Shared}
theorem init_setTx {l : Addr} {items : Array Value} {xs : List Str} (led : Bool) (free : A.handled = none) (tup : s.heap.IsTuple l items) (texts : StrsAre items.toList xs) (small : xs.length + 1 < scanBound) {F : PySem.Fin → Shared → Prop}
    (k : ∀ (h' : Heap) (tk : Nat), h'.SetOf (strKind prog w) s.heap.objs.size (fun q => decide (q ∈ dd [] xs)) (dd [] xs).length →
      (∀ b o, b < s.heap.objs.size → s.heap.get? b = some o → h'.get? b = some o) → wpAny (model prog w) A (ret Value.none) F E { s with heap := h', toks := tk }) :
    wpAny (model prog w) A (Builtin.«set.__init__» ⟨[.ref s.heap.objs.size, .ref l], []⟩) F E { s with heap := s.heap.push (freshSet led) } := by
  obtain ⟨⟨_, dl, _, sl⟩, at_, rfl, nl, rfl⟩ := tup
  have atS : (s.heap.push (freshSet led)).get? s.heap.objs.size = some (freshSet led) := Heap.get?_push_size _ rfl
  have at1 := Heap.get?_push_of_some (freshSet led) at_
  have low := Heap.lt_size at_
  have tup1 : (s.heap.push (freshSet led)).IsTuple l items := ⟨_, at1, rfl, nl, rfl⟩
  have n1 := PySem.F.sub_tuple_set
  have n2 := PySem.F.sub_tuple_frozenset
  have n3 : (Value.type "tuple" == .type "dict") = false := by decide
  have hT : Shared.TypeIs { s with heap := s.heap.push (freshSet led) } (.ref s.heap.objs.size) "set" := ⟨_, atS, rfl⟩
  unfold Builtin.«set.__init__» noKeywords Builtin.Frozenset.updateFrom; generalize hPI : pyIter = PI
  wp_walk
  rw [← hPI]
  refine wpAny_pyIter_tuple tup1 (wpAny_bind (wpAny_runValue ?_))
  have sz : (s.heap.push (freshSet led)).objs.size = s.heap.objs.size + 1 := Heap.size_push _ _
  have apart : l ≠ (s.heap.push (freshSet led)).objs.size := fun e => absurd (e.trans sz) (Nat.ne_of_lt (Nat.lt_succ_of_lt low))
  have len : xs.length = items.size := by rw [← strs_len texts, Array.length_toList]
  have dn : Dn (fun i => xs.getD i Str.empty) items.size = dd [] xs := by
    unfold Dn
    rw [← len, range_getD]
  refine fill_loop ((Walks.tuple (by simp [free]) _ l apart items).toS) (C := s.heap.objs.size) ?_ (fun i => xs.getD i Str.empty) (fun i v e => strs_get texts (by rw [Array.getElem?_toList]; exact e)) (by omega) items.size 0 _ (Nat.zero_add _)
    ⟨⟨_, Heap.get?_push_size _ rfl, rfl, rfl⟩, tup1.push _⟩ ?_ ?_
  · rw [sz]
    intro c
    simp only [List.mem_cons, List.not_mem_nil, or_false] at c
    rcases c with c | c
    · exact absurd c (Nat.ne_of_lt (Nat.lt_succ_self _))
    · exact absurd c.symm (Nat.ne_of_lt low)
  · refine setOf_eq ((setObjOf_fresh (knd := strKind prog w) led).setOf (Heap.get?_push_of_some _ atS) (by unfold scanBound; omega)) (funext fun q => ?_) rfl
    rfl
  · rintro ⟨h2, g2, d2, tk2, os2⟩ mv hs
    obtain rfl : g2 = s.gens := mv.gens
    obtain rfl : d2 = s.drawn := mv.drawn
    obtain rfl : os2 = s.os := mv.os
    rw [dn] at hs
    refine wpAny_pure (k h2 tk2 hs fun b o hb e => mv.heap b o ?_ (Heap.get?_push_of_some _ (Heap.get?_push_of_some _ e)))
    rw [sz]
    simp only [List.mem_cons, List.not_mem_nil, or_false, not_or]
    exact ⟨Nat.ne_of_lt hb, Nat.ne_of_lt (Nat.lt_succ_of_lt hb)⟩
theorem call_setTx {l : Addr} {items : Array Value} {xs : List Str} {Q : Value → Shared → Prop} (free : A.handled = none) (tup : s.heap.IsTuple l items) (texts : StrsAre items.toList xs) (small : xs.length + 1 < scanBound)
    (k : ∀ (h' : Heap) (tk : Nat), h'.SetOf (strKind prog w) s.heap.objs.size (fun q => decide (q ∈ dd [] xs)) (dd [] xs).length →
      (∀ b o, b < s.heap.objs.size → s.heap.get? b = some o → h'.get? b = some o) → Q (.ref s.heap.objs.size) { s with heap := h', toks := tk }) : wpAny (model prog w) A (call (.type "set") [.ref l]) Q E s := by
  have ⟨cc, tl, mro⟩ := PySem.F.called_set.mro
  have a1 := PySem.F.called_set.made; have a2 := PySem.F.called_set.sub
  have a3 := PySem.F.called_set.notType; have a4 := PySem.F.called_set.canCreate; have a5 := PySem.F.typeCall_set_1 (.ref l)
  refine wpAny_call (codeAny_of_tree (show wpAny _ _ (callAny (.type "set") _) _ _ _ from wpAny_pure ⟨Code.quiet_builtin _ (by decide +kernel), codeAny_builtin PySem.F.entry_type_call ?_⟩))
  rw [Around.under_plain (weight_type_call_type "set" [.ref l] []) rfl]
  repeat any_goals first | assumption | wp_step
  refine codeAny_mono (code_set_new_1 (.ref l) (E := E) (Q₁ := fun ob z => ∃ led : Bool, ob = .ref s.heap.objs.size ∧ z = { s with heap := s.heap.push (freshSet led) }) fun led => ⟨led, rfl, rfl⟩) fun r z hr => ?_
  match r, hr with
  | .ok (.ret ob), hr =>
    obtain ⟨led, rfl, rfl⟩ := hr
    have atS : (s.heap.push (freshSet led)).get? s.heap.objs.size = some (freshSet led) := Heap.get?_push_size _ rfl
    have hT : Shared.TypeIs { s with heap := s.heap.push (freshSet led) } (.ref s.heap.objs.size) "set" := ⟨_, atS, rfl⟩
    have b1 := PySem.F.called_set.init.lookup; have b2 := PySem.F.called_set.init.bind (.ref s.heap.objs.size)
    repeat any_goals first | assumption | wp_step
    refine codeAny_mono (codeAny_call_builtin (R := wants (fun r z => r = .none ∧ ∃ (h' : Heap) (tk : Nat), z = { s with heap := h', toks := tk } ∧ h'.SetOf (strKind prog w) s.heap.objs.size (fun q => decide (q ∈ dd [] xs)) (dd [] xs).length ∧
      ∀ b o, b < s.heap.objs.size → s.heap.get? b = some o → h'.get? b = some o) E) PySem.F.called_set.init.plain PySem.F.entry_set_init (check_set_init_1 hT ?_)) fun r2 z2 hr2 => ?_
    · exact init_setTx led (by simp [free]) tup texts small fun h2 tk hs keep => wpAny_pure ⟨rfl, h2, tk, rfl, hs, keep⟩
    · match r2, hr2 with
      | .ok (.ret v), hr2 =>
        obtain ⟨rfl, h2, tk, rfl, hs, keep⟩ := hr2
        repeat any_goals first | assumption | wp_step
        exact k h2 tk hs keep
      | .error e, hr2 => exact hr2
  | .error e, hr => exact hr
theorem init_setLx {l : Addr} {items : Array Value} {xs : List Str} (led : Bool) (free : A.handled = none) (tup : s.heap.IsList l items) (texts : StrsAre items.toList xs) (small : xs.length + 1 < scanBound) {F : PySem.Fin → Shared → Prop}
    (k : ∀ (h' : Heap) (tk : Nat), h'.SetOf (strKind prog w) s.heap.objs.size (fun q => decide (q ∈ dd [] xs)) (dd [] xs).length →
      (∀ b o, b < s.heap.objs.size → s.heap.get? b = some o → h'.get? b = some o) → wpAny (model prog w) A (ret Value.none) F E { s with heap := h', toks := tk }) :
    wpAny (model prog w) A (Builtin.«set.__init__» ⟨[.ref s.heap.objs.size, .ref l], []⟩) F E { s with heap := s.heap.push (freshSet led) } := by
  obtain ⟨⟨_, dl, _, sl⟩, at_, rfl, nl, rfl⟩ := tup
  have atS : (s.heap.push (freshSet led)).get? s.heap.objs.size = some (freshSet led) := Heap.get?_push_size _ rfl
  have at1 := Heap.get?_push_of_some (freshSet led) at_
  have low := Heap.lt_size at_
  have tup1 : (s.heap.push (freshSet led)).IsList l items := ⟨_, at1, rfl, nl, rfl⟩
  have n1 := PySem.F.sub_list_set
  have n2 := PySem.F.sub_list_frozenset
  have n3 : (Value.type "list" == .type "dict") = false := by decide
  have hT : Shared.TypeIs { s with heap := s.heap.push (freshSet led) } (.ref s.heap.objs.size) "set" := ⟨_, atS, rfl⟩
  unfold Builtin.«set.__init__» noKeywords Builtin.Frozenset.updateFrom; generalize hPI : pyIter = PI
  wp_walk
  rw [← hPI]
  refine wpAny_pyIter_list tup1 (wpAny_bind (wpAny_runValue ?_))
  have sz : (s.heap.push (freshSet led)).objs.size = s.heap.objs.size + 1 := Heap.size_push _ _
  have apart : l ≠ (s.heap.push (freshSet led)).objs.size := fun e => absurd (e.trans sz) (Nat.ne_of_lt (Nat.lt_succ_of_lt low))
  have len : xs.length = items.size := by rw [← strs_len texts, Array.length_toList]
  have dn : Dn (fun i => xs.getD i Str.empty) items.size = dd [] xs := by
    unfold Dn
    rw [← len, range_getD]
  refine fill_loop ((Walks.list (by simp [free]) _ l apart items).toS) (C := s.heap.objs.size) ?_ (fun i => xs.getD i Str.empty) (fun i v e => strs_get texts (by rw [Array.getElem?_toList]; exact e)) (by omega) items.size 0 _ (Nat.zero_add _)
    ⟨⟨_, Heap.get?_push_size _ rfl, rfl, rfl⟩, tup1.push _⟩ ?_ ?_
  · rw [sz]
    intro c
    simp only [List.mem_cons, List.not_mem_nil, or_false] at c
    rcases c with c | c
    · exact absurd c (Nat.ne_of_lt (Nat.lt_succ_self _))
    · exact absurd c.symm (Nat.ne_of_lt low)
  · refine setOf_eq ((setObjOf_fresh (knd := strKind prog w) led).setOf (Heap.get?_push_of_some _ atS) (by unfold scanBound; omega)) (funext fun q => ?_) rfl
    rfl
  · rintro ⟨h2, g2, d2, tk2, os2⟩ mv hs
    obtain rfl : g2 = s.gens := mv.gens
    obtain rfl : d2 = s.drawn := mv.drawn
    obtain rfl : os2 = s.os := mv.os
    rw [dn] at hs
    refine wpAny_pure (k h2 tk2 hs fun b o hb e => mv.heap b o ?_ (Heap.get?_push_of_some _ (Heap.get?_push_of_some _ e)))
    rw [sz]
    simp only [List.mem_cons, List.not_mem_nil, or_false, not_or]
    exact ⟨Nat.ne_of_lt hb, Nat.ne_of_lt (Nat.lt_succ_of_lt hb)⟩
theorem call_setLx {l : Addr} {items : Array Value} {xs : List Str} {Q : Value → Shared → Prop} (free : A.handled = none) (tup : s.heap.IsList l items) (texts : StrsAre items.toList xs) (small : xs.length + 1 < scanBound)
    (k : ∀ (h' : Heap) (tk : Nat), h'.SetOf (strKind prog w) s.heap.objs.size (fun q => decide (q ∈ dd [] xs)) (dd [] xs).length →
      (∀ b o, b < s.heap.objs.size → s.heap.get? b = some o → h'.get? b = some o) → Q (.ref s.heap.objs.size) { s with heap := h', toks := tk }) : wpAny (model prog w) A (call (.type "set") [.ref l]) Q E s := by
  have ⟨cc, tl, mro⟩ := PySem.F.called_set.mro
  have a1 := PySem.F.called_set.made; have a2 := PySem.F.called_set.sub
  have a3 := PySem.F.called_set.notType; have a4 := PySem.F.called_set.canCreate; have a5 := PySem.F.typeCall_set_1 (.ref l)
  refine wpAny_call (codeAny_of_tree (show wpAny _ _ (callAny (.type "set") _) _ _ _ from wpAny_pure ⟨Code.quiet_builtin _ (by decide +kernel), codeAny_builtin PySem.F.entry_type_call ?_⟩))
  rw [Around.under_plain (weight_type_call_type "set" [.ref l] []) rfl]
  repeat any_goals first | assumption | wp_step
  refine codeAny_mono (code_set_new_1 (.ref l) (E := E) (Q₁ := fun ob z => ∃ led : Bool, ob = .ref s.heap.objs.size ∧ z = { s with heap := s.heap.push (freshSet led) }) fun led => ⟨led, rfl, rfl⟩) fun r z hr => ?_
  match r, hr with
  | .ok (.ret ob), hr =>
    obtain ⟨led, rfl, rfl⟩ := hr
    have atS : (s.heap.push (freshSet led)).get? s.heap.objs.size = some (freshSet led) := Heap.get?_push_size _ rfl
    have hT : Shared.TypeIs { s with heap := s.heap.push (freshSet led) } (.ref s.heap.objs.size) "set" := ⟨_, atS, rfl⟩
    have b1 := PySem.F.called_set.init.lookup; have b2 := PySem.F.called_set.init.bind (.ref s.heap.objs.size)
    repeat any_goals first | assumption | wp_step
    refine codeAny_mono (codeAny_call_builtin (R := wants (fun r z => r = .none ∧ ∃ (h' : Heap) (tk : Nat), z = { s with heap := h', toks := tk } ∧ h'.SetOf (strKind prog w) s.heap.objs.size (fun q => decide (q ∈ dd [] xs)) (dd [] xs).length ∧
      ∀ b o, b < s.heap.objs.size → s.heap.get? b = some o → h'.get? b = some o) E) PySem.F.called_set.init.plain PySem.F.entry_set_init (check_set_init_1 hT ?_)) fun r2 z2 hr2 => ?_
    · exact init_setLx led (by simp [free]) tup texts small fun h2 tk hs keep => wpAny_pure ⟨rfl, h2, tk, rfl, hs, keep⟩
    · match r2, hr2 with
      | .ok (.ret v), hr2 =>
        obtain ⟨rfl, h2, tk, rfl, hs, keep⟩ := hr2
        repeat any_goals first | assumption | wp_step
        exact k h2 tk hs keep
      | .error e, hr2 => exact hr2
  | .error e, hr => exact hr
end
end Ow
namespace Ow
open PySem PySem.Spec PyProof.Rows L2
def tLenSetT (K : PySem.W.Frag) (ta : TE) : TE := fun σ H Q => ta σ H fun x H1 => ∃ (l : Addr) (xs : List Str), x = .ref l ∧ (SqT K H1 l (xs.map V.str) ∨ SqL K H1 l (xs.map V.str)) ∧ xs.length ≤ 1000 ∧ Q (.int (dd [] xs).length) H1
theorem strs_are : ∀ {xs : List Str} {us : List Value}, Vals (xs.map V.str) us → StrsAre us xs
  | [], _, .nil => .nil
  | x :: xs, _, .cons ⟨k, e⟩ t => e ▸ .cons x k (strs_are t)
theorem pe_lenSetT {X : Cx} {a : Expr} {ta : TE} {p p2 q pos : Pos} (calm : X.calm = true) (g1 : Gl X "len") (n1 : X.mg "len" = none) (g2 : Gl X "set") (n2 : X.mg "set" = none) (ha : PE X a ta)
    (na : starEach [a] X.env = (false, eval a X.env) :: starEach [] X.env := by rfl) : PE X (.Call (.Name "len" p) [.Call (.Name "set" p2) [a] [] q] [] pos) (tLenSetT X.K ta) := by
  refine ⟨fun pins s σ H Q I h => Call_ (ld_blt I g1 n1 boot_len (callWith_builtin1 (args_cons (Call_ (ld_blt I g2 n2 boot_set (callWith_type1 (args_cons (thn (ha.run pins s σ H _ I h) fun v s1 z => args_nil ?_) na) na rfl))) rfl) rfl rfl))⟩
  obtain ⟨x, H1, I1, r1, l, xs, rfl, hT, small, done⟩ := z
  cases r1
  have fin : ∀ (h2 : Heap) (tk : Nat), h2.SetOf (strKind X.prog X.w) s1.heap.objs.size (fun q => decide (q ∈ dd [] xs)) (dd [] xs).length → (∀ b o, b < s1.heap.objs.size → s1.heap.get? b = some o → h2.get? b = some o) →
      wpAny (model X.prog X.w) X.A (spliced (backTo pos (starEach [] X.env))) (fun vs s₂ => wpAny (model X.prog X.w) X.A (call (.builtin "len") (Value.ref s1.heap.objs.size :: vs)) (EP X pins σ Q) X.xe s₂) X.xe { s1 with heap := h2, toks := tk } := fun h2 tk hs keep => by
    refine args_nil ?_
    obtain ⟨ob, x1, x2, x3, at_, y1, y2, _, _, _, y3, y4⟩ := hs
    have I2 : Inv X pins σ H1 { s1 with heap := h2, toks := tk } := I1.kept fun b o e => keep b o (Heap.lt_size e) e
    have short := dd_len xs []
    have nn : ([] : List Str).length = 0 := rfl
    exact call_len_set at_ y1 y2 y3 (by rw [y4]; omega) ⟨.int (dd [] xs).length, H1, I2.tok _, ⟨_, by rw [y4]⟩, done⟩
  rcases hT with hT | hT
  · obtain ⟨us, r, tup, _⟩ := I1.tuple hT
    exact call_setTx (I1.ok.hd calm) tup (by simpa using strs_are r) (by unfold scanBound; omega) fin
  · obtain ⟨us, r, lst, _⟩ := I1.list hT
    exact call_setLx (I1.ok.hd calm) lst.isList (by simpa using strs_are r) (by unfold scanBound; omega) fin
end Ow

/-! What is a term, over any data. -/
namespace Ow
open PySem PySem.Spec PyProof.Rows L2
def unlikeN (xs : List Str) : Bool := decide ((dd [] xs).length = xs.length)
def caseOk : PyData → Bool
  | .tuple [m, .tuple ns, _] => isNameD m && decide (ns.length ≤ 4) && ns.all isNameD && unlikeN (ns.map nmD)
  | _ => false
def slotOk (s : Str) (d : PyData) : Bool :=
  if s = sg "name" then isNameD d else if s = sg "kind" then kindW 6 d else if s = sg "terms" then isRowD d 0 4 else if s = sg "cases" then isRowD d 1 6 && (itD d).all caseOk else true
def formsL : List (Str × List Str) := [(sg "@", [sg "name"]), (sg "^", [sg "name", sg "kind", sg "term"]), (sg "!", [sg "term", sg "term"]), (sg "&", [sg "term", sg "term"]), (sg "/", [sg "term", sg "name", sg "name", sg "term"]),
  (sg "#", [sg "name", sg "terms"]), (sg "?", [sg "term", sg "cases"]), (sg "+", [sg "term", sg "name", sg "name", sg "term"]), (sg "-", [sg "term", sg "term"])]
def formOf (s : Str) : Option (List Str) := (formsL.find? fun p => decide (p.1 = s)).map (·.2)
def sameN (a b : Option PyData) : Bool := decide (a.map nmD = b.map nmD)
def formedD : PyData → Bool
  | .str x => isNameD (.str x)
  | .tuple (.str s :: r) => match formOf s with
    | none => false
    | some sl => decide (r.length = sl.length) && (sl.zip r).all (fun p => slotOk p.1 p.2) && (!decide (s ∈ m2) || !sameN r[1]? r[2]?)
  | _ => false
/-- the shape of what is formed, what is within it left aside -/
inductive Sh : PyData → Prop
  | name (x : Str) : isNameD (.str x) = true → Sh (.str x)
  | at (x : Str) : isNameD (.str x) = true → Sh (.tuple [.str (Str.ofString "@"), .str x])
  | lam (x : Str) (k t : PyData) : isNameD (.str x) = true → kindW 6 k = true → Sh (.tuple [.str (Str.ofString "^"), .str x, k, t])
  | two (s : Str) (t u : PyData) : s ∈ [Str.ofString "!", Str.ofString "&", Str.ofString "-"] → Sh (.tuple [.str s, t, u])
  | five (s x y : Str) (t u : PyData) : s ∈ [Str.ofString "/", Str.ofString "+"] → isNameD (.str x) = true → isNameD (.str y) = true → x ≠ y → Sh (.tuple [.str s, t, .str x, .str y, u])
  | mk (c : Str) (ts : List PyData) : isNameD (.str c) = true → ts.length ≤ 4 → Sh (.tuple [.str (Str.ofString "#"), .str c, .tuple ts])
  | ch (t : PyData) (cs : List (Str × List Str × PyData)) : 1 ≤ cs.length → cs.length ≤ 6 → (∀ c ∈ cs, isNameD (.str c.1) = true ∧ c.2.1.length ≤ 4 ∧ (∀ x ∈ c.2.1, isNameD (.str x) = true) ∧ unlikeN c.2.1 = true) →
      Sh (.tuple [.str (Str.ofString "?"), t, .tuple (cs.map fun c => .tuple [.str c.1, .tuple (c.2.1.map strD), c.2.2])])
theorem name_str {d : PyData} (h : isNameD d = true) : ∃ x, d = .str x := by
  cases d with
  | str x => exact ⟨x, rfl⟩
  | _ => cases h
theorem names_of : ∀ {ns : List PyData}, ns.all isNameD = true → ∃ xs : List Str, ns = xs.map strD ∧ ∀ x ∈ xs, isNameD (.str x) = true
  | [], _ => ⟨[], rfl, fun _ z => nomatch z⟩
  | d :: ns, h => by
    rw [List.all_cons, Bool.and_eq_true] at h
    obtain ⟨x, rfl⟩ := name_str h.1
    obtain ⟨xs, rfl, hx⟩ := names_of h.2
    refine ⟨x :: xs, rfl, fun y hy => ?_⟩
    rcases List.mem_cons.mp hy with rfl | hy
    · exact h.1
    · exact hx y hy
theorem case_of {d : PyData} (h : caseOk d = true) : ∃ c : Str × List Str × PyData, d = .tuple [.str c.1, .tuple (c.2.1.map strD), c.2.2] ∧ isNameD (.str c.1) = true ∧ c.2.1.length ≤ 4 ∧ (∀ x ∈ c.2.1, isNameD (.str x) = true) ∧ unlikeN c.2.1 = true := by
  unfold caseOk at h
  split at h
  · rename_i m ns u
    simp only [Bool.and_eq_true, decide_eq_true_eq] at h
    obtain ⟨⟨⟨h1, h2⟩, h3⟩, h4⟩ := h
    obtain ⟨x, rfl⟩ := name_str h1
    obtain ⟨xs, rfl, hx⟩ := names_of h3
    rw [nm_map] at h4
    rw [List.length_map] at h2
    exact ⟨(x, xs, u), rfl, h1, h2, hx, h4⟩
  · cases h
theorem cases_of : ∀ {ds : List PyData}, ds.all caseOk = true → ∃ cs : List (Str × List Str × PyData), ds = cs.map (fun c => .tuple [.str c.1, .tuple (c.2.1.map strD), c.2.2]) ∧ ∀ c ∈ cs, isNameD (.str c.1) = true ∧ c.2.1.length ≤ 4 ∧ (∀ x ∈ c.2.1, isNameD (.str x) = true) ∧ unlikeN c.2.1 = true
  | [], _ => ⟨[], rfl, fun _ z => nomatch z⟩
  | d :: ds, h => by
    rw [List.all_cons, Bool.and_eq_true] at h
    obtain ⟨c, rfl, hc⟩ := case_of h.1
    obtain ⟨cs, rfl, hcs⟩ := cases_of h.2
    refine ⟨c :: cs, rfl, fun e he => ?_⟩
    rcases List.mem_cons.mp he with rfl | he
    · exact hc
    · exact hcs e he
theorem slot_name (d : PyData) : slotOk (sg "name") d = isNameD d := if_pos rfl
theorem slot_kind (d : PyData) : slotOk (sg "kind") d = kindW 6 d := (if_neg (by decide +kernel)).trans (if_pos rfl)
theorem slot_terms (d : PyData) : slotOk (sg "terms") d = isRowD d 0 4 := (if_neg (by decide +kernel)).trans ((if_neg (by decide +kernel)).trans (if_pos rfl))
theorem slot_cases (d : PyData) : slotOk (sg "cases") d = (isRowD d 1 6 && (itD d).all caseOk) := (if_neg (by decide +kernel)).trans ((if_neg (by decide +kernel)).trans ((if_neg (by decide +kernel)).trans (if_pos rfl)))
theorem slot_term (d : PyData) : slotOk (sg "term") d = true := (if_neg (by decide +kernel)).trans ((if_neg (by decide +kernel)).trans ((if_neg (by decide +kernel)).trans (if_neg (by decide +kernel))))
theorem form_cases {s : Str} {sl : List Str} (h : formOf s = some sl) : (s, sl) ∈ formsL := by
  unfold formOf at h
  obtain ⟨p, hp, rfl⟩ := Option.map_eq_some_iff.mp h
  have e := List.find?_some hp
  rw [← of_decide_eq_true e]
  exact List.mem_of_find?_eq_some hp
theorem row_tup {d : PyData} {a b : Int} (h : isRowD d a b = true) : ∃ ds, d = .tuple ds ∧ a ≤ (ds.length : Int) ∧ (ds.length : Int) ≤ b := by
  cases d with
  | tuple ds =>
    refine ⟨ds, rfl, ?_⟩
    simpa [isRowD] using h
  | _ => cases h
theorem form_eq {s : Str} {r : List PyData} : formedD (.tuple (.str s :: r)) = match formOf s with
    | none => false
    | some sl => decide (r.length = sl.length) && (sl.zip r).all (fun p => slotOk p.1 p.2) && (!decide (s ∈ m2) || !sameN r[1]? r[2]?) := rfl
theorem len1 {α : Type} {r : List α} (h : r.length = 1) : ∃ a, r = [a] := by
  match r, h with
  | [a], _ => exact ⟨a, rfl⟩
theorem len2 {α : Type} {r : List α} (h : r.length = 2) : ∃ a b, r = [a, b] := by
  match r, h with
  | [a, b], _ => exact ⟨a, b, rfl⟩
theorem len3 {α : Type} {r : List α} (h : r.length = 3) : ∃ a b c, r = [a, b, c] := by
  match r, h with
  | [a, b, c], _ => exact ⟨a, b, c, rfl⟩
theorem len4 {α : Type} {r : List α} (h : r.length = 4) : ∃ a b c d, r = [a, b, c, d] := by
  match r, h with
  | [a, b, c, d], _ => exact ⟨a, b, c, d, rfl⟩
theorem formed_sh {d : PyData} (h : formedD d = true) : Sh d := by
  unfold formedD at h
  split at h
  · exact .name _ h
  · rename_i s r
    split at h
    · cases h
    · rename_i sl hs
      simp only [Bool.and_eq_true, decide_eq_true_eq] at h
      obtain ⟨⟨hl, ha⟩, hm⟩ := h
      have hf := form_cases hs
      simp only [formsL, List.mem_cons, List.not_mem_nil, or_false, Prod.mk.injEq] at hf
      rcases hf with ⟨rfl, rfl⟩ | ⟨rfl, rfl⟩ | ⟨rfl, rfl⟩ | ⟨rfl, rfl⟩ | ⟨rfl, rfl⟩ | ⟨rfl, rfl⟩ | ⟨rfl, rfl⟩ | ⟨rfl, rfl⟩ | ⟨rfl, rfl⟩
      · obtain ⟨a, rfl⟩ := len1 hl
        simp only [List.zip_cons_cons, List.zip_nil_left, List.all_cons, List.all_nil, slot_name, Bool.and_true] at ha
        obtain ⟨x, rfl⟩ := name_str ha
        exact .at x ha
      · obtain ⟨a, b, c, rfl⟩ := len3 hl
        simp only [List.zip_cons_cons, List.zip_nil_left, List.all_cons, List.all_nil, slot_name, slot_kind, slot_term, Bool.and_true, Bool.and_eq_true] at ha
        obtain ⟨x, rfl⟩ := name_str ha.1
        exact .lam x b c ha.1 ha.2
      · obtain ⟨a, b, rfl⟩ := len2 hl
        exact .two _ a b (by simp)
      · obtain ⟨a, b, rfl⟩ := len2 hl
        exact .two _ a b (by simp)
      · obtain ⟨a, b, c, e, rfl⟩ := len4 hl
        simp only [List.zip_cons_cons, List.zip_nil_left, List.all_cons, List.all_nil, slot_name, slot_term, Bool.and_true, Bool.true_and, Bool.and_eq_true] at ha
        obtain ⟨x, rfl⟩ := name_str ha.1
        obtain ⟨y, rfl⟩ := name_str ha.2
        refine .five _ x y a e (by simp) ha.1 ha.2 fun hxy => ?_
        subst hxy
        simp [sameN] at hm
      · obtain ⟨a, b, rfl⟩ := len2 hl
        simp only [List.zip_cons_cons, List.zip_nil_left, List.all_cons, List.all_nil, slot_name, slot_terms, Bool.and_true, Bool.and_eq_true] at ha
        obtain ⟨x, rfl⟩ := name_str ha.1
        obtain ⟨ts, rfl, _, h4⟩ := row_tup ha.2
        exact .mk x ts ha.1 (by omega)
      · obtain ⟨a, b, rfl⟩ := len2 hl
        simp only [List.zip_cons_cons, List.zip_nil_left, List.all_cons, List.all_nil, slot_term, slot_cases, Bool.and_true, Bool.true_and, Bool.and_eq_true] at ha
        obtain ⟨ts, rfl, h1, h6⟩ := row_tup ha.1
        obtain ⟨cs, rfl, hcs⟩ := cases_of (ds := ts) ha.2
        rw [List.length_map] at h1 h6
        exact .ch a cs (by omega) (by omega) hcs
      · obtain ⟨a, b, c, e, rfl⟩ := len4 hl
        simp only [List.zip_cons_cons, List.zip_nil_left, List.all_cons, List.all_nil, slot_name, slot_term, Bool.and_true, Bool.true_and, Bool.and_eq_true] at ha
        obtain ⟨x, rfl⟩ := name_str ha.1
        obtain ⟨y, rfl⟩ := name_str ha.2
        refine .five _ x y a e (by simp) ha.1 ha.2 fun hxy => ?_
        subst hxy
        simp [sameN] at hm
      · obtain ⟨a, b, rfl⟩ := len2 hl
        exact .two _ a b (by simp)
  · cases h
end Ow

/-! How large a term is; rows of what stands within. -/
namespace Ow
open PySem PySem.Spec PyProof.Rows L2
theorem kidsS_fit {d : PyData} (h : Sh d) : ∀ {w m : Nat}, Fit w m d → FitAll w m ((kids d).map (·.2)) := by
  intro w m f
  cases h with
  | name x _ => exact FitAll.nil.le (Nat.zero_le _) (Nat.le_refl _)
  | «at» x _ => exact FitAll.nil.le (Nat.zero_le _) (Nat.le_refl _)
  | lam x kk t _ _ =>
    obtain ⟨a, b, l, f1, f2⟩ := f.inner.unc
    obtain ⟨a2, b2, l2, f3, f4⟩ := f2.unc
    obtain ⟨a3, b3, l3, f5, f6⟩ := f4.unc
    exact f6.le (by omega) (Nat.le_refl _)
  | two s t u hs =>
    rw [kids_two _ _ hs]
    exact f.two.1
  | five s x y t u hs _ _ _ =>
    obtain ⟨a, b, l, f1, f2⟩ := f.inner.unc
    obtain ⟨a2, b2, l2, f3, f4⟩ := f2.unc
    obtain ⟨a3, b3, l3, f5, f6⟩ := f4.unc
    obtain ⟨a4, b4, l4, f7, f8⟩ := f6.unc
    exact (FitAll.cons f3 f8).le (by omega) (Nat.le_refl _)
  | mk c ts _ _ =>
    rw [kids_mk, List.map_map]
    have := f.two.2.1.inner
    rwa [show ts.map ((fun x : List Str × PyData => x.2) ∘ fun t => ([], t)) = ts from List.map_id _]
  | ch t cs _ _ _ =>
    rw [kids_ch]
    obtain ⟨a, b, l, f1, f2⟩ := f.inner.unc
    obtain ⟨a2, b2, l2, f3, f4⟩ := f2.unc
    obtain ⟨a3, b3, l3, f5, f6⟩ := f4.unc
    have g2 := FitAll.fmap (fun c => (caseD c).2) (fun d hd => by
      obtain ⟨c, _, rfl⟩ := List.mem_map.mp hd
      intro n m q
      exact q.two.2.1) f5.inner
    rw [List.map_map] at g2
    show FitAll w m (_ :: (cs.map (·.2)).map (·.2))
    rw [List.map_map]
    exact (FitAll.cons f3 g2).le (by omega) (Nat.le_refl _)
theorem kidsS_len {d : PyData} (h : Sh d) : (kids d).length ≤ 7 := by
  cases h with
  | name x _ => exact Nat.zero_le _
  | «at» x _ => exact Nat.zero_le _
  | lam x kk t _ _ => show 1 ≤ 7; omega
  | two s t u hs => rw [kids_two _ _ hs]; show 2 ≤ 7; omega
  | five s x y t u hs _ _ _ => show 2 ≤ 7; omega
  | mk c ts _ h4 => rw [kids_mk, List.length_map]; omega
  | ch t cs _ h6 _ => rw [kids_ch, List.length_cons, List.length_map]; omega
def addO : Option Nat → Option Nat → Option Nat
  | some a, some b => some (a + b)
  | _, _ => none
def sumO : List (Option Nat) → Option Nat
  | [] => some 0
  | x :: xs => addO x (sumO xs)
theorem addO_assoc (a b c : Option Nat) : addO (addO a b) c = addO a (addO b c) := by
  cases a <;> cases b <;> cases c <;> simp [addO, Nat.add_assoc]
theorem addO_zero (a : Option Nat) : addO (some 0) a = a := by cases a <;> simp [addO]
theorem addO_none (a : Option Nat) : addO a none = none := by cases a <;> rfl
theorem sumO_app (xs ys : List (Option Nat)) : sumO (xs ++ ys) = addO (sumO xs) (sumO ys) := by
  induction xs with
  | nil => exact (addO_zero _).symm
  | cons x xs ih =>
    show addO x (sumO (xs ++ ys)) = addO (addO x (sumO xs)) (sumO ys)
    rw [ih, addO_assoc]
def sizedD : Nat → PyData → Option Nat
  | 0, _ => none
  | n + 1, d => if formedD d = true then addO (some 1) (sumO ((kids d).map fun k => sizedD n k.2)) else none
def upTo (n : Nat) : Option Nat → Bool
  | some k => decide (k ≤ n)
  | none => false
def termD (d : PyData) : Bool := upTo 200 (sizedD 30 d)
theorem sized_pos : ∀ {n : Nat} {d : PyData} {k : Nat}, sizedD n d = some k → 1 ≤ k
  | n + 1, d, k, h => by
    rw [sizedD] at h
    split at h
    · cases e : sumO ((kids d).map fun k => sizedD n k.2) with
      | none =>
        rw [e] at h
        cases h
      | some j =>
        rw [e] at h
        cases h
        omega
    · cases h
/-! rows that answer to a list, one by one -/
inductive AP {α : Type} (R : V → α → Prop) : List V → List α → Prop
  | nil : AP R [] []
  | cons {u : V} {us : List V} {q : α} {qs : List α} : R u q → AP R us qs → AP R (u :: us) (q :: qs)
section
variable {α : Type} {R S : V → α → Prop}
theorem AP.mono (h : ∀ u q, R u q → S u q) : ∀ {us : List V} {qs : List α}, AP R us qs → AP S us qs
  | _, _, .nil => .nil
  | _, _, .cons a b => .cons (h _ _ a) (b.mono h)
theorem AP.append : ∀ {us vs : List V} {qs rs : List α}, AP R us qs → AP R vs rs → AP R (us ++ vs) (qs ++ rs)
  | _, _, _, _, .nil, h => h
  | _, _, _, _, .cons a b, h => .cons a (b.append h)
theorem AP.length : ∀ {us : List V} {qs : List α}, AP R us qs → us.length = qs.length
  | _, _, .nil => rfl
  | _, _, .cons a b => by rw [List.length_cons, List.length_cons, b.length]
theorem AP.get : ∀ {us : List V} {qs : List α}, AP R us qs → ∀ {i : Nat} {u : V}, us[i]? = some u → ∃ q, qs[i]? = some q ∧ R u q
  | _, _, .nil, i, u, e => by cases e
  | _, _, .cons a b, 0, u, e => by
    cases e
    exact ⟨_, rfl, a⟩
  | _, _, .cons a b, i + 1, u, e => b.get (i := i) e
theorem AP.nil_of {us : List V} (h : AP R us []) : us = [] := by
  cases h
  rfl
theorem AP.snoc {qs : List α} {q : α} : ∀ {us : List V}, AP R us (qs ++ [q]) → ∃ vs u, us = vs ++ [u] ∧ AP R vs qs ∧ R u q := by
  induction qs with
  | nil =>
    intro us h
    cases h with
    | cons a b =>
      cases b
      exact ⟨[], _, rfl, .nil, a⟩
  | cons e qs ih =>
    intro us h
    cases h with
    | cons a b =>
      obtain ⟨vs, u, rfl, h1, h2⟩ := ih b
      exact ⟨_ :: vs, u, rfl, .cons a h1, h2⟩
end
/-- a row of the names that are given and of what stands within: this is read in the heap H0 -/
def KRow (K : PySem.W.Frag) (N : Addr → Prop) (H0 H : Hp) (u : V) (k : List Str × PyData) : Prop := ∃ (t n : Addr) (v : V), u = .ref t ∧ SqT K H t [.ref n, v] ∧ SqT K H n (k.1.map V.str) ∧ Da K N H0 v k.2
theorem KRow.ts {K : PySem.W.Frag} {N : Addr → Prop} {H0 H H' : Hp} (s : Ts K H H') (u : V) (k : List Str × PyData) (h : KRow K N H0 H u k) : KRow K N H0 H' u k := by
  obtain ⟨t, n, v, rfl, h1, h2, h3⟩ := h
  exact ⟨t, n, v, rfl, s _ _ h1, s _ _ h2, h3⟩
def spKidsS (K : PySem.W.Frag) : Sp := fun vs H Q _ => ∃ (N : Addr → Prop) (H0 : Hp) (v : V) (d : PyData), vs = [v] ∧ Same H0 H ∧ Da K N H0 v d ∧ Sh d ∧
  ∀ (L : Addr) (us : List V) (H' : Hp), Same H H' → H L = none → H' L = some (.lst us) → AP (KRow K N H0 H') us (kids d) → Q (.ref L) H'
def spUnlike (K : PySem.W.Frag) : Sp := fun vs H Q _ => ∃ (t : Addr) (xs : List Str), vs = [.ref t] ∧ (SqT K H t (xs.map V.str) ∨ SqL K H t (xs.map V.str)) ∧ xs.length ≤ 1000 ∧ Q (.bl (unlikeN xs)) H
def spOf (K : PySem.W.Frag) (f : PyData → Bool) : Sp := fun vs H Q _ => ∃ (N : Addr → Prop) (v : V) (d : PyData) (n m : Nat), vs = [v] ∧ Da K N H v d ∧ Fit n m d ∧ n ≤ 16000000 ∧ ∀ H', Same H H' → Q (.bl (f d)) H'
def spSlot (K : PySem.W.Frag) : Sp := fun vs H Q _ => ∃ (N : Addr → Prop) (s : Str) (v : V) (d : PyData) (n m : Nat), vs = [.str s, v] ∧ Da K N H v d ∧ Fit n m d ∧ n ≤ 16000000 ∧ ∀ H', Same H H' → Q (.bl (slotOk s d)) H'
/-- the table of forms, as the module keeps it -/
structure Forms (K : PySem.W.Frag) (w : World) (d : Addr) : Prop where
  dict : ∃ es n, KDict K w d es n
  no : ∀ z, formOf z = none → PySem.W.nsIn K d z = some none
  yes : ∀ z sl, formOf z = some sl → ∃ a, PySem.W.nsIn K d z = some (some (.ref a)) ∧ ∀ H, SqT K H a (sl.map V.str)
theorem acc_ap {K : PySem.W.Frag} {N : Addr → Prop} {H0 H : Hp} {D : Addr} {us : List V} {ks : List (List Str × PyData)} {y : V} {k : List Str × PyData} (e : H D = some (.lst us)) (h : AP (KRow K N H0 H) us ks) (g : KRow K N H0 H y k) :
    AP (KRow K N H0 (upd H D (.lst (us ++ [y])))) (us ++ [y]) (ks ++ [k]) := (h.append (.cons g .nil)).mono (KRow.ts (Ts.put e))
theorem AP.same {K : PySem.W.Frag} {N : Addr → Prop} {H0 H H' : Hp} {us : List V} {ks : List (List Str × PyData)} (h : AP (KRow K N H0 H) us ks) (s : Same H H') : AP (KRow K N H0 H') us ks := h.mono (KRow.ts (Ts.of s))
theorem KRow.same {K : PySem.W.Frag} {N : Addr → Prop} {H0 H H' : Hp} {u : V} {k : List Str × PyData} (h : KRow K N H0 H u k) (s : Same H H') : KRow K N H0 H' u k := h.ts (Ts.of s)
theorem krow {K : PySem.W.Frag} {N : Addr → Prop} {H0 H : Hp} {t n : Addr} {v : V} {d : PyData} {xs : List Str} (h : SqT K H t [.ref n, v]) (h1 : SqT K H n (xs.map V.str)) (h2 : Da K N H0 v d) : KRow K N H0 H (.ref t) (xs, d) := ⟨t, n, v, rfl, h, h1, h2⟩
theorem case_no {d : PyData} (h : isRowD d 3 3 = false) : caseOk d = false := by
  unfold caseOk
  split
  · simp [isRowD] at h
  · rfl
theorem case_yes (a b c : PyData) : caseOk (.tuple [a, b, c]) = (isNameD a && (isRowD b 0 4 && ((itD b).all isNameD && unlikeN ((itD b).map nmD)))) := by
  cases b with
  | tuple ns =>
    show (isNameD a && decide (ns.length ≤ 4) && ns.all isNameD && unlikeN (ns.map nmD)) = (isNameD a && (isRowD (.tuple ns) 0 4 && (ns.all isNameD && unlikeN (ns.map nmD))))
    have e : isRowD (.tuple ns) 0 4 = decide (ns.length ≤ 4) := by
      simp only [isRowD]
      by_cases h : ns.length ≤ 4
      · simp [h]; omega
      · simp [h]; omega
    rw [e]
    cases isNameD a <;> cases decide (ns.length ≤ 4) <;> cases ns.all isNameD <;> cases unlikeN (ns.map nmD) <;> rfl
  | _ => simp [caseOk, isRowD]
/-- a comprehension over a zip of two tuples of one length -/
theorem lc_zip2 {K : PySem.W.Frag} {a b : Addr} {xs ys : List V} {g : TG} {tt : TT} {te : TE} {vs : List Nat} {σ : L2.St} {H1 : Hp} {D : Addr} {Qd : Hp → Prop} (hl : xs.length = ys.length) (Pv : Nat → Hp → Prop) (h0 : Pv 0 (upd H1 D (.lst [])))
    (hq : ∀ i H, Pv i H → SqT K H a xs ∧ SqT K H b ys)
    (hs : ∀ i x y T H, xs[i]? = some x → ys[i]? = some y → Pv i H → H T = none → g (.ref T) (wipe σ vs) (upd H T (.tup [x, y])) fun σ2 H2 => wipe σ2 vs = wipe σ vs ∧ tt σ2 H2 fun b H3 =>
      if b = true then te σ2 H3 fun y H4 => ∃ acc, H4 D = some (.lst acc) ∧ acc.length < sizeLine ∧ Pv (i + 1) (upd H4 D (.lst (acc ++ [y]))) else Pv (i + 1) H3) (hd : ∀ H, Pv xs.length H → Qd H) : LcG (RZ.ItzT K a b) g tt te vs σ H1 D Qd := by
  refine ⟨fun i m H => m = xs.length - i ∧ i ≤ xs.length ∧ Pv i H, ⟨_, rfl, Nat.zero_le _, h0⟩, ?_⟩
  rintro i m H ⟨rfl, hi, p⟩
  obtain ⟨qx, qy⟩ := hq i H p
  by_cases lt : i < xs.length
  · refine .inr ⟨⟨xs, ys, xs[i], ys[i]'(hl ▸ lt), qx, qy, List.getElem?_eq_getElem lt, List.getElem?_eq_getElem (hl ▸ lt)⟩, Pv (i + 1), fun H' p' => ⟨xs.length - (i + 1), by omega, rfl, lt, p'⟩, fun v H' y => ?_⟩
    obtain ⟨T, x, z, rfl, hT, rfl, f1, f2⟩ := y
    exact hs i x z T H (f1 xs qx) (f2 ys qy) p hT
  · obtain rfl : i = xs.length := by omega
    exact .inl ⟨⟨xs, ys, qx, qy, .inl (Nat.le_refl _)⟩, hd H p⟩
theorem formed_no {d : PyData} (h1 : tyD d ≠ "str") (h2 : tyD d ≠ "tuple") : formedD d = false := by
  cases d with
  | str x => exact absurd rfl h1
  | tuple ds => exact absurd rfl h2
  | _ => rfl
theorem formed_nos {d : PyData} {r : List PyData} (h1 : tyD d ≠ "str") : formedD (.tuple (d :: r)) = false := by
  cases d with
  | str x => exact absurd rfl h1
  | _ => rfl
theorem formed_none {z : Str} {r : List PyData} (h : formOf z = none) : formedD (.tuple (.str z :: r)) = false := by rw [form_eq, h]
theorem formed_some {z : Str} {r : List PyData} {sl : List Str} (h : formOf z = some sl) : formedD (.tuple (.str z :: r)) = (decide (r.length = sl.length) && (sl.zip r).all (fun p => slotOk p.1 p.2) && (!decide (z ∈ m2) || !sameN r[1]? r[2]?)) := by rw [form_eq, h]
theorem form_len {z : Str} {sl : List Str} (h : formOf z = some sl) : sl.length ≤ 4 := by
  have hf := form_cases h
  simp only [formsL, List.mem_cons, List.not_mem_nil, or_false, Prod.mk.injEq] at hf
  rcases hf with ⟨rfl, rfl⟩ | ⟨rfl, rfl⟩ | ⟨rfl, rfl⟩ | ⟨rfl, rfl⟩ | ⟨rfl, rfl⟩ | ⟨rfl, rfl⟩ | ⟨rfl, rfl⟩ | ⟨rfl, rfl⟩ | ⟨rfl, rfl⟩ <;> decide
theorem form_m2 {z : Str} {sl : List Str} (h : formOf z = some sl) (hz : z ∈ m2) : sl = [sg "term", sg "name", sg "name", sg "term"] := by
  simp only [List.mem_cons, List.not_mem_nil, or_false] at hz
  rcases hz with rfl | rfl
  · have e : formOf (Str.ofString "/") = some [sg "term", sg "name", sg "name", sg "term"] := by decide +kernel
    rw [e] at h
    exact (Option.some.inj h).symm
  · have e : formOf (Str.ofString "+") = some [sg "term", sg "name", sg "name", sg "term"] := by decide +kernel
    rw [e] at h
    exact (Option.some.inj h).symm
theorem dec_intN {a b : Nat} : decide (V.int (a : Int) = V.int (b : Int)) = decide (a = b) := decide_eq_decide.mpr ⟨fun z => by
  injection z with z
  exact Int.ofNat.inj z, fun z => by rw [z]⟩
theorem at_zero {x : V} {xs : List V} : atI (x :: xs) 0 = some x := by
  have e : ixN (x :: xs).length 0 = some 0 := by
    unfold ixN
    rw [if_pos (by omega), if_pos (by rw [List.length_cons]; omega)]
    rfl
  show (ixN (x :: xs).length 0).bind _ = _
  rw [e]
  rfl
theorem cut_one (x : V) (xs : List V) : cutV (x :: xs) (some 1) none = xs := cut_drop (x :: xs) 1
theorem iteNF {c A B : Prop} [Decidable c] (hc : ¬ c) (h : A) : if (!decide c) = true then A else B := by
  rw [decide_eq_false hc]
  exact iteT h
theorem same_str {x y : Str} {r : List PyData} {d e : PyData} : sameN (d :: .str x :: .str y :: r)[1]? (d :: .str x :: .str y :: r)[2]? = decide (x = y) := by
  show decide (some x = some y) = _
  exact decide_eq_decide.mpr ⟨fun z => Option.some.inj z, fun z => by rw [z]⟩
theorem all_zip {sl : List Str} {r : List PyData} : ((sl.zip r).map fun p => slotOk p.1 p.2).all id = (sl.zip r).all fun p => slotOk p.1 p.2 := by
  rw [List.all_map]
  rfl
def okSum (many : Nat) (qs : List (PyData × Nat)) : Bool := upTo 200 (addO (some many) (sumO (qs.map fun q => sizedD (31 - q.2) q.1)))
theorem okSum_nil {many : Nat} (h : many ≤ 200) : okSum many [] = true := by
  show decide (many + 0 ≤ 200) = true
  exact decide_eq_true h
theorem okSum_one (d : PyData) : okSum 0 [(d, 1)] = termD d := by
  show upTo 200 (addO (some 0) (addO (sizedD 30 d) (some 0))) = upTo 200 (sizedD 30 d)
  rw [addO_zero]
  cases sizedD 30 d <;> rfl
theorem okSum_snoc (many : Nat) (qs : List (PyData × Nat)) (q : PyData × Nat) : okSum many (qs ++ [q]) = upTo 200 (addO (some many) (addO (sumO (qs.map fun q => sizedD (31 - q.2) q.1)) (sizedD (31 - q.2) q.1))) := by
  unfold okSum
  rw [List.map_append, sumO_app]
  show upTo 200 (addO _ (addO _ (addO (sizedD (31 - q.2) q.1) (some 0)))) = _
  have e : addO (sizedD (31 - q.2) q.1) (some 0) = sizedD (31 - q.2) q.1 := by cases sizedD (31 - q.2) q.1 <;> rfl
  rw [e]
theorem okSum_none {many : Nat} {qs : List (PyData × Nat)} {q : PyData × Nat} (h : sizedD (31 - q.2) q.1 = none) : okSum many (qs ++ [q]) = false := by
  rw [okSum_snoc, h, addO_none, addO_none]
  rfl
theorem okSum_full {many : Nat} {qs : List (PyData × Nat)} {q : PyData × Nat} (hm : 200 ≤ many) : okSum many (qs ++ [q]) = false := by
  cases h : sizedD (31 - q.2) q.1 with
  | none => exact okSum_none h
  | some k =>
    have := sized_pos h
    rw [okSum_snoc, h]
    cases sumO (qs.map fun q => sizedD (31 - q.2) q.1) with
    | none => rfl
    | some s =>
      show decide (many + (s + k) ≤ 200) = false
      exact decide_eq_false (by omega)
theorem okSum_step {many : Nat} {qs : List (PyData × Nat)} {q : PyData × Nat} (hf : formedD q.1 = true) (h30 : q.2 ≤ 30) : okSum (many + 1) (qs ++ (kids q.1).map fun k => (k.2, q.2 + 1)) = okSum many (qs ++ [q]) := by
  rw [okSum_snoc]
  have e : 31 - q.2 = (30 - q.2) + 1 := by omega
  rw [e, sizedD, if_pos hf]
  unfold okSum
  rw [List.map_append, sumO_app, List.map_map]
  have e2 : ((fun q : PyData × Nat => sizedD (31 - q.2) q.1) ∘ fun k : List Str × PyData => (k.2, q.2 + 1)) = fun k => sizedD (30 - q.2) k.2 := by
    funext k
    show sizedD (31 - (q.2 + 1)) k.2 = _
    rw [show 31 - (q.2 + 1) = 30 - q.2 by omega]
  rw [e2]
  cases sumO (qs.map fun q => sizedD (31 - q.2) q.1) with
  | none => rfl
  | some a =>
    cases sumO ((kids q.1).map fun k => sizedD (30 - q.2) k.2) with
    | none => rfl
    | some b =>
      show decide (many + 1 + (a + b) ≤ 200) = decide (many + (a + (1 + b)) ≤ 200)
      exact decide_eq_decide.mpr (by omega)
def RT (K : PySem.W.Frag) (N : Addr → Prop) (H0 H : Hp) (u : V) (q : PyData × Nat) : Prop := ∃ (t : Addr) (v : V), u = .ref t ∧ SqT K H t [v, .int (q.2 : Int)] ∧ Da K N H0 v q.1
theorem RT.ts {K : PySem.W.Frag} {N : Addr → Prop} {H0 H H' : Hp} (s : Ts K H H') (u : V) (q : PyData × Nat) (h : RT K N H0 H u q) : RT K N H0 H' u q := by
  obtain ⟨t, v, rfl, h1, h2⟩ := h
  exact ⟨t, v, rfl, s _ _ h1, h2⟩
def lunl (o : Int) : PyData → Bool
  | .tuple ds => decide ((ds.length : Int) ≤ o) && (ds.all isNameD && unlikeN (ds.map nmD))
  | _ => false
theorem lunl_no {o : Int} {d : PyData} (h : tyD d ≠ "tuple") : lunl o d = false := by
  cases d with
  | tuple ds => exact absurd rfl h
  | _ => rfl
def spLUnlike (K : PySem.W.Frag) : Sp := fun vs H Q _ => ∃ (N : Addr → Prop) (v : V) (d : PyData) (n m : Nat) (o : Int), vs = [v, .int o] ∧ Da K N H v d ∧ Fit n m d ∧ n ≤ 16000000 ∧ o ≤ 100 ∧ ∀ H', Same H H' → Q (.bl (lunl o d)) H'
def oV : Option Nat → V
  | none => .non
  | some k => .int k
def spSizes : Sp := fun vs H Q _ => ∃ (a : Addr) (os : List (Option Nat)), vs = [.ref a] ∧ H a = some (.lst (os.map oV)) ∧ os.length ≤ 1000 ∧ Q (oV (sumO os)) H
def spSized (K : PySem.W.Frag) (k : Nat) : Sp := fun vs H Q _ => ∃ (N : Addr → Prop) (v : V) (d : PyData) (n m : Nat) (z : Int), vs = [v, .int z] ∧ z = (k : Int) ∧ Da K N H v d ∧ Fit n m d ∧ n ≤ 8000000 ∧ ∀ H', Same H H' → Q (oV (sizedD k d)) H'
theorem sizes_in (os : List (Option Nat)) : (inV .non (os.map oV) = true ∧ sumO os = none) ∨ (inV .non (os.map oV) = false ∧ ∃ ns : List Nat, os.map oV = (ns.map Int.ofNat).map V.int ∧ sumO os = some ns.sum) := by
  induction os with
  | nil => exact .inr ⟨rfl, [], rfl, rfl⟩
  | cons o os ih =>
    cases o with
    | none => exact .inl ⟨rfl, rfl⟩
    | some k =>
      rcases ih with ⟨h1, h2⟩ | ⟨h1, ns, h2, h3⟩
      · refine .inl ⟨?_, ?_⟩
        · show (false || inV .non (os.map oV)) = true
          rw [h1]
          rfl
        · show addO (some k) (sumO os) = none
          rw [h2]
          rfl
      · refine .inr ⟨?_, k :: ns, ?_, ?_⟩
        · show (false || inV .non (os.map oV)) = false
          rw [h1]
          rfl
        · rw [List.map_cons, h2]
          rfl
        · show addO (some k) (sumO os) = _
          rw [h3, List.sum_cons]
          rfl
theorem flat_oV (os : List (Option Nat)) : (os.map oV).all flatV = true := by
  rw [List.all_map, List.all_eq_true]
  intro o _
  cases o <;> rfl
theorem sum_cast (ns : List Nat) : (ns.map Int.ofNat).sum = (ns.sum : Int) := by
  induction ns with
  | nil => rfl
  | cons n ns ih =>
    rw [List.map_cons, List.sum_cons, List.sum_cons, ih]
    exact (Int.natCast_add n ns.sum).symm
def rLenS (K : PySem.W.Frag) : List V → Hp → VK → Prop := fun xs H Q => ∃ p ys, xs = [V.ref p] ∧ (SqL K H p ys ∨ SqT K H p ys) ∧ Q (.int ys.length) H
theorem lenK {X : Cx} {K : PySem.W.Frag} (h : X.K = K) : CallR X (.builtin "len") (rLenS K) := h ▸ call_len_seq
end Ow

/-! Forms, sign by sign. -/
namespace Ow
open PySem PySem.Spec PyProof.Rows L2
theorem fd_len {s : Str} {r : List PyData} {sl : List Str} (h : formOf s = some sl) (hl : r.length ≠ sl.length) : formedD (.tuple (.str s :: r)) = false := by
  rw [formed_some h, decide_eq_false hl]
  rfl
theorem f_at : formOf (Str.ofString "@") = some [sg "name"] := by decide +kernel
theorem f_lam : formOf (Str.ofString "^") = some [sg "name", sg "kind", sg "term"] := by decide +kernel
theorem f_mk : formOf (Str.ofString "#") = some [sg "name", sg "terms"] := by decide +kernel
theorem f_ch : formOf (Str.ofString "?") = some [sg "term", sg "cases"] := by decide +kernel
theorem f_two {s : Str} (h : s ∈ m3) : formOf s = some [sg "term", sg "term"] := by
  simp only [List.mem_cons, List.not_mem_nil, or_false] at h
  rcases h with rfl | rfl | rfl <;> decide +kernel
theorem f_five {s : Str} (h : s ∈ m2) : formOf s = some [sg "term", sg "name", sg "name", sg "term"] := by
  simp only [List.mem_cons, List.not_mem_nil, or_false] at h
  rcases h with rfl | rfl <;> decide +kernel
theorem fd_at (a : PyData) : formedD (.tuple [.str (Str.ofString "@"), a]) = isNameD a := by
  rw [formed_some f_at, decide_eq_true (by rfl), decide_eq_false (by decide +kernel)]
  simp only [List.zip_cons_cons, List.zip_nil_left, List.all_cons, List.all_nil, slot_name, Bool.and_true, Bool.true_and, Bool.not_false, Bool.true_or]
theorem fd_lam (x k t : PyData) : formedD (.tuple [.str (Str.ofString "^"), x, k, t]) = (isNameD x && kindW 6 k) := by
  rw [formed_some f_lam, decide_eq_true (by rfl), decide_eq_false (by decide +kernel)]
  simp only [List.zip_cons_cons, List.zip_nil_left, List.all_cons, List.all_nil, slot_name, slot_kind, slot_term, Bool.and_true, Bool.true_and, Bool.not_false, Bool.true_or]
theorem fd_two {s : Str} (h : s ∈ m3) (t u : PyData) : formedD (.tuple [.str s, t, u]) = true := by
  have g : s ∉ m2 := by
    simp only [List.mem_cons, List.not_mem_nil, or_false] at h
    rcases h with rfl | rfl | rfl <;> decide +kernel
  rw [formed_some (f_two h), decide_eq_true (by rfl), decide_eq_false g]
  simp only [List.zip_cons_cons, List.zip_nil_left, List.all_cons, List.all_nil, slot_term, Bool.and_true, Bool.true_and, Bool.not_false, Bool.true_or]
theorem fd_mk (c ts : PyData) : formedD (.tuple [.str (Str.ofString "#"), c, ts]) = (isNameD c && isRowD ts 0 4) := by
  rw [formed_some f_mk, decide_eq_true (by rfl), decide_eq_false (by decide +kernel)]
  simp only [List.zip_cons_cons, List.zip_nil_left, List.all_cons, List.all_nil, slot_name, slot_terms, Bool.and_true, Bool.true_and, Bool.not_false, Bool.true_or]
theorem fd_ch (t cs : PyData) : formedD (.tuple [.str (Str.ofString "?"), t, cs]) = (isRowD cs 1 6 && (itD cs).all caseOk) := by
  rw [formed_some f_ch, decide_eq_true (by rfl), decide_eq_false (by decide +kernel)]
  simp only [List.zip_cons_cons, List.zip_nil_left, List.all_cons, List.all_nil, slot_cases, slot_term, Bool.and_true, Bool.true_and, Bool.not_false, Bool.true_or]
theorem unlike2 (a b : Str) : unlikeN [a, b] = !decide (a = b) := by
  unfold unlikeN
  show decide ((if b ∈ [a] then [a] else [a] ++ [b]).length = 2) = _
  by_cases h : a = b
  · subst h
    rw [if_pos (by simp), decide_eq_true (rfl : a = a)]
    rfl
  · rw [if_neg (by simp; exact fun e => h e.symm), decide_eq_false h]
    rfl
theorem fd_five {s : Str} (h : s ∈ m2) (t x y u : PyData) : formedD (.tuple [.str s, t, x, y, u]) = lunl 2 (.tuple [x, y]) := by
  rw [formed_some (f_five h), decide_eq_true (by rfl), decide_eq_true h]
  simp only [List.zip_cons_cons, List.zip_nil_left, List.all_cons, List.all_nil, slot_name, slot_term, Bool.and_true, Bool.true_and, Bool.not_true, Bool.false_or]
  show _ = (decide ((([x, y] : List PyData).length : Int) ≤ 2) && ((isNameD x && (isNameD y && true)) && unlikeN [nmD x, nmD y]))
  rw [decide_eq_true (show (([x, y] : List PyData).length : Int) ≤ 2 from Int.le_refl _), Bool.true_and, unlike2, Bool.and_true]
  show (isNameD x && isNameD y && !decide (some (nmD x) = some (nmD y))) = _
  congr 2
  exact decide_eq_decide.mpr ⟨fun z => Option.some.inj z, fun z => by rw [z]⟩
abbrev S6 : List Str := [Str.ofString "?", Str.ofString "#", Str.ofString "/", Str.ofString "+", Str.ofString "!", Str.ofString "&", Str.ofString "-", Str.ofString "^", Str.ofString "@"]
theorem form_not {s : Str} (h : s ∉ S6) : formOf s = none := by
  cases e : formOf s with
  | none => rfl
  | some sl =>
    have hf := form_cases e
    simp only [formsL, List.mem_cons, List.not_mem_nil, or_false, Prod.mk.injEq] at hf
    refine absurd ?_ h
    simp only [S6, List.mem_cons, List.not_mem_nil, or_false]
    rcases hf with ⟨rfl, _⟩ | ⟨rfl, _⟩ | ⟨rfl, _⟩ | ⟨rfl, _⟩ | ⟨rfl, _⟩ | ⟨rfl, _⟩ | ⟨rfl, _⟩ | ⟨rfl, _⟩ | ⟨rfl, _⟩ <;> simp
theorem sized_no {n : Nat} {d : PyData} (h : formedD d = false) : sizedD n d = none := by
  cases n with
  | zero => rfl
  | succ n =>
    rw [sizedD, if_neg (by rw [h]; exact Bool.false_ne_true)]
theorem sized_name {n : Nat} {d : PyData} (h : isNameD d = true) : sizedD (n + 1) d = some 1 := by
  obtain ⟨x, rfl⟩ := name_str h
  rw [sizedD, if_pos (show formedD (.str x) = true from h)]
  rfl
/-- what stands within, as the law's list of it, or None -/
def Res (K : PySem.W.Frag) (N : Addr → Prop) (d : PyData) (H' : Hp) (vi : V) : Prop := (formedD d = false ∧ vi = .non) ∨ (formedD d = true ∧ ∃ (L : Addr) (us : List V), vi = .ref L ∧ H' L = some (.lst us) ∧ DaAll K N H' us ((kids d).map (·.2)))
def MidS (K : PySem.W.Frag) (N : Addr → Prop) (H : Hp) (S : List Str) (v : V) (z : Int) (s : Str) (o : Nat) (d : PyData) (σ : L2.St) (H' : Hp) : Prop :=
  ∃ (vi : V) (v5 v6 : Option V), σ = [some v, some (.int z), some (.str s), some (.int o), some vi, v5, v6, none] ∧ Same H H' ∧ (s ∈ S → Res K N d H' vi) ∧ (s ∉ S → vi = .non)
theorem Res.same {K : PySem.W.Frag} {N : Addr → Prop} {d : PyData} {H H' : Hp} {vi : V} (s : Same H H') (h : Res K N d H vi) : Res K N d H' vi := by
  rcases h with h | ⟨h, L, us, rfl, e1, e2⟩
  · exact .inl h
  · exact .inr ⟨h, L, us, rfl, s _ _ e1, e2.same s⟩
theorem MidS.skip {K : PySem.W.Frag} {N : Addr → Prop} {H : Hp} {S S' : List Str} {v : V} {z : Int} {s : Str} {o : Nat} {d : PyData} {H' H'' : Hp} {vi : V} {v5 v6 : Option V} (sH : Same H H') (hin : s ∈ S → Res K N d H' vi) (hout : s ∉ S → vi = .non) (sm : Same H' H'') (g : s ∈ S' → s ∈ S) (g' : s ∈ S → s ∈ S') :
    MidS K N H S' v z s o d [some v, some (.int z), some (.str s), some (.int o), some vi, v5, v6, none] H'' :=
  ⟨vi, v5, v6, rfl, sH.trans sm, fun h => (hin (g h)).same sm, fun h => hout fun z => h (g' z)⟩
theorem MidS.no {K : PySem.W.Frag} {N : Addr → Prop} {H : Hp} {S' : List Str} {v : V} {z : Int} {s : Str} {o : Nat} {d : PyData} {H'' : Hp} {vi : V} {v5 v6 : Option V} (sH : Same H H'') (hv : vi = .non) (hf : formedD d = false) :
    MidS K N H S' v z s o d [some v, some (.int z), some (.str s), some (.int o), some vi, v5, v6, none] H'' :=
  ⟨vi, v5, v6, rfl, sH, fun _ => .inl ⟨hf, hv⟩, fun _ => hv⟩
theorem MidS.yes {K : PySem.W.Frag} {N : Addr → Prop} {H : Hp} {S' : List Str} {v : V} {z : Int} {s : Str} {o : Nat} {d : PyData} {H'' : Hp} {L : Addr} {us : List V} {v5 v6 : Option V} (sH : Same H H'') (hs : s ∈ S') (hf : formedD d = true) (e : H'' L = some (.lst us)) (g : DaAll K N H'' us ((kids d).map (·.2))) :
    MidS K N H S' v z s o d [some v, some (.int z), some (.str s), some (.int o), some (.ref L), v5, v6, none] H'' :=
  ⟨.ref L, v5, v6, rfl, sH, fun _ => .inr ⟨hf, L, us, rfl, e, g⟩, fun h => absurd hs h⟩
theorem iteD {c A B : Prop} [Decidable c] (hc : c) (h : A) : if decide c = true then A else B := by
  rw [decide_eq_true hc]
  exact iteT h
theorem iteDN {c A B : Prop} [Decidable c] (hc : ¬ c) (h : B) : if decide c = true then A else B := by
  rw [decide_eq_false hc]
  exact iteF h
theorem len_ne {x : V} {ys : List V} {r : List PyData} {k j : Nat} (hl : ys.length = r.length) (hr : r.length ≠ k) (e : j = k + 1) : ¬ V.int (((x :: ys).length : Nat) : Int) = V.int (j : Int) := fun z => by
  injection z with z
  rw [List.length_cons] at z
  omega
theorem row_no {d : PyData} {a b : Int} (h : tyD d ≠ "tuple") : isRowD d a b = false := by
  cases d with
  | tuple ds => exact absurd rfl h
  | _ => rfl
theorem row_is (ts : List PyData) (a b : Int) : isRowD (.tuple ts) a b = decide (a ≤ (ts.length : Int) ∧ (ts.length : Int) ≤ b) := by
  simp [isRowD]
theorem row_big {ts : List PyData} {a b : Int} (h : ¬ ((ts.length : Int) ≤ b)) : isRowD (.tuple ts) a b = false := by
  rw [row_is]
  exact decide_eq_false fun z => h z.2
theorem row_ok {ts : List PyData} {a b : Int} (h : a ≤ (ts.length : Int)) (h2 : (ts.length : Int) ≤ b) : isRowD (.tuple ts) a b = true := by
  rw [row_is]
  exact decide_eq_true ⟨h, h2⟩
theorem case_lunl (a b c : PyData) : caseOk (.tuple [a, b, c]) = (isNameD a && lunl 4 b) := by
  rw [case_yes]
  cases b with
  | tuple ns =>
    rw [row_is]
    show _ = (isNameD a && (decide ((ns.length : Int) ≤ 4) && (ns.all isNameD && unlikeN (ns.map nmD))))
    rw [show decide ((0 : Int) ≤ (ns.length : Int) ∧ (ns.length : Int) ≤ 4) = decide ((ns.length : Int) ≤ 4) from decide_eq_decide.mpr ⟨fun z => z.2, fun z => ⟨by omega, z⟩⟩]
    rfl
  | _ => rfl
theorem rows_no {ts : List PyData} (h : ts.all (fun d => isRowD d 3 3) = false) : ts.all caseOk = false := by
  cases e : ts.all caseOk with
  | false => rfl
  | true =>
    rw [List.all_eq_true] at e
    have : ts.all (fun d => isRowD d 3 3) = true := by
      rw [List.all_eq_true]
      intro d hd
      cases hr : isRowD d 3 3 with
      | true => rfl
      | false =>
        have := e d hd
        rw [case_no hr] at this
        exact this
    rw [this] at h
    exact h
theorem row_len (ys : List PyData) : decide (V.int ((ys.length : Nat) : Int) = V.int 3) = isRowD (.tuple ys) 3 3 := by
  rw [row_is]
  exact decide_eq_decide.mpr ⟨fun z => by
    injection z with z
    omega, fun z => by
    have : (ys.length : Int) = 3 := by omega
    rw [this]⟩
theorem kids_all {t : PyData} {ts : List PyData} (h : ts.all caseOk = true) : (kids (.tuple [.str (Str.ofString "?"), t, .tuple ts])).map (·.2) = t :: ts.map fun c => (caseD c).2 := by
  obtain ⟨cs, rfl, _⟩ := cases_of h
  rw [kids_ch, List.map_cons, List.map_map, List.map_map]
  rfl
/-- drawn data: at most so large for each of so many -/
def spWide (K : PySem.W.Frag) (n : Nat) : Sp := fun vs H Q _ => ∃ (p c : Addr) (z : Nat), vs = [.ref p, .int z] ∧ 1 ≤ z ∧ z < 2 ^ n ∧ z ≤ 201 ∧ Pen H p c ∧
  ∀ (v : V) (d : PyData) (H' : Hp), Da K All H' v d → Fit (400 * z) (4 * n) d → Pen H' p c → Kp p H H' → Q v H'
def spDeep (K : PySem.W.Frag) : Sp := fun vs H Q _ => ∃ (p c : Addr) (z : Int), vs = [.ref p, .int z] ∧ 1 ≤ z ∧ z ≤ 31 ∧ Pen H p c ∧
  ∀ (v : V) (d : PyData) (H' : Hp), Da K All H' v d → Fit 20000 95 d → Pen H' p c → Kp p H H' → Q v H'
def spOf8 (K : PySem.W.Frag) (f : PyData → Bool) : Sp := fun vs H Q _ => ∃ (N : Addr → Prop) (v : V) (d : PyData) (n m : Nat), vs = [v] ∧ Da K N H v d ∧ Fit n m d ∧ n ≤ 8000000 ∧ ∀ H', Same H H' → Q (.bl (f d)) H'
def EntAt (K : PySem.W.Frag) (e : DictEntry) (p : Str × List Str) : Prop := (∃ t, e.key = .str p.1 t) ∧ ∃ (a : Addr) (o : Obj) (its : Array Value) (n : Nat), e.val = .ref a ∧ K.lookup a = some o ∧ o.cls = .type "tuple" ∧ o.data = .seq its n ∧ its.size ≤ sizeLine ∧ Vals (p.2.map V.str) its.toList
def EntsAt (K : PySem.W.Frag) : List DictEntry → List (Str × List Str) → Prop
  | [], [] => True
  | e :: es, p :: ps => EntAt' K e p (EntsAt K es ps)
  | _, _ => False
where EntAt' (K : PySem.W.Frag) (e : DictEntry) (p : Str × List Str) (R : Prop) : Prop := (∃ t, e.key = .str p.1 t) ∧ (∃ (a : Addr) (o : Obj) (its : Array Value) (n : Nat), e.val = .ref a ∧ K.lookup a = some o ∧ o.cls = .type "tuple" ∧ o.data = .seq its n ∧ its.size ≤ sizeLine ∧ Vals (p.2.map V.str) its.toList) ∧ R
theorem ents_find {K : PySem.W.Frag} (z : Str) : ∀ {es : List DictEntry} {ps : List (Str × List Str)}, EntsAt K es ps → es.any (·.refKey) = false ∧
    ((ps.find? (fun p => decide (p.1 = z)) = none ∧ es.find? (·.key.isStr z) = none) ∨ ∃ p e, ps.find? (fun p => decide (p.1 = z)) = some p ∧ es.find? (·.key.isStr z) = some e ∧ EntAt K e p)
  | [], [], _ => ⟨rfl, .inl ⟨rfl, rfl⟩⟩
  | e :: es, p :: ps, ⟨⟨t, hk⟩, hv, hr⟩ => by
    obtain ⟨h1, h2⟩ := ents_find z hr
    have rk : e.refKey = false := by simp [DictEntry.refKey, hk]
    have ks : e.key.isStr z = decide (p.1 = z) := by
      rw [hk]
      show (p.1 == z) = decide (p.1 = z)
      by_cases c : p.1 = z
      · rw [decide_eq_true c, c]
        exact beq_self_eq_true z
      · rw [decide_eq_false c]
        exact beq_eq_false_iff_ne.mpr c
    refine ⟨by rw [List.any_cons, rk, h1]; rfl, ?_⟩
    by_cases c : p.1 = z
    · refine .inr ⟨p, e, ?_, ?_, ⟨t, hk⟩, hv⟩
      · rw [List.find?_cons, decide_eq_true c]
      · rw [List.find?_cons, ks, decide_eq_true c]
    · rw [List.find?_cons, decide_eq_false c, List.find?_cons, ks, decide_eq_false c]
      exact h2
theorem forms_mk {K : PySem.W.Frag} {w : World} {d : Addr} {es : Array DictEntry} {n : Nat} (at_ : K.lookup d = some ⟨.type "dict", none, .dict es n, #[]⟩) (lit : PySem.W.KeysLit w.params es.toList) (low : (d == sysModules) = false) (ents : EntsAt K es.toList formsL) : Forms K w d where
  dict := ⟨es, n, at_, lit, low⟩
  no z h := by
    obtain ⟨h1, h2 | ⟨p, e, h2, _⟩⟩ := ents_find z ents
    · unfold PySem.W.nsIn
      rw [at_]
      dsimp only
      rw [h2.2, h1]
      rfl
    · unfold formOf at h
      rw [h2] at h
      cases h
  yes z sl h := by
    obtain ⟨h1, h2 | ⟨p, e, h2, h3, _, a, o, its, m, hv, hl, hc, hd, hs, hV⟩⟩ := ents_find z ents
    · unfold formOf at h
      rw [h2.1] at h
      cases h
    · unfold formOf at h
      rw [h2] at h
      obtain rfl := Option.some.inj h
      refine ⟨a, ?_, fun H => .inr ⟨o, its, m, hl, hc, hd, hs, hV⟩⟩
      unfold PySem.W.nsIn
      rw [at_]
      dsimp only
      rw [h3]
      dsimp only
      rw [hv]
theorem ent_mk {K : PySem.W.Frag} {v : Value} {a : Addr} {its : Array Value} {n : Nat} {dd : Option Addr} {sl : Array (Option Value)} {xs : List Str} (hv : v = .ref a) (hl : K.lookup a = some ⟨.type "tuple", dd, .seq its n, sl⟩) (hs : its.size ≤ sizeLine) (hV : Vals (xs.map V.str) its.toList) :
    ∃ (a : Addr) (o : Obj) (its : Array Value) (n : Nat), v = .ref a ∧ K.lookup a = some o ∧ o.cls = .type "tuple" ∧ o.data = .seq its n ∧ its.size ≤ sizeLine ∧ Vals (xs.map V.str) its.toList := ⟨a, _, its, n, hv, hl, rfl, rfl, hs, hV⟩
end Ow

/-! What a program's rows are, over any data. -/
namespace Ow
open PySem PySem.Spec PyProof.Rows L2
def makerOk : PyData → Bool
  | .tuple [m, fs] => isNameD m && (isRowD fs 0 4 && (itD fs).all isNameD)
  | _ => false
def dataOk : PyData → Bool
  | .tuple [s, ms] => isNameD s && (isRowD ms 1 6 && (itD ms).all makerOk)
  | _ => false
def defOk : PyData → Bool
  | .tuple [n, k, t] => isNameD n && (kindW 6 k && termD t)
  | _ => false
def defName : PyData → Str
  | .tuple [n, _, _] => nmD n
  | _ => sg ""
def defsOk (d : PyData) : Bool := isRowD d 0 16 && ((itD d).all defOk && unlikeN ((itD d).map defName))
theorem row2 {d : PyData} (h : isRowD d 2 2 = true) : ∃ a b, d = .tuple [a, b] := by
  obtain ⟨ds, rfl, h1, h2⟩ := row_tup h
  obtain ⟨a, b, rfl⟩ := len2 (r := ds) (by omega)
  exact ⟨a, b, rfl⟩
theorem maker_no {d : PyData} (h : isRowD d 2 2 = false) : makerOk d = false := by
  unfold makerOk
  split
  · simp [isRowD] at h
  · rfl
theorem data_no {d : PyData} (h : isRowD d 2 2 = false) : dataOk d = false := by
  unfold dataOk
  split
  · simp [isRowD] at h
  · rfl
theorem def_no {d : PyData} (h : isRowD d 3 3 = false) : defOk d = false := by
  unfold defOk
  split
  · simp [isRowD] at h
  · rfl
theorem fit2 {n m : Nat} {a b : PyData} (f : Fit n m (.tuple [a, b])) : Fit n m a ∧ Fit n m b := ⟨f.inner.mem (by simp), f.inner.mem (by simp)⟩
theorem fit3' {n m : Nat} {a b c : PyData} (f : Fit n m (.tuple [a, b, c])) : Fit n m a ∧ Fit n m b ∧ Fit n m c := ⟨f.inner.mem (by simp), f.inner.mem (by simp), f.inner.mem (by simp)⟩
theorem all_id (g : PyData → Bool) (ns : List PyData) : (ns.map g).all id = ns.all g := by
  rw [List.all_map]
  rfl
end Ow

/-! Comprehensions of any number of clauses. -/
namespace Ow
open PySem PySem.Spec PyProof.Rows L2
/-- a clause, as its rules see it; its names, those of the later ones among them -/
structure Cls where
  tg : Expr
  iter : Expr
  ifs : List Expr
  wi : TI
  g : TG
  tt : TT
  vs : List Nat
def Cls.syn (c : Cls) : Comprehension := ⟨c.tg, c.iter, c.ifs, 0⟩
structure Cls.Ok (Y : Cx) (c : Cls) : Prop where
  pi : PI Y c.tg c.iter c.wi
  pg : PG Y c.tg c.g
  pt : PTs Y c.ifs c.tt
  fold : ∀ env x, foldedSetIterable c.iter env x = pure x
def topVs : List Cls → List Nat
  | [] => []
  | c :: _ => c.vs
def NestVs : List Cls → Prop
  | [] => True
  | c :: cs => (∀ i ∈ topVs cs, i ∈ c.vs) ∧ NestVs cs
/-- behind a turn's tests: the clauses that are left, then the element, put behind what the list at D has -/
def tDeep (D : Addr) (te : TE) : List Cls → L2.St → Hp → (Hp → Prop) → Prop
  | [], σ, H, Z => te σ H fun y H1 => ∃ acc, H1 D = some (.lst acc) ∧ acc.length < sizeLine ∧ Z (upd H1 D (.lst (acc ++ [y])))
  | c :: cs, σ, H, Z => c.wi σ H fun J H1 => ∃ W : Nat → Nat → Hp → Prop, (∃ m, W 0 m H1) ∧ ∀ j m H, W j m H →
      (J.stop j H ∧ Z H) ∨ (J.go j H ∧ ∃ Y : Hp → Prop, (∀ H', Y H' → ∃ m', m' < m ∧ W (j + 1) m' H') ∧ ∀ x H', J.yld j H x H' →
        c.g x (wipe σ c.vs) H' fun σ2 H2 => wipe σ2 c.vs = wipe σ c.vs ∧ c.tt σ2 H2 fun b H3 => if b = true then tDeep D te cs σ2 H3 Y else Y H3)
section
variable {prog : Program} {w : World} {A : Around} {R : Result → Shared → Prop} {s : Shared} {elt : Expr} {gens : List Comprehension} {scope : Scope} {pos : Pos} {it acc : Value} {env : Env}
/-- what is asked behind the tests of the clause ahead of d -/
def Bhd (prog : Program) (w : World) (A : Around) (elt : Expr) (gens : List Comprehension) (scope : Scope) (pos : Pos) (acc : Value) (env : Env) (d : Nat) (post : Shared → Prop) (s : Shared) : Prop :=
  match gens[d]? with
  | none => wpAny (model prog w) A (eval elt env) (fun x z => wpAny (model prog w) A (call (.builtin "list.append") [acc, x]) (fun _ z' => post z') (fun _ _ => False) z) (fun _ _ => False) s
  | some c => c.is_async = 0 ∧ (∀ x, foldedSetIterable c.iter env x = pure x) ∧ wpAny (model prog w) A (eval c.iter env) (fun x z => wpAny (model prog w) A (pyIter x) (fun i z' =>
      codeAny (model prog w) A (.compStart (.ListComp elt gens scope pos) d i acc env) (fun r y => match r with | .ok _ => post y | .error _ => False) z') (fun _ _ => False) z) (fun _ _ => False) s
/-- a turn's tests -/
def tests (ifs : List Expr) (env : Env) : Sem Bool := forIn ifs true fun c r => if r = true then do let ok ← isTrue c env (eval c env); pure (ForInStep.yield ok) else pure (ForInStep.yield r)
theorem loop_at {d : Nat} {t i : Expr} {ifs : List Expr} (hg : gens[d]? = some ⟨t, i, ifs, 0⟩) (I : Nat → Shared → Prop)
    (turn : ∀ n z, I n z → wpAny (model prog w) A (pyNext it) (fun r z1 => match r with
      | none => R (.ok .next) z1
      | some v => wpAny (model prog w) A (letOwnedTupleGo t it v) (fun _ z2 => wpAny (model prog w) A (assign t env v) (fun _ z3 => wpAny (model prog w) A (tests ifs env) (fun ok z4 =>
          if ok = true then Bhd prog w A elt gens scope pos acc env (d + 1) (fun z5 => ∃ m, m < n ∧ I m z5) z4 else ∃ m, m < n ∧ I m z4) (fun _ _ => False) z3) (fun _ _ => False) z2) (fun _ _ => False) z1) (fun _ _ => False) z)
    (n : Nat) (h : I n s) : codeAny (model prog w) A (.compLoop (.ListComp elt gens scope pos) d it acc env) R s := by
  refine codeAny_loop rfl I (fun n z hI => ?_) n h
  show wpAny _ A ((compTurn (.ListComp elt gens scope pos) d it acc env).onRaise (fun x => do noteFrame x env; theTreesLotGoes x)) _ _ z
  refine wpAny_noted ?_
  have no : ∀ {α : Type} {t : Sem α} {Q : α → Shared → Prop} {E : Value → Shared → Prop} {z : Shared}, wpAny (model prog w) A t Q (fun _ _ => False) z → wpAny (model prog w) A t Q E z := fun h => wpAny_mono h (fun _ _ q => q) fun _ _ q => q.elim
  unfold compTurn
  simp only [hg]
  refine wpAny_bind (wpAny_standAt (wpAny_bind (wpAny_mono (turn n z hI) (fun r z1 h1 => ?_) fun _ _ q => q.elim)))
  cases r with
  | none => exact wpAny_pure h1
  | some v =>
    refine wpAny_bind (wpAny_mono h1 (fun _ z2 h2 => ?_) fun _ _ q => q.elim)
    refine wpAny_bind (wpAny_mono h2 (fun _ z3 h3 => wpAny_bind (wpAny_mono h3 (fun ok z4 h4 => ?_) fun _ _ q => q.elim)) fun _ _ q => q.elim)
    cases ok with
    | false => exact wpAny_pure ⟨rfl, h4⟩
    | true =>
      have h4 : Bhd prog w A elt gens scope pos acc env (d + 1) (fun z5 => ∃ m, m < n ∧ I m z5) z4 := h4
      unfold Bhd at h4
      simp only [if_true]
      cases hn : gens[d + 1]? with
      | none =>
        rw [hn] at h4
        simp only
        exact wpAny_bind (wpAny_bind (wpAny_mono h4 (fun x z5 h5 => wpAny_bind (wpAny_mono h5 (fun _ z6 h6 => wpAny_pure (wpAny_pure ⟨rfl, h6⟩)) fun _ _ q => q.elim)) fun _ _ q => q.elim))
      | some c =>
        rw [hn] at h4
        obtain ⟨ha, hf, h4⟩ := h4
        simp only [ha]
        refine wpAny_bind (wpAny_mono h4 (fun x z5 h5 => ?_) fun _ _ q => q.elim)
        refine wpAny_bind (wpAny_standAt (wpAny_bind (wpAny_of_eq (hf x) (wpAny_bind (wpAny_holding (wpAny_mono h5 (fun i1 z6 h6 => ?_) fun _ _ q => q.elim))))))
        refine wpAny_bind (wpAny_runOwn ?_)
        rw [Around.mark_none]
        refine codeAny_mono h6 fun r y hr => ?_
        cases r with
        | ok f => exact wpAny_pure ⟨rfl, hr⟩
        | error e => exact hr.elim
/-- a clause's start -/
theorem start_at {d : Nat} {c : Comprehension} (hg : gens[d]? = some c) (ha : c.is_async = 0) (h0 : codeAny (model prog w) A (.compLoop (.ListComp elt gens scope pos) d it acc env) R s)
    (h : wpAny (model prog w) A (pyIter it) (fun i z => codeAny (model prog w) A (.compLoop (.ListComp elt gens scope pos) d i acc env) R z) (fun _ _ => False) s) :
    codeAny (model prog w) A (.compStart (.ListComp elt gens scope pos) d it acc env) R s := by
  refine codeAny_of_tree ?_
  show wpAny _ _ ((compStart (.ListComp elt gens scope pos) d it acc env).onRaise (fun x => do noteFrame x env; standAt theWindowsPlace)) _ _ s
  refine wpAny_notedAt ?_
  unfold compStart
  have hcl : (clausesOf (.ListComp elt gens scope pos))[d]? = some c := hg
  simp only [hcl, Option.elim, ha]
  rw [if_neg (by decide)]
  show wpAny _ _ (ask >>= _) _ _ s
  refine wpAny_bind (wpAny_askSetting (wpAny_ite ?_))
  have go : ∀ z (b : Value) (A' : Around) (E' : Value → Shared → Prop), codeAny (model prog w) A (.compLoop (.ListComp elt gens scope pos) d b acc env) R z → wpAny (model prog w) A' (again (.compLoop (.ListComp elt gens scope pos) d b acc env)) (fun fin s' => match fin with
      | Fin.done f => R (Except.ok f) s'
      | Fin.again c' => c'.quiet = true ∧ codeAny (model prog w) A c' R s') E' z := fun z b A' E' h => wpAny_pure ⟨rfl, h⟩
  split
  · exact go _ _ _ _ h0
  · exact wpAny_bind (wpAny_rule (wpAny_bind (wpAny_standAt (wpAny_bind (wpAny_mono h (fun i z h' => go _ _ _ _ h') fun _ _ q => q.elim)))))
end
section
variable {Y : Cx}
theorem wipe_nil (σ : L2.St) : wipe σ [] = σ := rfl
theorem wipe_sub {σ : L2.St} {vs us : List Nat} (h : ∀ i ∈ us, i ∈ vs) {j : Nat} {v : V} (e : (wipe σ vs)[j]? = some (some v)) : (wipe σ us)[j]? = some (some v) := by
  obtain ⟨e1, e2⟩ := wipe_some e
  rw [wipe_out fun z => e2 (h j z)]
  exact e1
/-- what is known behind it is as ahead, but for the clause's names -/
def Knows (σ τ : L2.St) (vs : List Nat) : Prop := τ.length = σ.length ∧ ∀ (j : Nat) v, (wipe σ vs)[j]? = some (some v) → τ[j]? = some (some v)
theorem drop_one {α : Type} {l cs : List α} {c : α} {d : Nat} (h : l.drop d = c :: cs) : l[d]? = some c ∧ l.drop (d + 1) = cs := by
  refine ⟨?_, ?_⟩
  · have e : (l.drop d)[0]? = some c := by rw [h]; rfl
    rw [List.getElem?_drop] at e
    exact e
  · rw [← List.drop_drop, h]
    rfl
theorem deep_ok (hc : Y.calm = true) {elt : Expr} {te : TE} (pe : PE Y elt te) {gens : List Comprehension} {scope : Scope} {pos : Pos} {D : Addr} : ∀ (cs : List Cls) (d : Nat), (∀ c ∈ cs, c.Ok Y) → NestVs cs → gens.drop d = cs.map Cls.syn →
    ∀ (pins : List (Addr × Obj)) (σ : L2.St) (H : Hp) (s : Shared) (Z : Hp → Prop) (post : Shared → Prop), Inv Y pins σ H s → tDeep D te cs σ H Z →
      (∀ τ H' s', Inv Y pins τ H' s' → Knows σ τ (topVs cs) → Z H' → post s') → Y.xe = (fun _ _ => False) → Bhd Y.prog Y.w Y.A elt gens scope pos (.ref D) Y.env d post s
  | [], d, _, _, hd, pins, σ, H, s, Z, post, I, h, fin, hx => by
    have e : gens[d]? = none := List.getElem?_eq_none (by simpa using hd)
    unfold Bhd
    rw [e]
    have r := pe.run pins s σ H _ I h
    rw [hx] at r
    refine thn r fun x z q => ?_
    obtain ⟨y, H1, I1, ry, acc, e1, hl, q⟩ := q
    exact app_ok I1 e1 hl ry fun z' I2 => fin σ _ z' I2 ⟨rfl, fun j v e => e⟩ q
  | c :: cs, d, ok, hn, hd, pins, σ, H, s, Z, post, I, h, fin, hx => by
    obtain ⟨e, hd1⟩ := drop_one (c := c.syn) (cs := cs.map Cls.syn) hd
    have oc := ok c (List.mem_cons_self ..)
    unfold Bhd
    rw [e]
    refine ⟨rfl, oc.fold _, ?_⟩
    have r := oc.pi.run pins s σ H _ I h
    rw [hx] at r
    refine thn r fun xv s1 q => thn q fun itv s2 q => ?_
    obtain ⟨it, fp, tn, J, H1, rfl, I1, T, st, fok, W, ⟨m0, w0⟩, turn⟩ := q
    have fo : ∀ {H' : Hp}, (∀ b ∈ fp, H' b = none) → ∀ b ∈ fp, FpOk Y pins H' b := fun hn b hb => ⟨hn b hb, (fok b hb).2⟩
    have lp : codeAny (model Y.prog Y.w) Y.A (.compLoop (.ListComp elt gens scope pos) d (.ref it) (.ref D) Y.env) (fun r y => match r with | .ok _ => post y | .error _ => False) s2 := by
      refine loop_at e (fun k z => ∃ j H', Inv Y pins (wipe σ c.vs) H' z ∧ tn j z.heap ∧ (∀ b ∈ fp, H' b = none) ∧ W j k H') ?_ m0 ⟨0, H1, I1.weak (wipe_length _ _) (fun j v q => (wipe_some q).1), st, fun b hb => (fok b hb).1, w0⟩
      rintro k z ⟨j, Hj, Ij, stj, nj, wj⟩
      rcases turn j k Hj wj with ⟨stop, hz⟩ | ⟨go, Nx, hNx, step⟩
      · refine thnF (T.done Y rfl rfl rfl hc j pins z _ Hj (fun _ _ => False) Ij (fo nj) stj stop) fun r z1 q => ?_
        obtain ⟨rfl, I3⟩ := q
        exact fin _ _ _ I3 ⟨wipe_length _ _, fun j v q => q⟩ hz
      · refine thnF (T.item Y rfl rfl rfl hc j pins z _ Hj (fun _ _ => False) Ij (fo nj) stj go) fun r z1 q => ?_
        obtain ⟨u, rfl, q⟩ := q
        refine thnF q fun _ z2 q => ?_
        obtain ⟨x, H2, I2, r2, y2, st2, n2⟩ := q
        have I2' := I2.pinned (fo n2) (T.obj _ _ st2)
        have rg := oc.pg.run _ z2 _ H2 x u _ I2' r2 (step x H2 y2)
        rw [hx] at rg
        refine thnF rg fun _ z3 q => ?_
        obtain ⟨σ3, H3, I3, hw, q3⟩ := q
        have rt := oc.pt.run _ z3 σ3 H3 _ I3 q3
        rw [hx] at rt
        refine thnF rt fun b z4 q => ?_
        obtain ⟨H4, I4, q4⟩ := q
        have back : ∀ τ H' z', Inv Y (pins ++ pinsAt fp z2.heap) τ H' z' → Knows σ3 τ (topVs cs) → Nx H' → ∃ m, m < k ∧ ∃ j H', Inv Y pins (wipe σ c.vs) H' z' ∧ tn j z'.heap ∧ (∀ b ∈ fp, H' b = none) ∧ W j m H' := fun τ H' z' I' kn nx => by
          obtain ⟨m', hm, w'⟩ := hNx H' nx
          have pn : ∀ b ∈ fp, ∀ o, z2.heap.get? b = some o → z'.heap.get? b = some o ∧ H' b = none := fun b hb o e =>
            let t := I'.pin (b, o) (List.mem_append_right _ (List.mem_append_right _ (mem_pinsAt hb e)))
            ⟨t.1, t.2.1⟩
          refine ⟨m', hm, j + 1, H', I'.unpinned.weak ?_ (fun i v q => ?_), T.keep _ _ _ st2 fun b hb o e => (pn b hb o e).1, fun b hb => ?_, w'⟩
          · rw [kn.1, ← hw, wipe_length]
          · rw [← hw] at q
            exact kn.2 i v (wipe_sub hn.1 q)
          · obtain ⟨o, e, _⟩ := T.obj _ _ st2 b hb
            exact (pn b hb o e).2
        cases b with
        | false =>
          simp only [Bool.false_eq_true, if_false] at q4 ⊢
          exact back σ3 H4 z4 I4 ⟨rfl, fun i v q => (wipe_some q).1⟩ q4
        | true =>
          simp only [if_true] at q4 ⊢
          exact deep_ok hc pe cs (d + 1) (fun c' h' => ok c' (List.mem_cons_of_mem _ h')) hn.2 hd1 _ σ3 H4 z4 Nx _ I4 q4 back hx
    exact start_at e rfl lp (T.self Y.A 0 _ _ _ st lp)
end
/-- a list comprehension of any number of clauses; the first one's names are all of the block's -/
def tLcN (c : Cls) (cs : List Cls) (te : TE) : TE := fun σ H Q => c.wi σ H fun J H1 => ∀ D, H1 D = none → ∃ W : Nat → Nat → Hp → Prop, (∃ m, W 0 m (upd H1 D (.lst []))) ∧ ∀ j m H, W j m H →
  (J.stop j H ∧ Q (.ref D) H) ∨ (J.go j H ∧ ∃ Y : Hp → Prop, (∀ H', Y H' → ∃ m', m' < m ∧ W (j + 1) m' H') ∧ ∀ x H', J.yld j H x H' →
    c.g x (wipe σ c.vs) H' fun σ2 H2 => wipe σ2 c.vs = wipe σ c.vs ∧ c.tt σ2 H2 fun b H3 => if b = true then tDeep D te cs σ2 H3 Y else Y H3)
section
variable {X : Cx}
/-- the context of a comprehension's block -/
abbrev inBlk (X : Cx) (scope : Scope) (s : Shared) (H : Hp) (C : Addr) (cl : List (Str × Addr)) (fp : List Addr) : Cx := X.blk s H scope (compEnvC scope cl C X.env) fp
abbrev theCells (X : Cx) (scope : Scope) (n : Nat) : List (Str × Addr) := cellsFrom (n + 1) scope.names (cloFrom X.env.cells scope.names [])
theorem core_n {pins : List (Addr × Obj)} {s : Shared} {σ : L2.St} {H : Hp} {Q : VK} {elt : Expr} {c : Cls} {cs : List Cls} {scope : Scope} {own : List (Str × Nat)} {pos pos' : Pos} {te : TE} {use : Option (Value → Sem Unit)} {Qf : Value → Shared → Prop}
    (calm : X.calm = true) (nd : X.N.Nodup) (I : Inv X pins σ H s) (first : PI X c.tg c.iter c.wi) (blk : BlkOk X.N X.env.scope scope own) (hv : c.vs = own.map (·.2)) (nest : NestVs (c :: cs))
    (hg : ∀ s H C cl fp, PG (inBlk X scope s H C cl fp) c.tg c.g) (ht : ∀ s H C cl fp, PTs (inBlk X scope s H C cl fp) c.ifs c.tt) (rest : ∀ s H C cl fp, ∀ k ∈ cs, k.Ok (inBlk X scope s H C cl fp))
    (he : ∀ s H C cl fp, PE (inBlk X scope s H C cl fp) elt te) (fold : ∀ x, foldedSetIterable c.iter X.env x = pure x) (h : tLcN c cs te σ H Q)
    (done : ∀ D C z m H', Inv X pins σ H' z → Q (.ref D) H' → z.heap.Ns C m → FpOk X pins H' C → compPost (model X.prog X.w) X.A X.xe use Qf (.ref D) C (.ok .next) z) :
    wpAny (model X.prog X.w) X.A (comprehension (.ListComp elt (c.syn :: cs.map Cls.syn) scope pos) scope X.env pos' (newList []) false (eval c.iter X.env) use) Qf X.xe s := by
  have free : ∀ y ∈ scope.names, y.2 = .free → ∃ a, X.env.cells.lookup y.1 = some a := fun y hy e => (blk.free y hy e).elim (fun k => I.ok.has _ (.inl k)) fun k => I.ok.has _ (.inr k)
  have r0 := first.run pins s σ H _ I h
  refine wpAny_comprehension_free (g := c.syn) (gs := cs.map Cls.syn) (use := use) rfl fold (closure_ok free) blk.kind (fun y hy e => by rw [blk.uniq y hy, e]) (thn r0 fun xv s1 q => thn q fun itv s2 q => ?_)
  obtain ⟨it, fp, tn, J, H2, rfl, I2, T, st2, fok, q⟩ := q
  refine wpAny_newObj_type (newEnv_comp ?_) (by show 0 ≤ sizeLine; decide)
  generalize eD : s2.heap.objs.size = D
  obtain ⟨W, ⟨m0, w0⟩, turn⟩ := q D (I2.hok.fresh (Nat.le_of_eq eD))
  generalize eL : ({ cls := .type "list", data := .seq ([] : List Value).toArray } : Obj) = oL
  generalize e3 : ({ s2 with heap := s2.heap.push oL } : Shared) = s3
  have hp3 : s3.heap = s2.heap.push oL := by rw [← e3]
  have I3 : Inv X pins σ (upd H2 D (.lst [])) s3 := by
    rw [← e3]
    refine I2.laid (t' := s2.toks) (fun b o e => Heap.get?_push_of_some _ e) (Nat.le_of_eq eD) ⟨Nat.zero_le _, [], 0, .nil, ?_⟩
    rw [← eD, ← eL]
    exact Heap.get?_push_size _ rfl
  have lay : ∀ b o, s2.heap.get? b = some o → s3.heap.get? b = some o := fun b o e => by
    rw [hp3]
    exact Heap.get?_push_of_some _ e
  have below : ∀ b ∈ fp, b < s2.heap.objs.size := fun b hb => let ⟨o, e, _⟩ := T.obj _ _ st2 b hb; Heap.lt_size e
  have fok3 : ∀ b ∈ fp, FpOk X pins (upd H2 D (.lst [])) b ∧ b < s3.heap.objs.size := fun b hb => by
    have lt := below b hb
    refine ⟨⟨?_, (fok b hb).2⟩, ?_⟩
    · rw [upd_ne (show b ≠ D by rw [← eD]; exact Nat.ne_of_lt lt)]
      exact (fok b hb).1
    · rw [hp3, Heap.size_push]
      exact Nat.lt_succ_of_lt lt
  have st3 : tn 0 s3.heap := T.keep _ _ _ st2 fun b _ o e => lay b o e
  have I4 := block_start I3 blk nd fok3
  rw [← hv] at I4
  have pg := hg s3 (upd H2 D (.lst [])) s3.heap.objs.size (theCells X scope s3.heap.objs.size) fp
  have pt := ht s3 (upd H2 D (.lst [])) s3.heap.objs.size (theCells X scope s3.heap.objs.size) fp
  have pr := rest s3 (upd H2 D (.lst [])) s3.heap.objs.size (theCells X scope s3.heap.objs.size) fp
  have pe := he s3 (upd H2 D (.lst [])) s3.heap.objs.size (theCells X scope s3.heap.objs.size) fp
  dsimp only [inBlk] at pg pt pr pe
  have nfp : ∀ b ∈ fp, (upd H2 D (.lst [])) b = none := fun b hb => (fok3 b hb).1.1
  show codeAny _ _ (.compStart (.ListComp elt (c.syn :: cs.map Cls.syn) scope pos) 0 (.ref it) (.ref D) (compEnvC scope (theCells X scope s3.heap.objs.size) s3.heap.objs.size X.env)) (compPost (model X.prog X.w) X.A X.xe use Qf (.ref D) s3.heap.objs.size)
    { s3 with heap := pushCells (s3.heap.push { cls := .type "dict", data := .dict #[] }) scope.names }
  have cL : (compEnvC scope (theCells X scope s3.heap.objs.size) s3.heap.objs.size X.env).locals = s3.heap.objs.size := rfl
  generalize compEnvC scope (theCells X scope s3.heap.objs.size) s3.heap.objs.size X.env = ce at I4 pg pt pe pr cL ⊢
  generalize upd H2 D (.lst []) = H3 at I3 I4 pg pt pe pr w0 nfp fok3
  have lay4 : ∀ b o, s3.heap.get? b = some o → (pushCells (s3.heap.push { cls := .type "dict", data := .dict #[] }) scope.names).get? b = some o := fun b o e => pushCells_keeps _ _ _ _ (Heap.get?_push_of_some _ e)
  have st4 : tn 0 (pushCells (s3.heap.push { cls := .type "dict", data := .dict #[] }) scope.names) := T.keep _ _ _ st3 fun b _ o e => lay4 b o e
  generalize e4 : ({ s3 with heap := pushCells (s3.heap.push { cls := .type "dict", data := .dict #[] }) scope.names } : Shared) = s4 at I4 ⊢
  have st4 : tn 0 s4.heap := by
    rw [← e4]
    exact st4
  generalize eY : X.blk s3 H3 scope ce fp = Y at I4 pg pt pe pr
  have yx : Y.xe = (fun _ _ => False) := by rw [← eY]
  have yP : X.prog = Y.prog := by rw [← eY]
  have yw : X.w = Y.w := by rw [← eY]
  have yA : X.A = Y.A := by rw [← eY]
  have yK : X.K = Y.K := by rw [← eY]
  have ye : ce = Y.env := by rw [← eY]
  have yc : Y.calm = true := by
    rw [← eY]
    exact calm
  have fo : ∀ {τ : L2.St} {H' : Hp} {z : Shared}, Inv Y [] τ H' z → (∀ b ∈ fp, H' b = none) → ∀ b ∈ fp, FpOk Y [] H' b := fun {τ H' z} I' hn b hb => by
    subst eY
    exact ⟨hn b hb, (I'.ok.exf b hb).1, I'.ok.exfs b hb, .inl hb, fun x a e => (I'.ok.exf b hb).2 x a e, fun p hp => absurd (show p ∈ ([] : List (Addr × Obj)) ++ [] from hp) (by simp)⟩
  have lp : codeAny (model X.prog X.w) X.A (.compLoop (.ListComp elt (c.syn :: cs.map Cls.syn) scope pos) 0 (.ref it) (.ref D) ce) (compPost (model X.prog X.w) X.A X.xe use Qf (.ref D) s3.heap.objs.size) s4 := by
    refine loop_at (d := 0) (gens := c.syn :: cs.map Cls.syn) rfl (fun k z => ∃ j H', Inv Y [] (wipe σ c.vs) H' z ∧ tn j z.heap ∧ (∀ b ∈ fp, H' b = none) ∧ W j k H') ?_ m0 ⟨0, H3, I4, st4, nfp, w0⟩
    rintro k z ⟨j, Hj, Ij, stj, nj, wj⟩
    rcases turn j k Hj wj with ⟨stop, hz⟩ | ⟨go, Nx, hNx, step⟩
    · have td := T.done Y yP.symm yw.symm yK.symm yc j [] z _ Hj (fun _ _ => False) Ij (fo Ij nj) stj stop
      rw [← yA] at td
      refine thnF td fun r z1 q => ?_
      obtain ⟨rfl, J1⟩ := q
      have out : Inv X pins σ Hj z1 := by
        subst eY
        exact I3.call' (ch := fp) J1.os J1.base J1.hok J1.bare fun b hb => let f := (fok3 b hb).1; ⟨f.2.2.2.1, f.2.1, f.2.2.2.2.1, f.2.2.2.2.2⟩
      have nC : Hj s3.heap.objs.size = none := by
        have e : Hj Y.env.locals = none := J1.free
        rw [← ye, cL] at e
        exact e
      obtain ⟨m, hm, _⟩ := J1.loc
      rw [← ye, cL] at hm
      exact done D s3.heap.objs.size z1 m Hj out hz hm (I3.fpOk (Nat.le_refl _) nC)
    · have ti := T.item Y yP.symm yw.symm yK.symm yc j [] z _ Hj (fun _ _ => False) Ij (fo Ij nj) stj go
      rw [← yA] at ti
      refine thnF ti fun r z1 q => ?_
      obtain ⟨u, rfl, q⟩ := q
      refine thnF q fun _ z2 q => ?_
      obtain ⟨x, H5, I5, r5, y5, st5, n5⟩ := q
      have rg := pg.run _ z2 _ H5 x u _ (I5.pinned (fo I5 n5) (T.obj _ _ st5)) r5 (step x H5 y5)
      rw [yx, ← yA, ← yP, ← yw, ← ye] at rg
      refine thnF rg fun _ z3 q => ?_
      obtain ⟨σ3, H6, I6, hw, q3⟩ := q
      have rt := pt.run _ z3 σ3 H6 _ I6 q3
      rw [yx, ← yA, ← yP, ← yw, ← ye] at rt
      refine thnF rt fun b z4 q => ?_
      obtain ⟨H7, I7, q4⟩ := q
      have back : ∀ τ H' z', Inv Y ([] ++ pinsAt fp z2.heap) τ H' z' → Knows σ3 τ (topVs cs) → Nx H' → ∃ m, m < k ∧ ∃ j H', Inv Y [] (wipe σ c.vs) H' z' ∧ tn j z'.heap ∧ (∀ b ∈ fp, H' b = none) ∧ W j m H' := fun τ H' z' I' kn nx => by
        obtain ⟨m', hm, w'⟩ := hNx H' nx
        have pn : ∀ b ∈ fp, ∀ o, z2.heap.get? b = some o → z'.heap.get? b = some o ∧ H' b = none := fun b hb o e =>
          let t := I'.pin (b, o) (List.mem_append_right _ (List.mem_append_right _ (mem_pinsAt hb e)))
          ⟨t.1, t.2.1⟩
        refine ⟨m', hm, j + 1, H', (I'.unpinned (pins := [])).weak ?_ (fun i v q => ?_), T.keep _ _ _ st5 fun b hb o e => (pn b hb o e).1, fun b hb => ?_, w'⟩
        · rw [kn.1, ← hw, wipe_length]
        · rw [← hw] at q
          exact kn.2 i v (wipe_sub nest.1 q)
        · obtain ⟨o, e, _⟩ := T.obj _ _ st5 b hb
          exact (pn b hb o e).2
      cases b with
      | false =>
        simp only [Bool.false_eq_true, if_false] at q4 ⊢
        exact back σ3 H7 z4 I7 ⟨rfl, fun i v q => (wipe_some q).1⟩ q4
      | true =>
        simp only [if_true] at q4 ⊢
        have r := deep_ok yc pe (gens := c.syn :: cs.map Cls.syn) (scope := scope) (pos := pos) cs 1 pr nest.2 rfl _ σ3 H7 z4 Nx _ I7 q4 back yx
        rw [← yA, ← yP, ← yw, ← ye] at r
        exact r
  exact start_at (d := 0) (gens := c.syn :: cs.map Cls.syn) rfl rfl lp (T.self X.A 0 _ _ _ st4 lp)
/-- as a value -/
theorem pe_lcN {elt : Expr} {c : Cls} {cs : List Cls} {scope : Scope} {own : List (Str × Nat)} {pos : Pos} {te : TE} (calm : X.calm = true) (nd : X.N.Nodup) (first : PI X c.tg c.iter c.wi) (blk : BlkOk X.N X.env.scope scope own) (hv : c.vs = own.map (·.2)) (nest : NestVs (c :: cs))
    (hg : ∀ s H C cl fp, PG (inBlk X scope s H C cl fp) c.tg c.g) (ht : ∀ s H C cl fp, PTs (inBlk X scope s H C cl fp) c.ifs c.tt) (rest : ∀ s H C cl fp, ∀ k ∈ cs, k.Ok (inBlk X scope s H C cl fp))
    (he : ∀ s H C cl fp, PE (inBlk X scope s H C cl fp) elt te) (fold : ∀ x, foldedSetIterable c.iter X.env x = pure x := by intro _; rfl) : PE X (.ListComp elt (c.syn :: cs.map Cls.syn) scope pos) (tLcN c cs te) := by
  refine ⟨fun pins s σ H Q I h => ?_⟩
  rw [eval_ListComp]
  refine core_n calm nd I first blk hv nest hg ht rest he fold h fun D C z m H' I' q hn f => ⟨m, hn, fun h2 sb => ?_⟩
  obtain ⟨f0, f1, f2, f3, f4, f5⟩ := f
  exact ⟨.ref D, H', I'.turned (t' := z.toks) (fun b o hb e => (sb.2 b hb).trans e) f0 f1 f3 f4 f5, rfl, q⟩
/-- x = [..] on one line, x a local name -/
theorem ps_setLcN {i : Nat} {y : Str} {py : Pos} {elt : Expr} {c : Cls} {cs : List Cls} {scope : Scope} {own : List (Str × Nat)} {pos spos : Pos} {te : TE} (calm : X.calm = true) (nd : X.N.Nodup) (hy : X.N[i]? = some y) (loc : X.env.scope.names.lookup y = some .local)
    (sw : swapsWith (.ListComp elt (c.syn :: cs.map Cls.syn) scope pos) (some (.Name y py)) spos.line X.env = pure true) (first : PI X c.tg c.iter c.wi) (blk : BlkOk X.N X.env.scope scope own) (hv : c.vs = own.map (·.2)) (nest : NestVs (c :: cs))
    (hg : ∀ s H C cl fp, PG (inBlk X scope s H C cl fp) c.tg c.g) (ht : ∀ s H C cl fp, PTs (inBlk X scope s H C cl fp) c.ifs c.tt) (rest : ∀ s H C cl fp, ∀ k ∈ cs, k.Ok (inBlk X scope s H C cl fp))
    (he : ∀ s H C cl fp, PE (inBlk X scope s H C cl fp) elt te) (fold : ∀ x, foldedSetIterable c.iter X.env x = pure x := by intro _; rfl) : PS X (.Assign [.Name y py] (.ListComp elt (c.syn :: cs.map Cls.syn) scope pos) spos) (tAsg (tLcN c cs te) (gName i)) := by
  refine ⟨fun pins s σ H D I h => ?_⟩
  rw [exec_Assign_Name_used _ _ _ _ sw]
  refine wpAny_bind (wpAny_standAt (wpAny_bind ?_))
  show wpAny _ X.A (do let _ ← comprehension (.ListComp elt (c.syn :: cs.map Cls.syn) scope pos) scope X.env _ (newList []) false (eval c.iter X.env) (some (assign (.Name y py) X.env))) _ _ s
  have h : tLcN c cs te σ H (fun x H1 => gName i x σ H1 D.nx) := h
  refine wpAny_bind (thn (core_n (Qf := fun _ z => SP X pins D .next z) calm nd I first blk hv nest hg ht rest he fold h fun L C z m H' I' q hn f => ?_) fun _ z hq => wpAny_pure (wpAny_pure hq))
  show wpAny _ _ (assign (.Name y py) X.env (.ref L)) _ _ _
  refine wpAny_assign_Name (store_ok2 (v := V.ref L) I' nd hy (.inl loc) rfl (fun z2 I2 q2 => ?_) (.inr loc))
  obtain ⟨a, sb, ha⟩ := q2
  obtain ⟨f0, f1, f2, f3, f4, f5⟩ := f
  have ne : C ≠ a := ha.elim (fun e => by rw [e]; exact f1) fun e => fun e' => f4 y a e e'.symm
  refine ⟨m, hn.sameBut sb ne, fun h3 sb3 => ?_⟩
  exact ⟨_, H', I2.turned (t' := z2.toks) (fun b o hb e => (sb3.2 b hb).trans e) f0 f1 f3 f4 f5, q⟩
end
end Ow

/-! sum(rows, []) of a list of lists; no tuple times a number. -/
namespace Ow
open PySem PySem.Spec PyProof.Rows L2
/-- the rows from i on, one behind the other -/
def onward (rows : Nat → List Value) (i k : Nat) : List Value := (List.range' i k).flatMap rows
theorem onward_succ (rows : Nat → List Value) (i k : Nat) : onward rows i (k + 1) = rows i ++ onward rows (i + 1) k := by
  unfold onward
  rw [List.range'_succ, List.flatMap_cons]
abbrev LstAt (h : Heap) (a : Addr) (vs : List Value) : Prop := ∃ c, h.get? a = some ({ cls := .type "list", dict := none, data := .seq vs.toArray c, slots := #[] } : Obj)
section
variable {prog : Program} {w : World} {A : Around} {R : Result → Shared → Prop}
theorem lists_loop (hh : A.handled = none) {I S l z : Addr} {items : Array Value} {base : Heap} (hlI : l ≠ I) (hSI : S ≠ I) (hSl : S ≠ l) (hIb : base.objs.size ≤ I) (hSb : base.objs.size ≤ S) (rows : Nat → List Value) (adr : Nat → Addr)
    (hit : ∀ (i : Nat) (v : Value), items[i]? = some v → v = .ref (adr i)) (hb : ∀ i, i < items.size → LstAt base (adr i) (rows i)) :
    ∀ (k i : Nat) (s : Shared) (T : Addr) (tot : List Value) (c : Nat), items.size - i = k → i ≤ items.size → s.heap.IsListIter I l i → s.heap.IsList l items →
      s.heap.get? S = some { cls := .type "list", dict := none, data := .seq #[.ref T] c, slots := #[] } → LstAt s.heap T tot → ((T = z ∧ i = 0 ∧ z < base.objs.size) ∨ base.objs.size ≤ T) → T ≠ I → T ≠ S →
      (∀ b o, base.get? b = some o → s.heap.get? b = some o) → tot.length + (onward rows i k).length ≤ sizeLine →
      (∀ (h' : Heap) (tk : Nat) (T' : Addr), (∀ b o, base.get? b = some o → h'.get? b = some o) → LstAt h' T' (tot ++ onward rows i k) → ((T' = z ∧ items.size = 0) ∨ base.objs.size ≤ T') → R (.ok (.ret (.ref T'))) { s with heap := h', toks := tk }) →
      codeAny (model prog w) A (.builtin "sum.loop" ⟨[.ref I, .ref S, rawInt 2, rawInt 0], []⟩) R s := by
  have ltI : ∀ {b : Addr} {o : Obj}, base.get? b = some o → b ≠ I ∧ b ≠ S := fun e => ⟨fun q => Nat.lt_irrefl _ (Nat.lt_of_lt_of_le (Heap.lt_size e) (q ▸ hIb)), fun q => Nat.lt_irrefl _ (Nat.lt_of_lt_of_le (Heap.lt_size e) (q ▸ hSb))⟩
  intro k
  induction k with
  | zero =>
    intro i s T tot c hk hi hI hl hS hT hw nI nS hbase hsz fin
    obtain rfl : i = items.size := by omega
    refine codeAny_builtin F.entry_sum_loop ?_
    rw [Around.under_plainId F.plain_sum_loop _]
    refine wpAny_bind (wpAny_seqItems hS rfl ?_)
    refine wpAny_bind (wpAny_tryCatch ((Walks.list (A := A.in1) hh I l hlI items).done s _ _ ⟨hI, hl⟩ fun h' tk keep => ?_))
    obtain ⟨cT, eT⟩ := hT
    refine wpAny_pure (fin h' tk T (fun b o e => keep b o (by simp only [List.mem_cons, List.not_mem_nil, or_false]; exact (ltI e).1) (hbase b o e)) ⟨cT, ?_⟩ ?_)
    · have e : onward rows items.size 0 = [] := rfl
      rw [e, List.append_nil]
      exact keep _ _ (by simpa using nI) eT
    · rcases hw with ⟨a, b, _⟩ | a
      · exact .inl ⟨a, b⟩
      · exact .inr a
  | succ k ih =>
    intro i s T tot c hk hi hI hl hS hT hw nI nS hbase hsz fin
    have lt : i < items.size := by omega
    refine codeAny_builtin F.entry_sum_loop ?_
    rw [Around.under_plainId F.plain_sum_loop _]
    refine wpAny_bind (wpAny_seqItems hS rfl ?_)
    refine wpAny_bind (wpAny_tryCatch ((Walks.list (A := A.in1) hh I l hlI items).item i s _ _ lt ⟨hI, hl⟩ fun v h' tk hv st keep => ?_))
    obtain rfl := hit i v hv
    have kp : ∀ {b : Addr} {o : Obj}, b ≠ I → s.heap.get? b = some o → h'.get? b = some o := fun n e => keep _ _ (by simpa using n) e
    obtain ⟨cT, eT⟩ := hT
    obtain ⟨cR, eR⟩ := hb i lt
    have eR' := kp (ltI eR).1 (hbase _ _ eR)
    have eT' := kp nI eT
    have hS' := kp hSI hS
    show wpAny _ A.in1 ((holding [Value.ref (adr i)] (binaryOp .Add (.ref T) (.ref (adr i)))).attempt >>= _) _ _ _
    rw [onward_succ, List.length_append] at hsz
    refine wpAny_bind (wpAny_attempt (wpAny_holding (PySem.P.add_list eT' eR' ?_ (by rw [List.size_toArray, List.size_toArray]; omega))))
    generalize en : h'.objs.size = n
    have atN : (h'.push { cls := .type "list", data := .seq (tot.toArray ++ (rows i).toArray) }).get? n = some { cls := .type "list", data := .seq (tot ++ rows i).toArray } := by
      rw [← en]
      have e := Heap.get?_push_size h' (o := ({ cls := .type "list", data := .seq (tot.toArray ++ (rows i).toArray) } : Obj)) rfl
      rw [e, List.append_toArray]
    have nS' : n ≠ S := Nat.ne_of_gt (en ▸ Heap.lt_size hS')
    obtain ⟨oI, eI, _⟩ := st.1
    have nI' : n ≠ I := Nat.ne_of_gt (en ▸ Heap.lt_size eI)
    have push : ∀ {b : Addr} {o : Obj}, h'.get? b = some o → (h'.push { cls := .type "list", data := .seq (tot.toArray ++ (rows i).toArray) }).get? b = some o := fun e => Heap.get?_push_of_some _ e
    have hS2 := push hS'
    refine wpAny_bind (wpAny_updateSeq hS2 rfl ?_)
    have hS3 := Heap.get?_update_self (Obj.mapSeq fun _ => #[Value.ref n]) hS2 rfl
    refine wpAny_bind (wpAny_letGo ?_)
    refine wpAny_bind (wpAny_updateSeq hS3 rfl (wpAny_pure ⟨plainId_quiet F.plain_sum_loop _, ?_⟩))
    have up : ∀ {b : Addr} {o : Obj}, b ≠ S → h'.get? b = some o → (((h'.push { cls := .type "list", data := .seq (tot.toArray ++ (rows i).toArray) }).update S (Obj.mapSeq fun _ => #[Value.ref n])).update S (Obj.mapSeq fun _ => #[Value.ref n])).get? b = some o := fun {b o} nb e =>
      (Heap.get?_update_other _ _ (Ne.symm nb)).trans ((Heap.get?_update_other _ _ (Ne.symm nb)).trans (push e))
    obtain ⟨ol, el, rl⟩ := st.2
    refine ih (i + 1) _ n (tot ++ rows i) _ (by omega) lt ?_ ?_ (Heap.get?_update_self _ hS3 rfl) ⟨0, ?_⟩ (.inr ?_) nI' nS' ?_ ?_ fun h2 tk2 T2 k2 e2 w2 => ?_
    · obtain ⟨o, e, r⟩ := st.1
      exact ⟨o, up (Ne.symm hSI) e, r⟩
    · exact ⟨ol, up (Ne.symm hSl) el, rl⟩
    · exact (Heap.get?_update_other _ _ (Ne.symm nS')).trans ((Heap.get?_update_other _ _ (Ne.symm nS')).trans atN)
    · exact Nat.le_of_lt (Nat.lt_of_le_of_lt hIb (en ▸ Heap.lt_size eI))
    · intro b o e
      exact up (ltI e).2 (kp (ltI e).1 (hbase b o e))
    · rw [List.length_append]
      omega
    · refine fin h2 tk2 T2 k2 ?_ w2
      rw [onward_succ, ← List.append_assoc]
      exact e2
theorem args_sum2 (a b : Value) : argsOk "sum" ⟨[a, b], []⟩ := by unfold argsOk; kernel_rfl
theorem list_no_bytearray : isSubtype (.type "list") (.type "bytearray") = pure false := by rw [isSubtype_type]; kernel_rfl
theorem sum_lists {s : Shared} {E : Value → Shared → Prop} {l z : Addr} {items : Array Value} {Q : Value → Shared → Prop} (hh : A.handled = none) (hl : s.heap.IsList l items) (hz : LstAt s.heap z []) (rows : Nat → List Value) (adr : Nat → Addr)
    (hit : ∀ (i : Nat) (v : Value), items[i]? = some v → v = .ref (adr i)) (hb : ∀ i, i < items.size → LstAt s.heap (adr i) (rows i)) (hsz : (onward rows 0 items.size).length ≤ sizeLine)
    (fin : ∀ (h' : Heap) (tk : Nat) (T' : Addr), (∀ b o, s.heap.get? b = some o → h'.get? b = some o) → LstAt h' T' (onward rows 0 items.size) → ((T' = z ∧ items.size = 0) ∨ s.heap.objs.size ≤ T') → Q (.ref T') { s with heap := h', toks := tk }) :
    wpAny (model prog w) A (call (.builtin "sum") [.ref l, .ref z]) Q E s := by
  refine call_function_tree F.kind_sum F.plain_sum F.entry_sum (args_sum2 _ _) ?_
  unfold Builtin.«sum»
  simp only [List.length_cons, List.length_nil]
  rw [if_neg (by decide)]
  refine wpAny_bind (wpAny_of_eq (show Builtin.Builtins.bindParams "sum" ["start"] 0 ⟨[.ref z], []⟩ = pure [some (.ref z)] from rfl) ?_)
  obtain ⟨ol, el, rl⟩ := hl
  refine wpAny_bind (wpAny_pyIter_list ⟨ol, el, rl⟩ ?_)
  generalize eI : s.heap.objs.size = I
  refine wpAny_bind (wpAny_pure ?_)
  simp only [List.forIn_cons, List.forIn_nil]
  have lI : l < I := eI ▸ Heap.lt_size el
  obtain ⟨cz, ez⟩ := hz
  have zI : z < I := eI ▸ Heap.lt_size ez
  generalize eh : s.heap.push { cls := .type "list_iterator", data := .fields #[.ref l, .int 0 0] } = h1
  have atI : h1.get? I = some { cls := .type "list_iterator", data := .fields #[.ref l, .int 0 0] } := by
    rw [← eh, ← eI]
    exact Heap.get?_push_size _ rfl
  have k1 : ∀ b o, s.heap.get? b = some o → h1.get? b = some o := fun b o e => by
    rw [← eh]
    exact Heap.get?_push_of_some _ e
  have tz : ∀ (g : Array GenState) (d : Drawn) (tk : Nat) (os : OsState), Shared.TypeIs ⟨h1, g, d, tk, os⟩ (.ref z) "list" := fun _ _ _ _ => ⟨_, k1 _ _ ez, rfl⟩
  refine wpAny_bind (wpAny_bind (wpAny_bind (wpAny_isInstance (T := "list") (b := false) (tz _ _ _ _) PySem.F.sub_list_str ?_)))
  simp only [Bool.false_eq_true, if_false]
  refine wpAny_pure (wpAny_bind (wpAny_bind (wpAny_isInstance (T := "list") (b := false) (tz _ _ _ _) PySem.F.sub_list_bytes ?_)))
  simp only [Bool.false_eq_true, if_false]
  refine wpAny_pure (wpAny_bind (wpAny_bind (wpAny_isInstance (T := "list") (b := false) (tz _ _ _ _) list_no_bytearray ?_)))
  simp only [Bool.false_eq_true, if_false]
  refine wpAny_pure (wpAny_pure ?_)
  refine wpAny_bind (wpAny_newObj_type ?_)
  generalize eS : h1.objs.size = S
  have sI : S = I + 1 := by rw [← eS, ← eh, Heap.size_push, eI]
  refine wpAny_pure ⟨plainId_quiet F.plain_sum_loop _, ?_⟩
  have k2 : ∀ b o, h1.get? b = some o → (h1.push { cls := .type "list", data := .seq [Value.ref z].toArray }).get? b = some o := fun b o e => Heap.get?_push_of_some _ e
  refine lists_loop (base := s.heap) (z := z) hh (l := l) (I := I) (S := S) (Nat.ne_of_lt lI) (by rw [sI]; exact Nat.succ_ne_self I) (Nat.ne_of_gt (sI ▸ Nat.lt_succ_of_lt lI)) (Nat.le_of_eq eI) (by rw [sI, eI]; exact Nat.le_succ I) rows adr hit hb items.size 0 _ z [] 0 rfl (Nat.zero_le _) ⟨_, k2 _ _ atI, rfl, rfl⟩ ⟨ol, k2 _ _ (k1 _ _ el), rl⟩ ?_ ⟨cz, k2 _ _ (k1 _ _ ez)⟩
    (.inl ⟨rfl, rfl, Heap.lt_size ez⟩) (Nat.ne_of_lt zI) (Nat.ne_of_lt (sI ▸ Nat.lt_succ_of_lt zI)) (fun b o e => k2 _ _ (k1 _ _ e)) (by simpa using hsz) fun h2 tk2 T2 k2 e2 w2 => fin h2 tk2 T2 k2 (by simpa using e2) w2
  rw [← eS]
  exact Heap.get?_push_size _ rfl
end
section
variable {X : Cx}
def rSumL (K : PySem.W.Frag) : List V → Hp → VK → Prop := fun vs H Q => ∃ (l z : Addr) (as : List Addr) (rws : List (List V)), vs = [.ref l, .ref z] ∧ SqL K H l (as.map V.ref) ∧ H z = some (.lst []) ∧ as.length = rws.length ∧
  (∀ (i : Nat) a r, as[i]? = some a → rws[i]? = some r → H a = some (.lst r)) ∧ rws.flatten.length ≤ sizeLine ∧ ∀ (T : Addr) (H' : Hp), Same H H' → H' T = some (.lst rws.flatten) → Q (.ref T) H'
theorem flat_getD {α : Type} (rws : List (List α)) : (List.range' 0 rws.length).flatMap (fun i => rws.getD i []) = rws.flatten := by
  rw [List.flatMap_def]
  congr 1
  refine List.ext_getElem (by simp) fun i h1 h2 => ?_
  simp [List.getElem?_eq_getElem h2]
theorem vals_flat {f : Nat → List V} {g : Nat → List Value} : ∀ (k i : Nat), (∀ j, i ≤ j → j < i + k → Vals (f j) (g j)) → Vals ((List.range' i k).flatMap f) ((List.range' i k).flatMap g)
  | 0, i, _ => .nil
  | k + 1, i, h => by
    rw [List.range'_succ, List.flatMap_cons, List.flatMap_cons]
    exact (h i (Nat.le_refl _) (by omega)).append (vals_flat k (i + 1) fun j h1 h2 => h j (by omega) (by omega))
theorem refs_of : ∀ {as : List Addr} {us : List Value}, Vals (as.map V.ref) us → us = as.map Value.ref
  | [], _, r => by
    cases r
    rfl
  | a :: as, _, r => by
    cases r with
    | cons r1 r2 =>
      cases r1
      rw [refs_of r2, List.map_cons]
theorem cr_sumL (hc : X.calm = true) : CallR X (.builtin "sum") (rSumL X.K) := by
  intro pins s σ H vs us Q I r h
  obtain ⟨l, z, as, rws, rfl, hs, hz, hl, hr, hn, q⟩ := h
  cases r with
  | cons r1 r =>
    cases r with
    | cons r2 r =>
      cases r
      cases r1
      cases r2
      obtain ⟨its, rv, hil, _⟩ := I.list hs
      obtain rfl := refs_of rv
      obtain ⟨_, iz, nz, rz, lz, ez⟩ := I.lstM hz
      cases rz
      have each : ∀ i, ∃ us, i < as.length → Vals (rws.getD i []) us ∧ LstAt s.heap (as.getD i 0) us := fun i => by
        by_cases hi : i < as.length
        · have e1 := List.getElem?_eq_getElem hi
          have e2 := List.getElem?_eq_getElem (l := rws) (i := i) (by omega)
          obtain ⟨_, ir, nr, rr, lr, er⟩ := I.lstM (hr i _ _ e1 e2)
          refine ⟨ir, fun _ => ⟨?_, nr, ?_⟩⟩
          · rw [List.getD_eq_getElem?_getD, e2]
            exact rr
          · rw [List.getD_eq_getElem?_getD, e1]
            exact er
        · exact ⟨[], fun h => absurd h hi⟩
      obtain ⟨rows, hrows⟩ := Classical.axiomOfChoice each
      have sz : (as.map Value.ref).toArray.size = as.length := by simp
      have vf : Vals rws.flatten (onward rows 0 as.length) := by
        have v := vals_flat (f := fun i => rws.getD i []) (g := rows) as.length 0 fun j _ h2 => (hrows j (by omega)).1
        rw [hl, flat_getD] at v
        rw [hl]
        exact v
      refine sum_lists (I.ok.hd hc) hil.isList ⟨nz, ez⟩ rows (fun i => as.getD i 0) (fun i v e => ?_) (fun i hi => (hrows i (sz ▸ hi)).2) ?_ fun h' tk T keep e w => ?_
      · rw [List.getElem?_toArray, List.getElem?_map] at e
        obtain ⟨a, ea, rfl⟩ := Option.map_eq_some_iff.mp e
        rw [List.getD_eq_getElem?_getD, ea]
        rfl
      · rw [sz, ← vf.length]
        exact hn
      · rw [sz] at e w
        obtain ⟨c, e⟩ := e
        rcases w with ⟨rfl, w⟩ | w
        · refine ⟨.ref T, H, I.kept keep, rfl, q T H (Same.refl H) ?_⟩
          have : rws = [] := List.length_eq_zero_iff.mp (by omega)
          rw [this]
          exact hz
        · refine ⟨.ref T, _, I.laid (t' := tk) (o := .lst rws.flatten) keep w ⟨hn, _, c, vf, e⟩, rfl, q T _ (same_new (I.hok.fresh w)) upd_same⟩
/-- a tuple of nothing, some times, is itself -/
theorem tuple_mul0 (l : Addr) (n : Nat) (dd : Option Addr) (sl : Array (Option Value)) (x : Int) (u : Tok) (c0 : (decide (x < -(2 ^ 63)) || decide (x ≥ 2 ^ 63)) = false) :
    Meets (Builtin.«tuple.__mul__» ⟨[.ref l, .int x u], []⟩) (fun _ R s => s.heap.get? l = some { cls := .type "tuple", dict := dd, data := .seq #[] n, slots := sl } ∧ R (.ok (.ret (Value.ref l))) s) :=
  .of_wp fun prog w A R s h => by
    obtain ⟨hp, g, d, tk, os⟩ := s
    obtain ⟨hl, h⟩ := h
    have f1 := AutoSeq1.idx_int
    wp_walk using wpAny_loadPart' hl
    refine wpAny_ite_false (decide_eq_false (by rw [c0]; exact Bool.false_ne_true)) ?_
    wp_walk using wpAny_loadPart' hl
    exact ⟨_, rfl, h⟩
def rRepU (K : PySem.W.Frag) : R2 := fun x y H Q => ∃ l k, x = .ref l ∧ y = .int k ∧ SqT K H l [] ∧ 0 ≤ k ∧ k ≤ 1000 ∧ Q (.ref l) H
theorem op_repU {X : Cx} : OpR X (binaryOp .Mult) (rRepU X.K) := by
  intro pins s σ H x y v u Q I rx ry h
  obtain ⟨l, k, rfl, rfl, hT, h1, h2, q⟩ := h
  cases rx
  obtain ⟨t, rfl⟩ := ry
  obtain ⟨its, r, ⟨⟨cls, dd, data, sl⟩, ho, hc, n, hd⟩, hs⟩ := I.tuple hT
  cases r
  simp only at hc hd
  subst hc hd
  have c0 : (decide (k < -(2 ^ 63)) || decide (k ≥ 2 ^ 63)) = false := by
    rw [decide_eq_false (by omega), decide_eq_false (by omega)]
    rfl
  refine wpAny_binaryOp_repeat_ref (T := "tuple") (U := "int") (by decide) ⟨_, ho, rfl⟩ (fun s' => typeIs_int s' k t) noFill_tuple_mul F.fills_int_mul F.slot_int_rmul repeat_tuple F.slot_int_index.lookup
    (call_meets F.slot_int_rmul (typeIs_int s k t) F.entry_int_rmul (F.args_int_rmul_2 _ _) (int_rmul_tuple k t l _ n dd sl)
      ⟨ho, rfl, ⟨_, ho, rfl⟩, call_meets F.slot_tuple_mul ⟨_, ho, rfl⟩ F.entry_tuple_mul (F.args_tuple_mul_2 _ _) (tuple_mul0 l n dd sl k t c0) ⟨ho, ?_⟩⟩)
  exact ⟨.ref l, H, I, rfl, q⟩
end
end Ow

/-! A program's data kinds, over any data. -/
namespace Ow
open PySem PySem.Spec PyProof.Rows L2
/-! ### what goes over a tuple, whatever is done in it -/
theorem over_tup {K : PySem.W.Frag} {a : Addr} {xs : List V} {B : V → Hp → (Hp → Prop) → Prop} {Z : Hp → Prop} {H1 : Hp} (Pv : Nat → Hp → Prop) (h0 : Pv 0 H1) (hl : ∀ i H, i ≤ xs.length → Pv i H → SqT K H a xs)
    (hs : ∀ i x H, xs[i]? = some x → Pv i H → B x H (Pv (i + 1))) (hd : ∀ H, Pv xs.length H → Z H) :
    ∃ W : Nat → Nat → Hp → Prop, (∃ m, W 0 m H1) ∧ ∀ j m H, W j m H → ((Itt K a).stop j H ∧ Z H) ∨ ((Itt K a).go j H ∧ ∃ Y : Hp → Prop, (∀ H', Y H' → ∃ m', m' < m ∧ W (j + 1) m' H') ∧ ∀ x H', (Itt K a).yld j H x H' → B x H' Y) := by
  refine ⟨fun i m H => m = xs.length - i ∧ i ≤ xs.length ∧ Pv i H, ⟨_, rfl, Nat.zero_le _, h0⟩, ?_⟩
  rintro i m H ⟨rfl, hi, p⟩
  have q := hl i H hi p
  by_cases lt : i < xs.length
  · refine .inr ⟨⟨xs, xs[i], q, by simp [lt]⟩, Pv (i + 1), fun H' p' => ⟨xs.length - (i + 1), by omega, rfl, lt, p'⟩, fun x H' y => ?_⟩
    obtain ⟨rfl, y⟩ := y
    exact hs i x _ (y xs q) p
  · obtain rfl : i = xs.length := by omega
    exact .inl ⟨⟨xs, q, Nat.le_refl _⟩, hd H p⟩
theorem pi_tupK {X : Cx} {K : PySem.W.Frag} (h : X.K = K) {tg l : Expr} {tl : TE} (hl : PE X l tl) : PI X tg l (iTup K tl) := h ▸ pi_tup hl
theorem in_seqK {X : Cx} {K : PySem.W.Frag} (h : X.K = K) : OpR X (compareOp .In) (rIn K false) := h ▸ op_in_seq
theorem ok_nil {Y : Cx} : ∀ k ∈ ([] : List Cls), k.Ok Y := fun _ h => nomatch h
theorem ok_cons {Y : Cx} {c : Cls} {cs : List Cls} (pi : PI Y c.tg c.iter c.wi) (pg : PG Y c.tg c.g) (pt : PTs Y c.ifs c.tt) (fold : ∀ env x, foldedSetIterable c.iter env x = pure x) (h : ∀ k ∈ cs, k.Ok Y) : ∀ k ∈ c :: cs, k.Ok Y := fun k hk => by
  rcases List.mem_cons.mp hk with rfl | hk
  · exact ⟨pi, pg, pt, fold⟩
  · exact h k hk
/-! ### data kinds -/
def fstN : PyData → Str
  | .tuple [s, _] => nmD s
  | _ => sg ""
def sndL : PyData → List PyData
  | .tuple [_, b] => itD b
  | _ => []
def datasOk (d : PyData) : Bool := isRowD d 1 6 && ((itD d).all dataOk && (unlikeN ((itD d).map fstN) && (unlikeN (((itD d).flatMap sndL).map fstN) && (((itD d).flatMap sndL).flatMap sndL).all fun f => memD f ((itD d).map fstN))))
def progOk : PyData → Bool
  | .tuple [a, b] => datasOk a && defsOk b
  | _ => false
abbrev MkT := Str × List Str
abbrev DtT := Str × List MkT
def mkD (m : MkT) : PyData := .tuple [.str m.1, .tuple (m.2.map strD)]
def dtD (p : DtT) : PyData := .tuple [.str p.1, .tuple (p.2.map mkD)]
structure MkOk (m : MkT) : Prop where
  nm : isNameD (.str m.1) = true
  len : m.2.length ≤ 4
  all : ∀ f ∈ m.2, isNameD (.str f) = true
structure DtOk (p : DtT) : Prop where
  nm : isNameD (.str p.1) = true
  one : 1 ≤ p.2.length
  len : p.2.length ≤ 6
  all : ∀ m ∈ p.2, MkOk m
theorem maker_of {d : PyData} (h : makerOk d = true) : ∃ m : MkT, d = mkD m ∧ MkOk m := by
  unfold makerOk at h
  split at h
  · rename_i a b
    simp only [Bool.and_eq_true] at h
    obtain ⟨h1, h2, h3⟩ := h
    obtain ⟨x, rfl⟩ := name_str h1
    obtain ⟨ns, rfl, _, h4⟩ := row_tup h2
    obtain ⟨xs, rfl, hx⟩ := names_of (ns := ns) h3
    rw [List.length_map] at h4
    exact ⟨(x, xs), rfl, h1, (by omega : xs.length ≤ 4), hx⟩
  · cases h
theorem makers_of : ∀ {ds : List PyData}, ds.all makerOk = true → ∃ ms : List MkT, ds = ms.map mkD ∧ ∀ m ∈ ms, MkOk m
  | [], _ => ⟨[], rfl, fun _ z => nomatch z⟩
  | d :: ds, h => by
    rw [List.all_cons, Bool.and_eq_true] at h
    obtain ⟨m, rfl, hm⟩ := maker_of h.1
    obtain ⟨ms, rfl, hms⟩ := makers_of h.2
    refine ⟨m :: ms, rfl, fun y hy => ?_⟩
    rcases List.mem_cons.mp hy with rfl | hy
    · exact hm
    · exact hms y hy
theorem data_of {d : PyData} (h : dataOk d = true) : ∃ p : DtT, d = dtD p ∧ DtOk p := by
  unfold dataOk at h
  split at h
  · rename_i a b
    simp only [Bool.and_eq_true] at h
    obtain ⟨h1, h2, h3⟩ := h
    obtain ⟨x, rfl⟩ := name_str h1
    obtain ⟨ns, rfl, h5, h6⟩ := row_tup h2
    obtain ⟨ms, rfl, hm⟩ := makers_of (ds := ns) h3
    rw [List.length_map] at h5 h6
    exact ⟨(x, ms), rfl, h1, (by omega : 1 ≤ ms.length), (by omega : ms.length ≤ 6), hm⟩
  · cases h
theorem datas_of : ∀ {ds : List PyData}, ds.all dataOk = true → ∃ ps : List DtT, ds = ps.map dtD ∧ ∀ p ∈ ps, DtOk p
  | [], _ => ⟨[], rfl, fun _ z => nomatch z⟩
  | d :: ds, h => by
    rw [List.all_cons, Bool.and_eq_true] at h
    obtain ⟨p, rfl, hp⟩ := data_of h.1
    obtain ⟨ps, rfl, hps⟩ := datas_of h.2
    refine ⟨p :: ps, rfl, fun y hy => ?_⟩
    rcases List.mem_cons.mp hy with rfl | hy
    · exact hp
    · exact hps y hy
def mksOf (ps : List DtT) : List MkT := ps.flatMap (·.2)
def fldsOf (ps : List DtT) : List Str := (mksOf ps).flatMap (·.2)
theorem fst_dt (ps : List DtT) : (ps.map dtD).map fstN = ps.map (·.1) := by
  rw [List.map_map]
  rfl
theorem snd_dt (ps : List DtT) : (ps.map dtD).flatMap sndL = (mksOf ps).map mkD := by
  unfold mksOf
  rw [List.flatMap_map, List.map_flatMap]
  rfl
theorem snd_mk (ms : List MkT) : (ms.map mkD).flatMap sndL = (ms.flatMap (·.2)).map strD := by
  rw [List.flatMap_map, List.map_flatMap]
  rfl
theorem fst_mk (ms : List MkT) : (ms.map mkD).map fstN = ms.map (·.1) := by
  rw [List.map_map]
  rfl
theorem datas_eq (ps : List DtT) : datasOk (.tuple (ps.map dtD)) = (isRowD (.tuple (ps.map dtD)) 1 6 && ((ps.map dtD).all dataOk && (unlikeN (ps.map (·.1)) && (unlikeN ((mksOf ps).map (·.1)) && (fldsOf ps).all fun f => decide (f ∈ ps.map (·.1)))))) := by
  show (isRowD (.tuple (ps.map dtD)) 1 6 && ((ps.map dtD).all dataOk && (unlikeN ((ps.map dtD).map fstN) && (unlikeN (((ps.map dtD).flatMap sndL).map fstN) && (((ps.map dtD).flatMap sndL).flatMap sndL).all fun f => memD f ((ps.map dtD).map fstN))))) = _
  rw [fst_dt, snd_dt, fst_mk, snd_mk]
  have e : ∀ (xs zs : List Str), ((xs.map strD).all fun f => memD f zs) = xs.all fun f => decide (f ∈ zs) := fun xs zs => by
    rw [List.all_map]
    rfl
  rw [e]
  rfl
theorem flat_len {α β : Type} {f : α → List β} {k : Nat} : ∀ {xs : List α}, (∀ x ∈ xs, (f x).length ≤ k) → (xs.flatMap f).length ≤ xs.length * k
  | [], _ => Nat.zero_le _
  | x :: xs, h => by
    have h1 := h x (List.mem_cons_self ..)
    have h2 := flat_len (xs := xs) fun y hy => h y (List.mem_cons_of_mem _ hy)
    rw [List.flatMap_cons, List.length_append, List.length_cons, Nat.succ_mul]
    omega
theorem mks_len {ps : List DtT} (h : ∀ p ∈ ps, DtOk p) : (mksOf ps).length ≤ ps.length * 6 := flat_len fun p hp => (h p hp).len
theorem mks_ok {ps : List DtT} (h : ∀ p ∈ ps, DtOk p) : ∀ m ∈ mksOf ps, MkOk m := fun m hm => by
  obtain ⟨p, hp, hm⟩ := List.mem_flatMap.mp hm
  exact (h p hp).all m hm
theorem flds_len {ps : List DtT} (h : ∀ p ∈ ps, DtOk p) : (fldsOf ps).length ≤ ps.length * 6 * 4 :=
  Nat.le_trans (flat_len fun m hm => (mks_ok h m hm).len) (Nat.mul_le_mul_right _ (mks_len h))
theorem mks_take {ps : List DtT} {i : Nat} {p : DtT} (h : ps[i]? = some p) : mksOf (ps.take (i + 1)) = mksOf (ps.take i) ++ p.2 := by
  unfold mksOf
  rw [List.take_add_one, h, List.flatMap_append]
  simp
theorem flds_take {ps : List DtT} {i : Nat} {p : DtT} (h : ps[i]? = some p) : fldsOf (ps.take (i + 1)) = fldsOf (ps.take i) ++ p.2.flatMap (·.2) := by
  unfold fldsOf
  rw [mks_take h, List.flatMap_append]
theorem flat_take {α β : Type} {f : α → List β} {ms : List α} {i : Nat} {m : α} (h : ms[i]? = some m) : (ms.take (i + 1)).flatMap f = (ms.take i).flatMap f ++ f m := by
  rw [List.take_add_one, h, List.flatMap_append]
  simp
section
variable {K : PySem.W.Frag} {N : Addr → Prop} {H : Hp}
theorem Da.dt {v : V} {p : DtT} (h : Da K N H v (dtD p)) : ∃ t t2 us, v = .ref t ∧ SqT K H t [.str p.1, .ref t2] ∧ SqT K H t2 us ∧ DaAll K N H us (p.2.map mkD) := by
  obtain ⟨t, x, y, rfl, hT, ha, hb⟩ := Da.tup2 h
  obtain rfl := ha.strInv
  obtain ⟨t2, us, rfl, hT2, hA⟩ := hb.tupInv
  exact ⟨t, t2, us, rfl, hT, hT2, hA⟩
theorem Da.mk {v : V} {m : MkT} (h : Da K N H v (mkD m)) : ∃ t t2, v = .ref t ∧ SqT K H t [.str m.1, .ref t2] ∧ SqT K H t2 (m.2.map V.str) := by
  obtain ⟨t, x, y, rfl, hT, ha, hb⟩ := Da.tup2 h
  obtain rfl := ha.strInv
  obtain ⟨t2, rfl, hT2⟩ := hb.names
  exact ⟨t, t2, rfl, hT, hT2⟩
theorem map_get {α β : Type} {f : α → β} {xs : List α} {i : Nat} {y : β} (h : (xs.map f)[i]? = some y) : ∃ x, xs[i]? = some x ∧ y = f x := by
  rw [List.getElem?_map] at h
  obtain ⟨x, hx, rfl⟩ := Option.map_eq_some_iff.mp h
  exact ⟨x, hx, rfl⟩
end
end Ow

/-! Drawn programs; slices of any bounds; the law's own look at a program. -/
namespace Ow
open PySem PySem.Spec PyProof.Rows L2
/-- a tuple beside the empty one -/
def rNeU (K : PySem.W.Frag) : R2 := fun x y H Q => ∃ (a b : Addr) (xs : List V), x = .ref a ∧ y = .ref b ∧ SqT K H a xs ∧ SqT K H b [] ∧ Q (.bl (!xs.isEmpty)) H
theorem op_neU {X : Cx} (hu : X.A.units + 64 < cLine) : OpR X (compareOp .NotEq) (rNeU X.K) := by
  intro pins s σ H x y v u Q I rx ry h
  obtain ⟨a, b, xs, rfl, rfl, ha, hb, q⟩ := h
  cases rx
  cases ry
  obtain ⟨its, rv, hit, _⟩ := I.tuple ha
  obtain ⟨its2, rv2, hit2, _⟩ := I.tuple hb
  cases rv2
  refine SeqAt.RcNeAt.tuples (e := fun _ => true) hit hit2 (by omega) (fun j h1 h2 => absurd h2 (Nat.not_lt_zero _)) _ _ _ _ ?_
  refine ⟨.bl _, H, I, ?_, q⟩
  show Value.bool _ = Value.bool _
  cases rv with
  | nil => rfl
  | cons _ _ => simp
theorem listOfK {X : Cx} {K : PySem.W.Frag} (h : X.K = K) : CallR X (.type "list") (fun xs H Q => ∃ p ys, xs = [.ref p] ∧ (SqL K H p ys ∨ SqT K H p ys) ∧ ∀ l, H l = none → Q (.ref l) (upd H l (.lst ys))) := h ▸ call_list_of
/-! ### slices -/
theorem cut_some (n : Nat) (lo hi : Option Int) : ∃ a b, ∀ xs : List V, xs.length = n → cutV xs lo hi = (xs.drop a).take b := ⟨HT.sIx n 0 lo, HT.sIx n n hi - HT.sIx n 0 lo, fun xs h => by
  unfold cutV
  rw [h]⟩
theorem da_cut {K : PySem.W.Frag} {N : Addr → Prop} {H : Hp} {xs : List V} {ds : List PyData} (h : DaAll K N H xs ds) (lo hi : Option Int) : ∃ es, DaAll K N H (cutV xs lo hi) es ∧ es.Sublist ds ∧ (cutV xs lo hi).length = es.length := by
  obtain ⟨a, b, e⟩ := cut_some xs.length lo hi
  rw [e xs rfl]
  refine ⟨(ds.drop a).take b, (h.drop a).take b, (List.take_sublist _ _).trans (List.drop_sublist _ _), ((h.drop a).take b).length⟩
theorem at_last {α : Type} {xs : List α} (h : xs ≠ []) : ∃ x, atI xs (-1) = some x ∧ xs[xs.length - 1]? = some x := by
  have l : 0 < xs.length := List.length_pos_iff.mpr h
  refine ⟨xs[xs.length - 1], ?_, List.getElem?_eq_getElem _⟩
  have e : ixN xs.length (-1) = some (xs.length - 1) := by
    unfold ixN
    rw [if_neg (by omega), if_pos (by omega)]
    congr 1
    omega
  show (ixN xs.length (-1)).bind _ = _
  rw [e]
  exact List.getElem?_eq_getElem _
/-! ### programs as they are drawn -/
structure MkS (m : MkT) : Prop where
  nm : Nm m.1
  len : m.2.length ≤ 5
  all : ∀ f ∈ m.2, Nm f
structure DtS (p : DtT) : Prop where
  nm : Nm p.1
  one : 1 ≤ p.2.length
  len : p.2.length ≤ 7
  all : ∀ m ∈ p.2, MkS m
structure PsS (ps : List DtT) : Prop where
  one : 1 ≤ ps.length
  len : ps.length ≤ 7
  all : ∀ p ∈ ps, DtS p
/-- a def's row -/
abbrev DfT := Str × PyData × PyData
def dfD (f : DfT) : PyData := .tuple [.str f.1, f.2.1, f.2.2]
structure FsS (b : Nat) (fs : List DfT) : Prop where
  len : fs.length ≤ b
  all : ∀ f ∈ fs, Nm f.1 ∧ Fit 2000 60 f.2.1 ∧ Fit 42740 60 f.2.2
theorem fit_all {n m : Nat} : ∀ {ds : List PyData}, (∀ d ∈ ds, Fit n m d) → FitAll (ds.length * (n + 2)) m ds
  | [], _ => FitAll.nil.le (Nat.zero_le _) (Nat.le_refl _)
  | d :: ds, h => by
    refine (FitAll.cons (h d (List.mem_cons_self ..)) (fit_all fun e he => h e (List.mem_cons_of_mem _ he))).le ?_ (Nat.le_refl _)
    rw [List.length_cons, Nat.succ_mul]
    omega
theorem fit_map {α : Type} {f : α → PyData} {n m k : Nat} {xs : List α} (h : ∀ x ∈ xs, Fit n m (f x)) (hl : xs.length ≤ k) : FitAll (k * (n + 2)) m (xs.map f) := by
  have q : ∀ d ∈ xs.map f, Fit n m d := fun d hd => by
    obtain ⟨x, hx, rfl⟩ := List.mem_map.mp hd
    exact h x hx
  refine (fit_all q).le ?_ (Nat.le_refl _)
  rw [List.length_map]
  exact Nat.mul_le_mul_right _ hl
theorem MkS.fit {m : MkT} (h : MkS m) : Fit 562 2 (mkD m) := by
  have f := fit_map (f := strD) (k := 5) (fun x hx => fit_nm (h.all x hx)) h.len
  exact (Fit.tup (.cons ((fit_nm h.nm).le (Nat.le_refl _) (Nat.zero_le _)) (.cons (Fit.tup f) (FitAll.nil (n := 0))))).le (by omega) (by omega)
theorem DtS.fit {p : DtT} (h : DtS p) : Fit 4100 4 (dtD p) := by
  have f := fit_map (f := mkD) (k := 7) (fun x hx => (h.all x hx).fit) h.len
  exact (Fit.tup (.cons ((fit_nm h.nm).le (Nat.le_refl _) (Nat.zero_le _)) (.cons (Fit.tup f) (FitAll.nil (n := 0))))).le (by omega) (by omega)
theorem PsS.fit {ps : List DtT} (h : PsS ps) : Fit 28800 5 (.tuple (ps.map dtD)) :=
  (Fit.tup (fit_map (f := dtD) (k := 7) (fun x hx => (h.all x hx).fit) h.len)).le (by omega) (by omega)
theorem df_fit {f : DfT} (h1 : Nm f.1) (h2 : Fit 2000 60 f.2.1) (h3 : Fit 42740 60 f.2.2) : Fit 44840 61 (dfD f) :=
  (Fit.tup (.cons ((fit_nm h1).le (Nat.le_refl _) (Nat.zero_le _)) (.cons h2 (.cons h3 (FitAll.nil (n := 0)))))).le (by omega) (by omega)
theorem FsS.fit {b : Nat} {fs : List DfT} (h : FsS b fs) (hb : b ≤ 40) : Fit 1800000 62 (.tuple (fs.map dfD)) :=
  (Fit.tup (fit_map (f := dfD) (k := 40) (fun x hx => df_fit (h.all x hx).1 (h.all x hx).2.1 (h.all x hx).2.2) (Nat.le_trans h.len hb))).le (by omega) (by omega)
theorem FsS.le {b c : Nat} {fs : List DfT} (h : FsS b fs) (hb : b ≤ c) : FsS c fs := ⟨Nat.le_trans h.len hb, h.all⟩
/-- a drawn program: its data kinds and its defs, as tuples -/
structure Prg (K : PySem.W.Frag) (H : Hp) (v : V) (ps : List DtT) (fs : List DfT) : Prop where
  ex : ∃ t a b xs ys, v = .ref t ∧ SqT K H t [.ref a, .ref b] ∧ SqT K H a xs ∧ DaAll K All H xs (ps.map dtD) ∧ SqT K H b ys ∧ DaAll K All H ys (fs.map dfD)
theorem Prg.da {K : PySem.W.Frag} {H : Hp} {v : V} {ps : List DtT} {fs : List DfT} (h : Prg K H v ps fs) : Da K All H v (.tuple [.tuple (ps.map dtD), .tuple (fs.map dfD)]) := by
  obtain ⟨t, a, b, xs, ys, rfl, h1, h2, h3, h4, h5⟩ := h.ex
  exact .tup h1 (.cons (.tup h2 h3) (.cons (.tup h4 h5) .nil))
theorem Prg.of {K : PySem.W.Frag} {H : Hp} {v : V} {ps : List DtT} {fs : List DfT} (h : Da K All H v (.tuple [.tuple (ps.map dtD), .tuple (fs.map dfD)])) : Prg K H v ps fs := by
  obtain ⟨t, x, y, rfl, h1, h2, h3⟩ := Da.tup2 h
  obtain ⟨a, xs, rfl, h4, h5⟩ := h2.tupInv
  obtain ⟨b, ys, rfl, h6, h7⟩ := h3.tupInv
  exact ⟨t, a, b, xs, ys, rfl, h1, h4, h5, h6, h7⟩
theorem Prg.same {K : PySem.W.Frag} {H H' : Hp} {v : V} {ps : List DtT} {fs : List DfT} (h : Prg K H v ps fs) (s : Same H H') : Prg K H' v ps fs := .of (h.da.same s)
theorem Prg.kp {K : PySem.W.Frag} {H H' : Hp} {v : V} {ps : List DtT} {fs : List DfT} {p : Addr} (h : Prg K H v ps fs) (k : Kp p H H') (n : NoTup H p) : Prg K H' v ps fs := .of (h.da.kp k n trivial)
theorem prg_fit {ps : List DtT} {fs : List DfT} {b : Nat} (h : PsS ps) (g : FsS b fs) (hb : b ≤ 40) : Fit 1840000 63 (.tuple [.tuple (ps.map dtD), .tuple (fs.map dfD)]) :=
  (Fit.tup (.cons (h.fit.le (Nat.le_refl _) (by omega)) (.cons (g.fit hb) (FitAll.nil (n := 0))))).le (by omega) (by omega)
/-! ### what the law's drawing promises -/
def spProg (K : PySem.W.Frag) : Sp := fun vs H Q _ => ∃ (p c : Addr) (a b f n : Int), vs = [.ref p, .int a, .int b, .int f, .int n] ∧ 1 ≤ a ∧ a ≤ 7 ∧ 1 ≤ b ∧ b ≤ 7 ∧ 0 ≤ f ∧ f ≤ 5 ∧ 0 ≤ n ∧ n ≤ 17 ∧ Pen H p c ∧
  ∀ (v : V) (ps : List DtT) (fs : List DfT) (H' : Hp), Prg K H' v ps fs → PsS ps → FsS n.toNat fs → fs.length = n.toNat → Pen H' p c → Kp p H H' → Q v H'
def spBeyond (K : PySem.W.Frag) : Sp := fun vs H Q _ => ∃ (p c : Addr), vs = [.ref p] ∧ Pen H p c ∧ ∀ (v : V) (d : PyData) (H' : Hp), Da K All H' v d → Fit 42740 60 d → Pen H' p c → Kp p H H' → Q v H'
def spChanged (K : PySem.W.Frag) : Sp := fun vs H Q _ => ∃ (p c : Addr) (v : V) (ps : List DtT) (fs : List DfT) (b : Nat), vs = [.ref p, v] ∧ Pen H p c ∧ Prg K H v ps fs ∧ PsS ps ∧ FsS b fs ∧ b ≤ 40 ∧
  ∀ (v' : V) (ps' : List DtT) (fs' : List DfT) (H' : Hp), Prg K H' v' ps' fs' → PsS ps' → FsS b fs' → Pen H' p c → Kp p H H' → Q v' H'
end Ow
namespace Ow
open PySem PySem.Spec PyProof.Rows L2
/-! ### the law's own look at a program -/
def lMk : PyData → Bool
  | .tuple [c, f] => isNameD c && isRowD f 0 4
  | _ => false
def lDt : PyData → Bool
  | .tuple [s, ms] => isNameD s && (isRowD ms 1 6 && (itD ms).all lMk)
  | _ => false
theorem lMk_no {d : PyData} (h : isRowD d 2 2 = false) : lMk d = false := by
  unfold lMk
  split
  · simp [isRowD] at h
  · rfl
theorem lDt_no {d : PyData} (h : isRowD d 2 2 = false) : lDt d = false := by
  unfold lDt
  split
  · simp [isRowD] at h
  · rfl
theorem iteND {c A B : Prop} [Decidable c] (hc : c) (h : B) : if (!decide c) = true then A else B := by
  rw [decide_eq_true hc]
  exact h
theorem row_two {ds : List PyData} (h : ¬ ds.length = 2) : isRowD (.tuple ds) 2 2 = false := by
  rw [row_is]
  exact decide_eq_false fun z => h (by omega)
theorem row_three {ds : List PyData} (h : ¬ ds.length = 3) : isRowD (.tuple ds) 3 3 = false := by
  rw [row_is]
  exact decide_eq_false fun z => h (by omega)
theorem int_ne {a b : Nat} (h : ¬ a = b) : ¬ V.int (a : Int) = V.int (b : Int) := fun z => by
  injection z with z
  exact h (Int.ofNat.inj z)
/-- what the law's look lets by: names, makers with fields of any kind -/
abbrev LmT := Str × List PyData
abbrev LdT := Str × List LmT
def lmD (m : LmT) : PyData := .tuple [.str m.1, .tuple m.2]
def ldD (p : LdT) : PyData := .tuple [.str p.1, .tuple (p.2.map lmD)]
structure LmOk (m : LmT) : Prop where
  nm : isNameD (.str m.1) = true
  len : m.2.length ≤ 4
structure LdOk (p : LdT) : Prop where
  nm : isNameD (.str p.1) = true
  one : 1 ≤ p.2.length
  len : p.2.length ≤ 6
  all : ∀ m ∈ p.2, LmOk m
theorem all_of {α : Type} {f : α → PyData} {P : PyData → Bool} {R : α → Prop} (h : ∀ d, P d = true → ∃ x, d = f x ∧ R x) : ∀ {ds : List PyData}, ds.all P = true → ∃ xs : List α, ds = xs.map f ∧ ∀ x ∈ xs, R x
  | [], _ => ⟨[], rfl, fun _ z => nomatch z⟩
  | d :: ds, g => by
    rw [List.all_cons, Bool.and_eq_true] at g
    obtain ⟨x, rfl, hx⟩ := h d g.1
    obtain ⟨xs, rfl, hxs⟩ := all_of h g.2
    refine ⟨x :: xs, rfl, fun y hy => ?_⟩
    rcases List.mem_cons.mp hy with rfl | hy
    · exact hx
    · exact hxs y hy
theorem lm_of (d : PyData) (h : lMk d = true) : ∃ m : LmT, d = lmD m ∧ LmOk m := by
  unfold lMk at h
  split at h
  · rename_i a b
    simp only [Bool.and_eq_true] at h
    obtain ⟨x, rfl⟩ := name_str h.1
    obtain ⟨ns, rfl, _, h4⟩ := row_tup h.2
    exact ⟨(x, ns), rfl, h.1, (by omega : ns.length ≤ 4)⟩
  · cases h
theorem ld_of (d : PyData) (h : lDt d = true) : ∃ p : LdT, d = ldD p ∧ LdOk p := by
  unfold lDt at h
  split at h
  · rename_i a b
    simp only [Bool.and_eq_true] at h
    obtain ⟨h1, h2, h3⟩ := h
    obtain ⟨x, rfl⟩ := name_str h1
    obtain ⟨ns, rfl, h5, h6⟩ := row_tup h2
    obtain ⟨ms, rfl, hm⟩ := all_of lm_of (ds := ns) h3
    rw [List.length_map] at h5 h6
    exact ⟨(x, ms), rfl, h1, (by omega : 1 ≤ ms.length), (by omega : ms.length ≤ 6), hm⟩
  · cases h
def lmsOf (ps : List LdT) : List LmT := ps.flatMap (·.2)
def lfsOf (ps : List LdT) : List PyData := (lmsOf ps).flatMap (·.2)
theorem lms_len {ps : List LdT} (h : ∀ p ∈ ps, LdOk p) : (lmsOf ps).length ≤ ps.length * 6 := flat_len fun p hp => (h p hp).len
theorem lms_ok {ps : List LdT} (h : ∀ p ∈ ps, LdOk p) : ∀ m ∈ lmsOf ps, LmOk m := fun m hm => by
  obtain ⟨p, hp, hm⟩ := List.mem_flatMap.mp hm
  exact (h p hp).all m hm
theorem lfs_len {ps : List LdT} (h : ∀ p ∈ ps, LdOk p) : (lfsOf ps).length ≤ ps.length * 6 * 4 :=
  Nat.le_trans (flat_len fun m hm => (lms_ok h m hm).len) (Nat.mul_le_mul_right _ (lms_len h))
theorem fst_ld (ps : List LdT) : (ps.map ldD).map fstN = ps.map (·.1) := by
  rw [List.map_map]
  rfl
theorem snd_ld (ps : List LdT) : (ps.map ldD).flatMap sndL = (lmsOf ps).map lmD := by
  unfold lmsOf
  rw [List.flatMap_map, List.map_flatMap]
  rfl
theorem snd_lm (ms : List LmT) : (ms.map lmD).flatMap sndL = ms.flatMap (·.2) := by
  rw [List.flatMap_map]
  rfl
theorem fst_lm (ms : List LmT) : (ms.map lmD).map fstN = ms.map (·.1) := by
  rw [List.map_map]
  rfl
theorem memD_name {f : PyData} {zs : List Str} (hz : ∀ z ∈ zs, isNameD (.str z) = true) (h : memD f zs = true) : isNameD f = true := by
  cases f with
  | str x => exact hz x (of_decide_eq_true h)
  | _ => cases h
/-- of such data kinds the program's look asks no more than names that are unlike and fields of them -/
theorem datas_ld {ps : List LdT} (h : ∀ p ∈ ps, LdOk p) (h1 : 1 ≤ ps.length) (h6 : ps.length ≤ 6) :
    datasOk (.tuple (ps.map ldD)) = (unlikeN (ps.map (·.1)) && (unlikeN ((lmsOf ps).map (·.1)) && (lfsOf ps).all fun f => memD f (ps.map (·.1)))) := by
  have e : datasOk (.tuple (ps.map ldD)) = (isRowD (.tuple (ps.map ldD)) 1 6 && ((ps.map ldD).all dataOk && (unlikeN (ps.map (·.1)) && (unlikeN ((lmsOf ps).map (·.1)) && (lfsOf ps).all fun f => memD f (ps.map (·.1)))))) := by
    show (isRowD (.tuple (ps.map ldD)) 1 6 && ((ps.map ldD).all dataOk && (unlikeN ((ps.map ldD).map fstN) && (unlikeN (((ps.map ldD).flatMap sndL).map fstN) && (((ps.map ldD).flatMap sndL).flatMap sndL).all fun f => memD f ((ps.map ldD).map fstN))))) = _
    rw [fst_ld, snd_ld, fst_lm, snd_lm]
    rfl
  rw [e, row_ok (by rw [List.length_map]; omega) (by rw [List.length_map]; omega), Bool.true_and]
  cases hf : (lfsOf ps).all fun f => memD f (ps.map (·.1)) with
  | false => simp
  | true =>
    have : (ps.map ldD).all dataOk = true := by
      rw [List.all_eq_true]
      intro d hd
      obtain ⟨p, hp, rfl⟩ := List.mem_map.mp hd
      have hpo := h p hp
      show (isNameD (.str p.1) && (isRowD (.tuple (p.2.map lmD)) 1 6 && (p.2.map lmD).all makerOk)) = true
      have o1 := hpo.one
      have o2 := hpo.len
      rw [hpo.nm, row_ok (by rw [List.length_map]; omega) (by rw [List.length_map]; omega), Bool.true_and, Bool.true_and, List.all_eq_true]
      intro e he
      obtain ⟨m, hm, rfl⟩ := List.mem_map.mp he
      have hmo := hpo.all m hm
      have o3 := hmo.len
      show (isNameD (.str m.1) && (isRowD (.tuple m.2) 0 4 && m.2.all isNameD)) = true
      rw [hmo.nm, row_ok (by omega) (by omega), Bool.true_and, Bool.true_and, List.all_eq_true]
      intro f hf2
      rw [List.all_eq_true] at hf
      refine memD_name (zs := ps.map (·.1)) (fun z hz => ?_) (hf f (List.mem_flatMap.mpr ⟨m, List.mem_flatMap.mpr ⟨p, hp, hm⟩, hf2⟩))
      obtain ⟨q, hq, rfl⟩ := List.mem_map.mp hz
      exact (h q hq).nm
    rw [this, Bool.true_and]
/-- data kinds that the law's look doesn't let by aren't the program's -/
theorem dt_ld {d : PyData} (h : dataOk d = true) : lDt d = true := by
  obtain ⟨p, rfl, hp⟩ := data_of h
  have o1 := hp.one
  have o2 := hp.len
  show (isNameD (.str p.1) && (isRowD (.tuple (p.2.map mkD)) 1 6 && (p.2.map mkD).all lMk)) = true
  rw [hp.nm, row_ok (by rw [List.length_map]; omega) (by rw [List.length_map]; omega), Bool.true_and, Bool.true_and, List.all_eq_true]
  intro e he
  obtain ⟨m, hm, rfl⟩ := List.mem_map.mp he
  have hmo := hp.all m hm
  have o3 := hmo.len
  show (isNameD (.str m.1) && isRowD (.tuple (m.2.map strD)) 0 4) = true
  rw [hmo.nm, row_ok (by omega) (by rw [List.length_map]; omega)]
  rfl
theorem datas_no {ds : List PyData} (h : ds.all lDt = false) : datasOk (.tuple ds) = false := by
  cases e : ds.all dataOk with
  | false =>
    show (isRowD (.tuple ds) 1 6 && (ds.all dataOk && _)) = false
    rw [e, Bool.false_and, Bool.and_false]
  | true =>
    rw [List.all_eq_true] at e
    have : ds.all lDt = true := List.all_eq_true.mpr fun d hd => dt_ld (e d hd)
    rw [this] at h
    cases h
theorem datas_row {d : PyData} (h : isRowD d 1 6 = false) : datasOk d = false := by
  unfold datasOk
  rw [h]
  rfl
theorem unl_lt (xs : List Str) : decide (((dd [] xs).length : Int) < (xs.length : Int)) = !unlikeN xs := by
  have h := dd_len xs []
  have e : ([] : List Str).length = 0 := rfl
  unfold unlikeN
  by_cases c : (dd [] xs).length = xs.length
  · rw [decide_eq_true c, decide_eq_false (by omega)]
    rfl
  · rw [decide_eq_false c, decide_eq_true (by omega)]
    rfl
end Ow
namespace Ow
open PySem PySem.Spec PyProof.Rows L2
/-! ### one of a row is exchanged -/
def setAt {α : Type} (l : List α) (j : Nat) (x : α) : List α := (l.take j ++ [x]) ++ l.drop (j + 1)
theorem setAt_len {α : Type} {l : List α} {j : Nat} {x : α} (h : j < l.length) : (setAt l j x).length = l.length := by
  unfold setAt
  rw [List.length_append, List.length_append, List.length_take, List.length_drop]
  have : [x].length = 1 := rfl
  omega
theorem setAt_mem {α : Type} {l : List α} {j : Nat} {x y : α} (h : y ∈ setAt l j x) : y = x ∨ y ∈ l := by
  unfold setAt at h
  rcases List.mem_append.mp h with h | h
  · rcases List.mem_append.mp h with h | h
    · exact .inr (List.mem_of_mem_take h)
    · exact .inl (List.mem_singleton.mp h)
  · exact .inr (List.mem_of_mem_drop h)
theorem setAt_map {α β : Type} {f : α → β} {l : List α} {j : Nat} {x : α} : (setAt l j x).map f = setAt (l.map f) j (f x) := by
  unfold setAt
  rw [List.map_append, List.map_append, List.map_take, List.map_drop]
  rfl
theorem da_setAt {K : PySem.W.Frag} {N : Addr → Prop} {H : Hp} {xs : List V} {ds : List PyData} {v : V} {d : PyData} (h : DaAll K N H xs ds) (g : Da K N H v d) (j : Nat) : DaAll K N H ((xs.take j ++ [v]) ++ xs.drop (j + 1)) (setAt ds j d) :=
  ((h.take j).append (.cons g .nil)).append (h.drop (j + 1))
theorem da_all_at {α : Type} {K : PySem.W.Frag} {N : Addr → Prop} {H : Hp} {f : α → PyData} {xs : List V} {ps : List α} (h : DaAll K N H xs (ps.map f)) {i : Nat} (hi : i < ps.length) : ∃ v, xs[i]? = some v ∧ Da K N H v (f ps[i]) := by
  have hl := h.length
  rw [List.length_map] at hl
  have hx : i < xs.length := by omega
  obtain ⟨d, e1, e2⟩ := h.get (List.getElem?_eq_getElem hx)
  rw [List.getElem?_map, List.getElem?_eq_getElem hi] at e1
  cases e1
  exact ⟨_, List.getElem?_eq_getElem hx, e2⟩
end Ow
namespace Ow
open PySem PySem.Spec PyProof.Rows L2
/-- a tuple, some times -/
def rRepA (K : PySem.W.Frag) : R2 := fun x y H Q => ∃ l k xs, x = .ref l ∧ y = .int k ∧ SqT K H l xs ∧ 2 ≤ k ∧ k ≤ 1000 ∧ xs.length ≤ 1000 ∧ ∀ t H', Same H H' → SqT K H' t (List.replicate k.toNat xs).flatten → Q (.ref t) H'
theorem op_repA {X : Cx} : OpR X (binaryOp .Mult) (rRepA X.K) := by
  intro pins s σ H x y v u Q I rx ry h
  obtain ⟨l, k, xs, rfl, rfl, hT, h2, h3, hl, q⟩ := h
  by_cases e : xs = []
  · subst e
    refine op_repU pins s σ H _ _ v u Q I rx ry ⟨l, k, rfl, rfl, hT, by omega, h3, q l H (Same.refl H) ?_⟩
    rw [show (List.replicate k.toNat ([] : List V)).flatten = [] by simp]
    exact hT
  · exact op_repT pins s σ H _ _ v u Q I rx ry ⟨l, k, xs, rfl, rfl, hT, e, h2, h3, hl, fun p hp => q p _ (same_new hp) (SqT.of upd_same)⟩
theorem prog_none : progOk (.tuple [.tuple [], .tuple []]) = false := by
  show (datasOk (.tuple []) && defsOk (.tuple [])) = false
  rw [datas_row (by decide)]
  rfl
end Ow

/-! Exceptions with an own __init__, held as values, made by places or by names. -/
namespace PySem.OwX
open PySem.HandSPX
section
variable {prog : Program} {w : World} {A : Around} {E : Value → Shared → Prop} {R : Result → Shared → Prop} {h : Heap} {g : Array GenState} {d : Drawn} {t : Nat} {os : OsState}
variable {nm q : Str} {C N : Addr} {bs bm bmB : List Value} {hdct : Bool} {sn : List Str} {sub : List Value} {ab : Bool} {col : Option Bool} {dd : Option Addr} {k0 k1 k2 k3 k5 : Option Value} {B newId initId : String} {kw : List (Str × Value)} {rest : List Value} {fI : Addr}
theorem new_checked {M : Model} (F : ExcBaseFacts B newId initId bmB) (hT : ∀ X : String, bm.contains (.type X) = bmB.contains (.type X)) {Q : Unit → Shared → Prop}
    (at_ : h.get? C = some (excClassObj nm q C N bs bm hdct sn sub ab col dd k0 k1 k2 k3 k5 newId)) (fin : Q () ⟨h, g, d, t, os⟩) : wpAny M A (checkBuiltinCall newId ⟨.ref C :: rest, kw⟩) Q E ⟨h, g, d, t, os⟩ := by
  have isB : (Value.ref C :: bm).contains (.type B) = true := by
    rw [List.contains_cons, hT, F.hasB, Bool.or_true]
  have star := F.noStar
  simp only [checkBuiltinCall, F.newKind, F.newSplit, F.newRow]
  repeat (first
    | refine wpAny_loadPart_at at_ ?_
    | (refine wpAny_isSubtype_exc at_ ?_; rw [isB])
    | refine wpAny_staticBase_exc at_ ?_
    | refine wpAny_madeBy_exc at_ ?_
    | simp only [bne_self_eq_false, Bool.false_eq_true, if_false]
    | wp_step)
  exact fin
theorem new_made (F : ExcBaseFacts B newId initId bmB) (hT : ∀ X : String, bm.contains (.type X) = bmB.contains (.type X)) (at_ : h.get? C = some (excClassObj nm q C N bs bm hdct sn sub ab col dd k0 k1 k2 k3 k5 newId)) (short : rest.length ≤ sizeLine)
    (fin : R (.ok (.ret (.ref (h.objs.size + 1)))) ⟨(h.push (W.kdv_tup rest)).push (excO C h.objs.size), g, d, t, os⟩) : codeAny (model prog w) A (.builtin newId ⟨.ref C :: rest, kw⟩) R ⟨h, g, d, t, os⟩ := by
  have ends := F.ends
  have is1 : (Value.ref C :: bm).contains (.type B) = true := by
    rw [List.contains_cons, hT, F.hasB, Bool.or_true]
  have is2 : (Value.ref C :: bm).contains (.type "AttributeError") = false := by
    rw [List.contains_cons, hT, F.noAttr]
    rfl
  have is3 : (Value.ref C :: bm).contains (.type "NameError") = false := by
    rw [List.contains_cons, hT, F.noName]
    rfl
  refine codeAny_builtinAt F.entry ?_
  unfold Builtin.«BaseException.__new__»
  refine wpAt_bind ?_
  show wpAt _ _ _ (stack >>= _) _ _ _
  refine wpAt_bind (wpAt_stack fun p below => wpAt_of_wpAny ?_)
  wp_walk
  refine wpAt_of_wpAny ?_
  rw [F.owner]
  repeat (first
    | with_reducible refine wpAny_madeHere_exc F.canon at_ ?_
    | with_reducible refine wpAny_loadPart_at at_ ?_
    | (with_reducible refine wpAny_isSubtype_exc at_ ?_; first | rw [is1] | rw [is2] | rw [is3])
    | wp_step)
  show R _ _
  rw [Heap.size_push]
  exact fin
theorem type_called (F : ExcBaseFacts B newId initId bmB) (hT : ∀ X : String, bm.contains (.type X) = bmB.contains (.type X)) (at_ : h.get? C = some (excClassObj nm q C N bs bm hdct sn sub ab col dd k0 k1 k2 k3 k5 newId))
    (ini : W.Looks (model prog w) h (typeLookup (.ref C) "__init__") (some (.ref fI))) (bnd : ∀ self, W.Looks (model prog w) h (bindSpecial (.ref fI) self) (.ref fI, [self])) (short : rest.length ≤ sizeLine)
    {Q : Fin → Shared → Prop} (fin : codeAny (model prog w) A (.call (.ref fI) ⟨.ref (h.objs.size + 1) :: rest, kw⟩)
      (fun r z => match r with | .ok (.ret v) => v = .none ∧ Q (.done (.ret (.ref (h.objs.size + 1)))) z | .ok _ => False | .error e => E e z) ⟨(h.push (W.kdv_tup rest)).push (excO C h.objs.size), g, d, t, os⟩) :
    wpAny (model prog w) A (Builtin.«type.__call__» ⟨.ref C :: rest, kw⟩) Q E ⟨h, g, d, t, os⟩ := by
  repeat (first
    | with_reducible refine wpAny_loadPart_at at_ ?_
    | with_reducible refine wpAny_madeBy_exc at_ ?_
    | wp_step)
  refine codeAny_call_builtin_code (Code.quiet_builtin _ F.quiet) (new_checked F hT at_ ?_)
  refine new_made F hT at_ short ?_
  show wpAny _ _ _ _ _ _
  have keep : ∀ b o, h.get? b = some o → ((h.push (W.kdv_tup rest)).push (excO C h.objs.size)).get? b = some o := fun b o e => Heap.get?_push_of_some _ (Heap.get?_push_of_some _ e)
  have at1 := keep _ _ at_
  have got : ((h.push (W.kdv_tup rest)).push (excO C h.objs.size)).get? (h.objs.size + 1) = some (excO C h.objs.size) := by heap_get
  have own : (Value.ref C :: bm).contains (.ref C) = true := by simp
  unfold isInstance
  repeat (first
    | with_reducible refine wpAny_loadPart_at got ?_
    | (with_reducible refine wpAny_isSubtype_exc at1 ?_; rw [own])
    | wp_step)
  show wpAny _ _ (typeLookup (.ref C) _) _ _ _
  refine (ini.keeps keep).at ?_
  refine wpAny_holding (wpAny_bind (((bnd (.ref (h.objs.size + 1))).keeps keep).at ?_))
  refine wpAny_bind (wpAny_call (codeAny_mono fin fun r s' z => ?_))
  rcases r with e | (v | _ | _ | _) <;> first | exact z | exact z.elim | skip
  obtain ⟨rfl, z⟩ := z
  first
    | exact wpAny_pure (wpAny_pure z)
    | (wp_walk; exact z)
theorem class_called (F : ExcBaseFacts B newId initId bmB) (hT : ∀ X : String, bm.contains (.type X) = bmB.contains (.type X)) (at_ : h.get? C = some (excClassObj nm q C N bs bm hdct sn sub ab col dd k0 k1 k2 k3 k5 newId))
    (ini : W.Looks (model prog w) h (typeLookup (.ref C) "__init__") (some (.ref fI))) (bnd : ∀ self, W.Looks (model prog w) h (bindSpecial (.ref fI) self) (.ref fI, [self])) (short : rest.length ≤ sizeLine)
    (fin : codeAny (model prog w) (A.under (.builtin "type.__call__" ⟨.ref C :: rest, kw⟩)) (.call (.ref fI) ⟨.ref (h.objs.size + 1) :: rest, kw⟩) (W.InitBack (h.objs.size + 1) R) ⟨(h.push (W.kdv_tup rest)).push (excO C h.objs.size), g, d, t, os⟩) :
    codeAny (model prog w) A (.call (.ref C) ⟨rest, kw⟩) R ⟨h, g, d, t, os⟩ := by
  have u1 := tc_lookup
  have u2 := tc_bind (.ref C)
  have ty : (⟨h, g, d, t, os⟩ : Shared).TypeIs (.ref C) "type" := ⟨_, at_, rfl⟩
  refine codeAny_of_tree ?_
  show wpAny _ _ (callAny (.ref C) _) _ _ _
  repeat (any_goals (first
    | assumption
    | with_reducible refine wpAny_loadPart_at at_ ?_
    | wp_step))
  refine ⟨rfl, ?_⟩
  refine codeAny_call_builtin_at (Code.quiet_builtin _ (by decide +kernel)) entry_typeCall (wpAny_check_type_call_sub at_ (type_called F hT at_ ini bnd short ?_))
  refine codeAny_mono fin fun r z q => ?_
  rcases r with e | (v | _ | _ | _) <;> exact q
end
end PySem.OwX

namespace Ow
open PySem PySem.Spec PyProof.Rows L2
section
variable {X : Cx} {k : Nat} {fI C : Addr} {fd : FuncData} {ps ks : List Str} {sp : Sp} {x : Str} {p pos : Pos} {e : Expr} {es : List Expr} {kws : List Keyword} {ta tk : TA} {te : TE} {f : Str}
/-- what a class with an own __init__ says of itself -/
structure OwnExc (K : PySem.W.Frag) (C fI : Addr) : Prop where
  o : OexC K C
  i : PySem.W.findIn K (.ref C) "__init__" = some (some (.ref fI))
  t : PySem.W.typeIn K (.ref fI) = some (.type "function")
theorem run_oex {pins : List (Addr × Obj)} {σ : L2.St} {H : Hp} {s : Shared} {Q : VK} {us ws us' : List Value} {vs' : List V} (T : OwnExc X.K C fI) (F : FnOk X.prog X.w X.K X.mg X.base CX0 k fI fd ps sp) (hr : Room (k + 1) X.A)
    (bind : ∀ (z : Shared) (self : Value), BindsTo z fd ⟨self :: us, ks.zip ws⟩ (ps.zip (self :: us'))) (rel : Vals vs' us') (I : Inv X pins σ H s) (short : us.length ≤ sizeLine)
    (h : ∀ a, H a = none → sp (.ref a :: vs') (upd H a (exo a C none)) (fun v H2 => v = .non ∧ Q (.ref a) H2) E0) : wpAny (model X.prog X.w) X.A (call (.ref C) us (ks.zip ws)) (EP X pins σ Q) X.xe s := by
  obtain ⟨nm, q, N, bs, bm, sn, sub, ab, col, dd, k0, k1, k2, k3, k5, hC, hbm⟩ := T.o.cls
  obtain ⟨hp, g, dr, tk, os⟩ := s
  have up : hp.objs.size ≤ hp.objs.size + 1 := Nat.le_succ _
  have hq := h (hp.objs.size + 1) (I.hok.fresh up)
  have keep : ∀ b o, hp.get? b = some o → ((hp.push (PySem.W.kdv_tup us)).push (PySem.HandSPX.excO C hp.objs.size)).get? b = some o := fun b o e => Heap.get?_push_of_some _ (Heap.get?_push_of_some _ e)
  have got : ((hp.push (PySem.W.kdv_tup us)).push (PySem.HandSPX.excO C hp.objs.size)).get? (hp.objs.size + 1) = some (PySem.HandSPX.excO C hp.objs.size) := by heap_get
  have I2 : Inv X pins σ (upd H (hp.objs.size + 1) (exo (hp.objs.size + 1) C none)) ⟨(hp.push (PySem.W.kdv_tup us)).push (PySem.HandSPX.excO C hp.objs.size), g, dr, tk, os⟩ := I.laid (t' := tk) keep up (exo_ok got)
  have r2 : Vals (V.ref (hp.objs.size + 1) :: vs') (Value.ref (hp.objs.size + 1) :: us') := .cons rfl rel
  refine wpAny_call (PySem.OwX.class_called PySem.F.excBase_ValueError (fun Y => PySem.HandSPX.refsVE_contains Y bm hbm) (I.kIn _ _ hC) (PySem.W.looks_findIn I.kIn T.i) (fun self => PySem.W.bind_fn I.kIn self T.t) short
    (codeAny_mono (F.run _ X.stack _ _ ⟨Value.ref (hp.objs.size + 1) :: us, ks.zip ws⟩ (Value.ref (hp.objs.size + 1) :: us') _ _ E0 (hr.make C us (ks.zip ws)) (I2.env0.make C us (ks.zip ws)) (bind _ _) r2 hq) fun r s' z => ?_))
  match r, z with
  | .ok (.ret u), z =>
    obtain ⟨v, H', I3, rv, rfl, q3⟩ := I2.after z
    exact ⟨rv, ⟨V.ref (hp.objs.size + 1), H', I3, rfl, q3⟩⟩
  | .ok .next, z => exact z.elim
  | .ok .brk, z => exact z.elim
  | .ok .cont, z => exact z.elim
  | .error _, z => exact z.elim
/-- C(e, ..), by places -/
def tOexV (C : Addr) (n : Nat) (sp : Sp) (t : TA) : TE := fun σ H Q => t σ H fun vs H1 => vs.length = n ∧ n ≤ 1000 ∧ ∀ a, H1 a = none → sp (.ref a :: vs) (upd H1 a (exo a C none)) (fun v H2 => v = .non ∧ Q (.ref a) H2) E0
theorem pe_oexV {n : Nat} (T : OwnExc X.K C fI) (F : FnOk X.prog X.w X.K X.mg X.base CX0 k fI fd ps sp) (hr : Room (k + 1) X.A) (bind : ∀ (z : Shared) (self : Value) (us : List Value), us.length = n → BindsTo z fd ⟨self :: us, []⟩ (ps.zip (self :: us)))
    (hg : Gl X x) (hm : X.mg x = some (.ref C)) (ha : PA X (e :: es) ta) (hdb : (x == ("__debug__" : Str)) = false := by decide) (he : starEach (e :: es) X.env = (false, eval e X.env) :: starEach es X.env := by rfl)
    (hpl : (backTo pos (starEach es X.env)).any (·.1) = false := by rfl) : PE X (.Call (.Name x p) (e :: es) [] pos) (tOexV C n sp ta) := by
  refine ⟨fun pins s σ H Q I h => ?_⟩
  refine wpAny_Call_Name_kw (ld_glob I hg hm ?_ hdb)
  refine PySem.W.callWith_K (h₀ := X.base) I.ok.mod.kin T.o.kC (thn (ha.run pos pins s σ H _ I h) fun us s1 q => ?_) he hpl
  obtain ⟨vs, H1, I1, r1, l1, l2, q1⟩ := q
  have l3 := r1.length
  refine ⟨I1.kIn, ?_⟩
  exact run_oex (ks := []) (ws := []) T F hr (fun z self => bind z self us (by omega)) r1 I1 (show us.length ≤ sizeLine by rw [sizeLine_eq]; omega) q1
/-- C(k = v, ..), by names alone -/
def tOexK (C : Addr) (m : Nat) (sp : Sp) (gV : List V → List V) (tk : TA) : TE := fun σ H Q => tk σ H fun zs H1 => zs.length = m ∧ ∀ a, H1 a = none → sp (.ref a :: gV zs) (upd H1 a (exo a C none)) (fun v H2 => v = .non ∧ Q (.ref a) H2) E0
theorem pe_oexK {m : Nat} {g : List Value → List Value} {gV : List V → List V} (T : OwnExc X.K C fI) (F : FnOk X.prog X.w X.K X.mg X.base CX0 k fI fd ps sp) (hr : Room (k + 1) X.A) (bind : ∀ (z : Shared) (self : Value) (ws : List Value), ws.length = m → BindsTo z fd ⟨[self], ks.zip ws⟩ (ps.zip (self :: g ws)))
    (rel : ∀ {zs : List V} {ws : List Value}, Vals zs ws → Vals (gV zs) (g ws)) (hg : Gl X x) (hm : X.mg x = some (.ref C)) (hkw : PK X kws tk)
    (hall : (backToKw pos (keywordEach kws X.env)).all (·.1.isSome) = true := by rfl) (hks : (backToKw pos (keywordEach kws X.env)).filterMap (·.1) = ks := by rfl) (hdb : (x == ("__debug__" : Str)) = false := by decide)
    (hpl : ((backTo pos (starEach [] X.env)).any (·.1) || (backToKw pos (keywordEach kws X.env)).any (·.1.isNone)) = false := by rfl) : PE X (.Call (.Name x p) [] kws pos) (tOexK C m sp gV tk) := by
  refine ⟨fun pins s σ H Q I h => ?_⟩
  refine wpAny_Call_Name_kw (ld_glob I hg hm ?_ hdb)
  refine PySem.W.callWith_KW0 (h₀ := X.base) I.ok.mod.kin T.o.kC hall ?_ hpl
  refine thn (hkw.run pos pins s σ H _ I h) fun ws s2 q => ?_
  obtain ⟨zs, H2, I2, rz, l2, q2⟩ := q
  have l3 := rz.length
  refine ⟨I2.kIn, ?_⟩
  rw [hks]
  exact run_oex (us := []) T F hr (fun z self => bind z self ws (by omega)) (rel rz) I2 (Nat.zero_le _) q2
/-- such an exception, whole: its class and its fields -/
def ExAt (H : Hp) (a C : Addr) (fs : List (Str × V)) : Prop := ∃ d, H a = some (exo a C (some d)) ∧ H d = some (exd d fs)
/-- a field of it -/
def tXof (K : PySem.W.Frag) (f : Str) (te : TE) : TE := fun σ H Q => te σ H fun x H1 => ∃ (a C : Addr) (fs : List (Str × V)) (v : V), x = .ref a ∧ ExAt H1 a C fs ∧ XfC K C ∧ PySem.W.findIn K (.ref C) f = some none ∧ fs.lookup f = some v ∧ Q v H1
theorem pe_xof {pos : Pos} (he : PE X e te) (hb : attributeBase e f X.env (eval e X.env) = eval e X.env := by rfl) : PE X (.Attribute e f pos) (tXof X.K f te) := by
  refine ⟨fun pins s σ H Q I h => ?_⟩
  refine attr_of hb (thn (he.run pins s σ H _ I h) fun u s1 q => ?_)
  obtain ⟨x, H1, I1, rx, a, C, fs, v, rfl, ⟨d, ea, ed⟩, T, no, l, q⟩ := q
  obtain rfl : u = Value.ref a := rx
  obtain ⟨t1, oa⟩ := exo_at I1.hok ea
  obtain ⟨mA, hns, hr⟩ := exd_at I1.hok ed
  obtain ⟨od, ho, hl⟩ := lookIn_ns hns
  obtain ⟨u, hu, ru⟩ := RelO.some_of (v := v) (o := mA f) (by rw [← l]; exact hr f)
  have J : PySem.W.InstAt s1.heap a _ C (some od) := ⟨oa, rfl, rfl, ho⟩
  exact HandSPX.exc_get I1.kIn J T.ga T.gg T.exC (PySem.W.findObj_own T.hdC no rfl (by rw [hl, hu])) (handed_of ru) ⟨v, H1, I1.tok _, ru, q⟩
/-- an exception of the class C, of either sort -/
def IsExc (H : Hp) (a C : Addr) : Prop := H a = some (ExO (.ref C) a) ∨ ∃ fs, ExAt H a C fs
def rIsX (K : PySem.W.Frag) : List V → Hp → VK → Prop := fun xs H Q => ∃ (a C : Addr) (c : V) (cv : Value) (b : Bool), xs = [.ref a, c] ∧ IsExc H a C ∧ ExcC K C ∧ (∀ u, RelV c u → u = cv) ∧ PySem.W.kitOne K (.ref C) cv = some b ∧ Q (.bl b) H
theorem call_isX : CallR X (.builtin "isinstance") (rIsX X.K) := by
  intro pins s σ H xs us Q I r h
  obtain ⟨a, C, c, cv, b, rfl, ha, T, hcv, e, q⟩ := h
  obtain ⟨u1, u2, rfl, r1, r2⟩ := vals2 r
  obtain rfl : u1 = Value.ref a := r1
  obtain rfl := hcv _ r2
  have some_ : (PySem.W.clsIn X.K C).isSome = true := by
    obtain ⟨cd, hc, _⟩ := PySem.W.any_some T.hd
    rw [hc]
    rfl
  rcases ha with ha | ⟨fs, d, ea, ed⟩
  · have x : ObjOk X.prog X.w H s.heap a (ExO (.ref C) a) := I.hok a _ ha
    obtain ⟨⟨⟨oc, od, oda, osl⟩, vs, e1, ⟨z1, z2⟩, e2, _⟩, _⟩ := x
    dsimp only at z1 z2 e2
    subst z1 z2 e2
    have J : PySem.W.InstAt s.heap a _ C none := ⟨e1, rfl, rfl, trivial⟩
    exact PySem.W.kia_one (PySem.W.kitx_exc some_ T.hg T.hk T.hs T.ha T.hn T.ht T.hm) I.kIn J e (fun z => nomatch z) fun tk => ⟨.bl b, H, I.kept (t' := tk) fun _ _ z => z, rfl, q⟩
  · obtain ⟨t1, oa⟩ := exo_at I.hok ea
    obtain ⟨mA, hns, hr⟩ := exd_at I.hok ed
    obtain ⟨od, ho, hl⟩ := lookIn_ns hns
    have J : PySem.W.InstAt s.heap a _ C (some od) := ⟨oa, rfl, rfl, ho⟩
    exact PySem.W.kia_one (PySem.W.kitx_exc some_ T.hg T.hk T.hs T.ha T.hn T.ht T.hm) I.kIn J e (fun z => nomatch z) fun tk => ⟨.bl b, H, I.kept (t' := tk) fun _ _ z => z, rfl, q⟩
end
end Ow

namespace Ow
open PySem PySem.Spec PyProof.Rows L2
theorem at_nat {α : Type} {l : List α} {i : Nat} {x : α} (h : l[i]? = some x) : atI l (0 + (i : Int)) = some x := by
  have hi : i < l.length := (List.getElem?_eq_some_iff.mp h).1
  unfold atI ixN
  rw [show (0 + (i : Int)) = (i : Int) by omega, if_pos (by omega), if_pos (by omega)]
  exact h
theorem at_back {l r : List V} {x : V} {i : Int} {j : Nat} (e : ixN (l.length + r.length) i = some (l.length + j)) (h : r[j]? = some x) : atI (l ++ r) i = some x := by
  unfold atI
  rw [List.length_append, e]
  show (l ++ r)[l.length + j]? = some x
  rw [List.getElem?_append_right (Nat.le_add_right _ _), Nat.add_sub_cancel_left]
  exact h
theorem at_last2 (l : List V) (x y : V) : atI (l ++ [x, y]) (-2) = some x := by
  refine at_back (j := 0) ?_ rfl
  show ixN (l.length + 2) (-2) = _
  unfold ixN
  rw [if_neg (by omega), if_pos (by omega)]
  congr 1
  omega
theorem at_last1 (l : List V) (x y : V) : atI (l ++ [x, y]) (-1) = some y := by
  refine at_back (j := 1) ?_ rfl
  show ixN (l.length + 2) (-1) = _
  unfold ixN
  rw [if_neg (by omega), if_pos (by omega)]
  congr 1
  omega
theorem shaped_blsAll : ∀ bs : List Bool, PyData.canLayAll0 (bs.map PyData.bool) = true ∧ PyData.depthAll (bs.map PyData.bool) ≤ 1
  | [] => by simp [PyData.canLayAll0, PyData.depthAll]
  | c :: cs => by
    obtain ⟨h1, h2⟩ := shaped_blsAll cs
    refine ⟨?_, ?_⟩
    · simp only [List.map_cons, PyData.canLayAll0, PyData.canLay0, h1, Bool.and_self]
    · simp only [List.map_cons, PyData.depthAll, PyData.depth]
      omega
theorem shaped_bls (bs : List Bool) : SeqAt.shaped (.list (bs.map PyData.bool)) = true := by
  obtain ⟨h1, h2⟩ := shaped_blsAll bs
  have h3 : (PyData.list (bs.map PyData.bool)).depth ≤ 64 := by
    simp only [PyData.depth]
    omega
  unfold SeqAt.shaped
  rw [decide_eq_true h3, Bool.and_true]
  simp only [PyData.canLay0]
  exact h1
theorem eqv_bls : ∀ bs : List Bool, PyData.eqvAll (bs.map PyData.bool) (bs.map PyData.bool) = true
  | [] => by simp [PyData.eqvAll]
  | c :: cs => by
    simp [PyData.eqvAll, PyData.eqv, eqv_bls cs]
    try cases c <;> rfl
theorem eqv_bl (bs : List Bool) : PyData.eqv (.list (bs.map PyData.bool)) (.list (bs.map PyData.bool)) = true := by
  simp [PyData.eqv, eqv_bls bs]
theorem dp_bls (K : PySem.W.Frag) (H : Hp) : ∀ cs : List Bool, DpAll K H (cs.map V.bl) (cs.map PyData.bool)
  | [] => .nil
  | c :: cs => .cons (.bl c) (dp_bls K H cs)
end Ow

namespace Ow
open PySem PySem.Spec PyProof.Rows L2
def top (i : Nat) : Stmt := PySem.Challenge.pw_oncewire_k01_refusals_apart.main.body.getD i (.Pass ⟨0, 0, 0, 0⟩)
abbrev s_NoText_init : Stmt := inClass (top 2) 0
abbrev sl_NoText_init : List Str := ["self", "at"]
theorem sc_NoText_init : FnScope sl_NoText_init ["self", "at"] (defScope s_NoText_init) := ⟨rfl, rfl, rfl, by decide +kernel, rfl, by decide +kernel, by decide +kernel⟩
abbrev s_NoKind_init : Stmt := inClass (top 3) 0
abbrev sl_NoKind_init : List Str := ["self", "name", "at", "why"]
theorem sc_NoKind_init : FnScope sl_NoKind_init ["self", "name", "at", "why"] (defScope s_NoKind_init) := ⟨rfl, rfl, rfl, by decide +kernel, rfl, by decide +kernel, by decide +kernel⟩
abbrev s_law_pen : Stmt := top 24
abbrev sl_law_pen : List Str := ["_law_script"]
theorem sc_law_pen : FnScope sl_law_pen ["_law_script"] (defScope s_law_pen) := ⟨rfl, rfl, rfl, by decide +kernel, rfl, by decide +kernel, by decide +kernel⟩
abbrev s_law_fresh : Stmt := top 25
abbrev sl_law_fresh : List Str := ["_law_pen_here", "_law_spot", "_law_cell", "_law_one", "_law_two", "_law_three"]
theorem sc_law_fresh : FnScope sl_law_fresh ["_law_pen_here"] (defScope s_law_fresh) := ⟨rfl, rfl, rfl, by decide +kernel, rfl, by decide +kernel, by decide +kernel⟩
abbrev s_law_draw : Stmt := top 26
abbrev sl_law_draw : List Str := ["_law_pen_here", "_law_below", "_law_found"]
theorem sc_law_draw : FnScope sl_law_draw ["_law_pen_here", "_law_below"] (defScope s_law_draw) := ⟨rfl, rfl, rfl, by decide +kernel, rfl, by decide +kernel, by decide +kernel⟩
abbrev s_law_name : Stmt := top 27
abbrev sl_law_name : List Str := ["_law_pen_here", "_law_gone", "_law_letters", "_law_found", "_law_turn", "_law_front", "_law_k"]
theorem sc_law_name : FnScope sl_law_name ["_law_pen_here", "_law_gone"] (defScope s_law_name) := ⟨rfl, rfl, rfl, by decide +kernel, rfl, by decide +kernel, by decide +kernel⟩
abbrev s_law_made : Stmt := top 28
abbrev sl_law_made : List Str := ["_law_text", "_law_found"]
theorem sc_law_made : FnScope sl_law_made ["_law_text"] (defScope s_law_made) := ⟨rfl, rfl, rfl, by decide +kernel, rfl, by decide +kernel, by decide +kernel⟩
abbrev s_law_looks : Stmt := top 29
abbrev sl_law_looks : List Str := ["_law_one", "_law_found"]
theorem sc_law_looks : FnScope sl_law_looks ["_law_one"] (defScope s_law_looks) := ⟨rfl, rfl, rfl, by decide +kernel, rfl, by decide +kernel, by decide +kernel⟩
abbrev s_law : Stmt := top 30
abbrev sl_law : List Str := ["_law_script", "_law_pen_here", "_law_spot", "_law_word", "_law_who", "_law_some", "_law_early", "_law_late", "_law_k", "_law_j"]
theorem sc_law : FnScope sl_law ["_law_script"] (defScope s_law) := ⟨rfl, rfl, rfl, by decide +kernel, rfl, by decide +kernel, by decide +kernel⟩
section
variable {P : Program} {w : World} {K : PySem.W.Frag} {mg : Str → Option Value} {base : Heap}
theorem ok_pen (D : DefAt K mg "_law_pen" s_law_pen ["_law_script"]) (T : Bl mg) : CallOk P w K mg base 1 "_law_pen" ["_law_script"] (spPen K) := by
  refine D.ok sc_law_pen (fun vs H Q E h => ?_) (fun f cdv A outer s H vs Q E hr h => ?_)
  · obtain ⟨a, ns, rfl, _⟩ := h
    rfl
  · obtain ⟨a, ns, rfl, hS, hl, k⟩ := h
    refine ⟨_, (pss_one (ps_ret (pe_lst (pa_cons (pe_callTy call_list_of (by rfl) T.list_ (by decide +kernel) (pa_cons (pe_slice sl_list (pv 0) po_none (po_some pe_int)) pa_nil)) (pa_cons pe_int (pa_cons pe_int pa_nil)))))), ?_⟩
    refine ⟨_, rfl, 60, rfl, a, ns.map V.int, rfl, hS, fun q hq => ?_⟩
    refine ⟨q, _, rfl, .inl (SqL.of upd_same), fun r hr2 => ?_⟩
    refine ⟨le_line (by show 3 ≤ 16000000; decide), fun p hp => ?_⟩
    have n1 : r ≠ p := ne_of_none upd_same hp
    have s1 : Same H (upd (upd (upd H q (.lst (cutV (ns.map V.int) none (some 60)))) r (.lst (cutV (ns.map V.int) none (some 60)))) p (.lst [.ref r, .int 0, .int 0])) := Same.lay (Same.lay (same_new hq) hr2) hp
    refine k p r _ ⟨⟨0, 0, upd_same⟩, ns.take (min 60 ns.length), ?_, ?_⟩ s1 ?_ ?_
    · rw [upd_ne n1, upd_same, show ((60 : Int)) = ((60 : Nat) : Int) from rfl, cut_front]
    · rw [List.length_take]
      omega
    · exact (Same.lay (same_new hq) hr2).free hp
    · exact (same_new hq).free hr2
theorem ok_fresh (D : DefAt K mg "_law_fresh" s_law_fresh ["_law_pen_here"]) (T : Bl mg) : CallOk P w K mg base 1 "_law_fresh" ["_law_pen_here"] spFresh := by
  refine D.ok sc_law_fresh (fun vs H Q E h => ?_) (fun f cdv A outer s H vs Q E hr h => ?_)
  · obtain ⟨p, c, rfl, _⟩ := h
    rfl
  · obtain ⟨p, c, rfl, hP, k⟩ := h
    refine ⟨_, (pss_cons (ps_set (i := 1) sc_law_fresh.nd rfl (Or.inl rfl) (pe_ix ix_list (pv 0) pe_int (fun _ _ => rfl)))
        (pss_cons (ps_asg (pe_op opAdd (pv 1) pe_int) (pg_sub (pv 0) pe_int set_list))
        (pss_cons (ps_set (i := 2) sc_law_fresh.nd rfl (Or.inl rfl) (pe_op op_mul (pv 1) pe_int))
        (Evl.pss_cut (ps_if (pt_cmpR (op_neD hr.units) (pe_ix ix_list (pv 0) pe_int (fun _ _ => rfl)) (pe_lst pa_nil) (nomark _)) (pss_one (ps_set (i := 2) sc_law_fresh.nd rfl (Or.inl rfl) (pe_ix ix_list (pe_ix ix_list (pv 0) pe_int (fun _ _ => rfl)) (pe_op op_mod (pv 1) (pe_callB call_len_seq (by rfl) T.len_ (by decide +kernel) (pa_cons (pe_ix ix_list (pv 0) pe_int (fun _ _ => rfl)) pa_nil))) (fun _ _ => rfl)))) pss_nil)
        (pss_cons (ps_if (PW.pt (pw_and (pt_cmpR op_lt (pv 1) (pe_callB call_len_seq (by rfl) T.len_ (by decide +kernel) (pa_cons (pe_ix ix_list (pv 0) pe_int (fun _ _ => rfl)) pa_nil)) (nomark _)) (pw_and1 (pt_cmpR op_ge (pv 2) (pe_op op_pow pe_int pe_int) (nomark _))))) (pss_one (ps_ret (pv 2))) pss_nil)
        (pss_cons (ps_set (i := 3) sc_law_fresh.nd rfl (Or.inl rfl) (pe_op op_mod (pe_op opAdd (pe_op opAdd (pe_op op_mod (pv 2) pe_int) (pe_op op_mul (pv 1) pe_int)) pe_int) pe_int))
        (pss_cons (ps_set (i := 4) sc_law_fresh.nd rfl (Or.inl rfl) (pe_op op_mod (pe_op opAdd (pe_op opAdd (pe_op op_mul (pv 3) (pv 3)) (pe_op op_mul (pv 1) pe_int)) pe_int) pe_int))
        (pss_cons (ps_set (i := 5) sc_law_fresh.nd rfl (Or.inl rfl) (pe_op op_mod (pe_op opAdd (pe_op op_mul (pv 4) (pv 4)) (pe_op op_mul (pv 3) (pe_op opAdd (pv 1) pe_int))) pe_int))
        (pss_one (ps_ret (pe_op opAdd (pe_op op_mul (pe_op opAdd (pe_op op_mul (pv 5) pe_int) (pv 4)) pe_int) (pv 3)))))))))))), ?_⟩
    obtain ⟨⟨z, r, h1⟩, _⟩ := id hP
    -- spot, and the next one's
    refine ⟨_, rfl, p, _, 1, _, rfl, rfl, SqL.of h1, rfl, ?_⟩
    refine ⟨_, rfl, .inl ⟨_, _, rfl, rfl, ?_⟩⟩
    refine ⟨_, rfl, p, _, 1, 1, rfl, rfl, h1, rfl, ?_⟩
    have hP1 : Pen (upd H p (.lst [.ref c, .int (z + 1), .int r])) p c := hP.put
    have k1 : Kp p H (upd H p (.lst [.ref c, .int (z + 1), .int r])) := Kp.self
    show tSeq _ _ _ _ (upd H p (.lst [.ref c, .int (z + 1), .int r]))
    generalize upd H p (.lst [.ref c, .int (z + 1), .int r]) = H1 at hP1 k1
    obtain ⟨⟨z1, r1, h1'⟩, cs, h2, hl⟩ := id hP1
    refine ⟨_, rfl, _, _, rfl, rfl, .inr ⟨by decide, by decide⟩, ?_⟩
    -- the cell, where there are any
    refine ⟨fun σ H2 => ∃ v : Int, σ = [some (.ref p), some (.int z), some (.int v), none, none, none] ∧ Pen H2 p c ∧ Kp p H H2, ?_, ?_⟩
    · refine ⟨_, rfl, p, _, 0, _, rfl, rfl, SqL.of h1', rfl, Nat.zero_le _, fun q hq => ?_⟩
      have h1q : upd H1 q (.lst []) p = some (.lst [.ref c, .int z1, .int r1]) := by
        rw [upd_ne (hP1.neP hq).symm]
        exact h1'
      have h2q : upd H1 q (.lst []) c = some (.lst (cs.map V.int)) := by
        rw [upd_ne (hP1.neC hq).symm]
        exact h2
      have hPq : Pen (upd H1 q (.lst [])) p c := hP1.new hq
      have kq : Kp p H (upd H1 q (.lst [])) := k1.lay hq
      refine ⟨_, _, .lst (SqL.of h2q) (dp_ints _ _ cs), .lst (SqL.of upd_same) .nil, shaped_ints cs, shaped_nil, _, rfl, ?_⟩
      rw [eqv_nil]
      cases he : cs with
      | nil =>
        refine iteF ?_
        exact ⟨_, rfl, hPq, kq⟩
      | cons a t =>
        refine iteT ?_
        obtain ⟨v, hv⟩ := at_mod cs z (by rw [he]; exact Nat.succ_pos _)
        refine ⟨_, rfl, p, _, 0, _, rfl, rfl, SqL.of h1q, rfl, _, rfl, _, rfl, p, _, 0, _, rfl, rfl, SqL.of h1q, rfl, c, _, rfl, .inl (SqL.of h2q), _, _, rfl, rfl, ?_, c, cs.map V.int, _, .int v, rfl, rfl, SqL.of h2q, ?_, ?_⟩
        · show (0 : Int) < ((cs.map V.int).length : Int)
          rw [he, List.length_map, List.length_cons]
          omega
        · rw [List.length_map]
          exact hv
        · exact ⟨v, rfl, hPq, kq⟩
    · rintro σ H2 ⟨v, rfl, hP2, k2⟩
      obtain ⟨⟨z2, r2, h3⟩, cs2, h4, hl2⟩ := id hP2
      -- a great cell
      refine ⟨_, rfl, _, rfl, p, _, 0, _, rfl, rfl, SqL.of h3, rfl, c, _, rfl, .inl (SqL.of h4), _, _, rfl, rfl, _, rfl, ?_⟩
      refine ite2 (fun _ => ?a) (fun _ => iteF ?b)
      case' a =>
        refine ⟨_, rfl, _, _, rfl, rfl, ⟨by decide, by decide, by decide⟩, _, _, rfl, rfl, _, rfl, ?_⟩
        refine ite2 (fun _ => ⟨_, rfl, k _ _ hP2 k2⟩) (fun _ => ?_)
      all_goals
        refine ⟨_, rfl, _, _, rfl, rfl, (by show (0 : Int) < 2147483629; decide), _, rfl, _, _, rfl, rfl, .inr ⟨by decide, by decide⟩, .inl ⟨_, _, rfl, rfl, .inl ⟨_, _, rfl, rfl, _, _, rfl, rfl, (by show (0 : Int) < 2147483629; decide), ?_⟩⟩⟩
        have b1 := Int.emod_nonneg (v % 2147483629 + z * 40503 + 17) (show (2147483629 : Int) ≠ 0 by decide)
        have b2 := Int.emod_lt_of_pos (v % 2147483629 + z * 40503 + 17) (show (0 : Int) < 2147483629 by decide)
        generalize (v % 2147483629 + z * 40503 + 17) % 2147483629 = one at b1 b2 ⊢
        refine ⟨_, rfl, _, rfl, _, _, rfl, rfl, .inl ⟨by omega, by omega⟩, _, rfl, _, _, rfl, rfl, .inr ⟨by decide, by decide⟩, .inl ⟨_, _, rfl, rfl, .inl ⟨_, _, rfl, rfl, _, _, rfl, rfl, (by show (0 : Int) < 2147483587; decide), ?_⟩⟩⟩
        have b3 := Int.emod_nonneg (one * one + z * 69069 + 3) (show (2147483587 : Int) ≠ 0 by decide)
        have b4 := Int.emod_lt_of_pos (one * one + z * 69069 + 3) (show (0 : Int) < 2147483587 by decide)
        generalize (one * one + z * 69069 + 3) % 2147483587 = two at b3 b4 ⊢
        refine ⟨_, rfl, _, rfl, _, _, rfl, rfl, .inl ⟨by omega, by omega⟩, _, rfl, _, rfl, .inl ⟨_, _, rfl, rfl, _, _, rfl, rfl, .inl ⟨by omega, by omega⟩, .inl ⟨_, _, rfl, rfl, _, _, rfl, rfl, (by show (0 : Int) < 2147483579; decide), ?_⟩⟩⟩
        generalize (two * two + one * (z + 5)) % 2147483579 = three
        exact ⟨_, rfl, _, _, rfl, rfl, .inr ⟨by decide, by decide⟩, _, rfl, .inl ⟨_, _, rfl, rfl, _, _, rfl, rfl, .inr ⟨by decide, by decide⟩, _, rfl, .inl ⟨_, _, rfl, rfl, k _ _ hP2 k2⟩⟩⟩
theorem ok_draw (D : DefAt K mg "_law_draw" s_law_draw ["_law_pen_here", "_law_below"]) (T : Bl mg) (C_law_fresh : CallOk P w K mg base 1 "_law_fresh" ["_law_pen_here"] spFresh) :
    CallOk P w K mg base 2 "_law_draw" ["_law_pen_here", "_law_below"] spDraw := by
  refine D.ok sc_law_draw (fun vs H Q E h => ?_) (fun f cdv A outer s H vs Q E hr h => ?_)
  · obtain ⟨p, c, b, rfl, _⟩ := h
    rfl
  · obtain ⟨p, c, b, rfl, hP, hb1, hb2, k⟩ := h
    refine ⟨_, (Evl.pss_cut (ps_if (pt_cmpR op_lt (pe_ix ix_list (pv 0) pe_int (fun _ _ => rfl)) (pv 1) (nomark _)) (pss_one (ps_asg (pe_callOk C_law_fresh hr (by omega) (by rfl) (pa_cons (pv 0) pa_nil)) (pg_sub (pv 0) pe_int set_list))) pss_nil)
        (pss_cons (ps_set (i := 2) sc_law_draw.nd rfl (Or.inl rfl) (pe_op op_mod (pe_ix ix_list (pv 0) pe_int (fun _ _ => rfl)) (pv 1)))
        (pss_cons (ps_asg (pe_op op_fdiv (pe_ix ix_list (pv 0) pe_int (fun _ _ => rfl)) (pv 1)) (pg_sub (pv 0) pe_int set_list))
        (pss_one (ps_ret (pv 2)))))), ?_⟩
    obtain ⟨⟨z, r, h1⟩, _⟩ := id hP
    refine ⟨fun σ H2 => σ = [some (.ref p), some (.int b), none] ∧ Pen H2 p c ∧ Kp p H H2, ?_, ?_⟩
    · refine ⟨_, rfl, p, _, 2, _, rfl, rfl, SqL.of h1, rfl, _, rfl, _, _, rfl, rfl, _, rfl, ?_⟩
      refine ite2 (fun _ => ?_) (fun _ => ⟨rfl, hP, Kp.refl⟩)
      refine ⟨_, rfl, p, c, rfl, hP, fun n H2 hP2 k2 => ?_⟩
      obtain ⟨⟨z2, r2, h2⟩, _⟩ := id hP2
      exact ⟨_, rfl, p, _, 2, 2, rfl, rfl, h2, rfl, rfl, hP2.put, k2.put⟩
    · rintro σ H2 ⟨rfl, hP2, k2⟩
      obtain ⟨⟨z2, r2, h2⟩, _⟩ := id hP2
      refine ⟨_, rfl, p, _, 2, _, rfl, rfl, SqL.of h2, rfl, _, rfl, _, _, rfl, rfl, hb1, ?_⟩
      refine ⟨_, rfl, p, _, 2, _, rfl, rfl, SqL.of h2, rfl, _, rfl, _, _, rfl, rfl, ⟨hb1, hb2⟩, _, rfl, p, _, 2, 2, rfl, rfl, h2, rfl, ?_⟩
      exact ⟨_, rfl, k _ _ (Int.emod_nonneg _ (by omega)) (Int.emod_lt_of_pos _ hb1) hP2.put k2.put⟩
theorem ok_name (D : DefAt K mg "_law_name" s_law_name ["_law_pen_here", "_law_gone"]) (T : Bl mg) (C_law_draw : CallOk P w K mg base 2 "_law_draw" ["_law_pen_here", "_law_below"] spDraw) :
    CallOk P w K mg base 3 "_law_name" ["_law_pen_here", "_law_gone"] spName := by
  refine D.ok sc_law_name (fun vs H Q E h => ?_) (fun f cdv A outer s H vs Q E hr h => ?_)
  · obtain ⟨p, c, g, gs, rfl, _⟩ := h
    rfl
  · obtain ⟨p, c, g, gs, rfl, hP, hG, hgp, hgl, k⟩ := h
    refine ⟨_, (pss_cons (ps_set (i := 2) sc_law_name.nd rfl (Or.inl rfl) pe_str)
        (pss_cons (ps_set (i := 3) sc_law_name.nd rfl (Or.inl rfl) pe_str)
        (pss_cons (ps_for PassesOwn.never rfl (pi_range1 (by rfl) T.range_ (pa_cons (pe_op opAdd pe_int (pe_callOk C_law_draw hr (by omega) (by rfl) (pa_cons (pv 0) (pa_cons (pe_ix ix_list (pe_lst (pa_cons pe_int (pa_cons pe_int (pa_cons pe_int pa_nil)))) (pe_callOk C_law_draw hr (by omega) (by rfl) (pa_cons (pv 0) (pa_cons pe_int pa_nil))) (fun _ _ => rfl)) pa_nil)))) pa_nil)) (pg_name (i := 4) sc_law_name.nd rfl (Or.inl rfl) (by first | exact .inl rfl | exact .inr rfl)) (pss_one (ps_set (i := 3) sc_law_name.nd rfl (Or.inl rfl) (pe_op opAdd (pv 3) (pe_ix ix_str (pv 2) (pe_callOk C_law_draw hr (by omega) (by rfl) (pa_cons (pv 0) (pa_cons pe_int pa_nil))) (fun _ _ => rfl))))))
        (pss_cons (ps_set (i := 5) sc_law_name.nd rfl (Or.inl rfl) (pe_slice sl_str (pv 3) po_none (po_some pe_int)))
        (pss_cons (ps_for PassesOwn.never rfl (pi_range1 (by rfl) T.range_ (pa_cons (pe_op opAdd (pe_callB call_len_seq (by rfl) T.len_ (by decide +kernel) (pa_cons (pv 1) pa_nil)) pe_int) pa_nil)) (pg_name (i := 6) sc_law_name.nd rfl (Or.inl rfl) (by first | exact .inl rfl | exact .inr rfl)) (pss_one (ps_if (pt_cmpR op_in_seq (pv 3) (pv 1) (by rfl)) (pss_one (ps_set (i := 3) sc_law_name.nd rfl (Or.inl rfl) (pe_op opAdd (pe_op opAdd (pv 5) (pe_ix ix_str (pv 2) (pe_op op_mod (pe_op op_fdiv (pv 6) pe_int) pe_int) (fun _ _ => rfl))) (pe_ix ix_str (pv 2) (pe_op op_mod (pv 6) pe_int) (fun _ _ => rfl))))) pss_nil)))
        (pss_one (ps_ret (pv 3)))))))), ?_⟩
    refine ⟨_, rfl, le_line (by show 3 ≤ 16000000; decide), fun q hq => ?_⟩
    have hPq : Pen (upd H q (.lst [.int 1, .int 2, .int 8])) p c := hP.new hq
    have nqp : q ≠ p := hP.neP hq
    refine ⟨_, rfl, p, c, 3, rfl, hPq, by decide, by decide, fun m H1 m0 m1 hP1 k1 => ?_⟩
    have q1 : H1 q = some (.lst [.int 1, .int 2, .int 8]) := k1 _ _ upd_same nqp
    have kq : Kp p H H1 := (Kp.new hq).trans k1
    have hm : ∃ b : Int, atI [V.int 1, .int 2, .int 8] m = some (.int b) ∧ 0 < b ∧ b ≤ 8 := by
      have : m = 0 ∨ m = 1 ∨ m = 2 := by omega
      rcases this with rfl | rfl | rfl
      · exact ⟨1, rfl, by decide, by decide⟩
      · exact ⟨2, rfl, by decide, by decide⟩
      · exact ⟨8, rfl, by decide, by decide⟩
    obtain ⟨b, hb, b0, b8⟩ := hm
    refine ⟨q, _, m, .int b, rfl, rfl, SqL.of q1, hb, p, c, b, rfl, hP1, b0, by omega, fun n H2 n0 n1 hP2 k2 => ?_⟩
    have kp2 : Kp p H H2 := kq.trans k2
    refine .inl ⟨_, _, rfl, rfl, ?_⟩
    refine ⟨1 + n, rfl, by omega, by omega, for_range (lo := 0) (n := (1 + n).toNat) (fun i σ H' => ∃ x v4, σ = [some (.ref p), some (.ref g), some (.str abc), some (.str x), v4, none, none] ∧ Lt x i ∧ Pen H' p c ∧ Kp p H H')
      ⟨_, none, rfl, lt_nil, hP2, kp2⟩ ?_ ?_⟩
    · -- a letter more
      rintro i σ H' hi ⟨x, v4, rfl, hx, hP3, k3⟩
      refine ⟨_, rfl, _, rfl, _, rfl, p, c, 26, rfl, hP3, by decide, by decide, fun l H4 l0 l1 hP4 k4 => ?_⟩
      obtain ⟨ch, hc, c1, c2⟩ := abc_at l0 l1
      refine ⟨abc, l, ch, rfl, rfl, abc_len, hc, .inr (.inl ⟨x, _, rfl, rfl, ?_, ?_⟩)⟩
      · rw [hx.len, (lt_one c1 c2).len]
        exact le_line (by omega)
      · exact ⟨_, _, rfl, hx.app (lt_one c1 c2), hP4, k3.trans k4⟩
    · rintro σ H' ⟨x, v4, rfl, hx, hP3, k3⟩
      have hx8 : (1 + n).toNat ≤ 8 := by omega
      have hx0 : 0 < (1 + n).toNat := by omega
      refine ⟨_, rfl, 6, rfl, x, rfl, ?_, ?_⟩
      · rw [hx.len]
        exact le_line (by omega)
      obtain ⟨m6, h6, hf⟩ := hx.front 6
      generalize cutS x none (some ((6 : Nat) : Int)) = front at hf
      have hG' : SqL K H' g (gs.map V.str) := SqL.of (k3 _ _ hG hgp)
      refine ⟨_, rfl, g, gs.map V.str, rfl, .inl hG', .inl ⟨_, _, rfl, rfl, ?_⟩⟩
      refine ⟨((gs.map V.str).length : Int) + 1, rfl, ?_, ?_, for_range (lo := 0) (n := (((gs.map V.str).length : Int) + 1).toNat) (fun i σ H' => ∃ x v6 m, σ = [some (.ref p), some (.ref g), some (.str abc), some (.str x), v4, some (.str front), v6] ∧ Lt x m ∧ 0 < m ∧ m ≤ 8 ∧ Pen H' p c ∧ Kp p H H')
        ⟨_, none, _, rfl, hx, hx0, hx8, hP3, k3⟩ ?_ ?_⟩
      · omega
      · rw [List.length_map]
        omega
      · rintro i σ H4 hi ⟨y, v6, m, rfl, hy, m0, m8, hP4, k4⟩
        refine ⟨_, rfl, _, rfl, g, gs.map V.str, rfl, .inl (SqL.of (k4 _ _ hG hgp)), rfl, ?_, _, rfl, ?_⟩
        · simp [flatV]
        refine ite2 (fun _ => ?_) (fun _ => ⟨_, _, _, rfl, hy, m0, m8, hP4, k4⟩)
        obtain ⟨ca, ha, a1, a2⟩ := abc_at (n := (0 + (i : Int)) / 26 % 26) (Int.emod_nonneg _ (by decide)) (Int.emod_lt_of_pos _ (by decide))
        obtain ⟨cb, hb, b1, b2⟩ := abc_at (n := (0 + (i : Int)) % 26) (Int.emod_nonneg _ (by decide)) (Int.emod_lt_of_pos _ (by decide))
        refine ⟨_, rfl, _, rfl, _, rfl, _, _, rfl, rfl, ⟨by decide, by decide⟩, _, _, rfl, rfl, (by show (0 : Int) < 26; decide), abc, _, ca, rfl, rfl, abc_len, ha, .inr (.inl ⟨front, _, rfl, rfl, ?_, _, rfl, _, rfl, _, _, rfl, rfl, (by show (0 : Int) < 26; decide), abc, _, cb, rfl, rfl, abc_len, hb, .inr (.inl ⟨_, _, rfl, rfl, ?_, ?_⟩)⟩)⟩
        · rw [hf.len, (lt_one a1 a2).len]
          exact le_line (by omega)
        · rw [(hf.app (lt_one a1 a2)).len, (lt_one b1 b2).len]
          exact le_line (by omega)
        · exact ⟨_, _, _, rfl, (hf.app (lt_one a1 a2)).app (lt_one b1 b2), by omega, by omega, hP4, k4⟩
      · rintro σ H4 ⟨y, v6, m, rfl, hy, m0, m8, hP4, k4⟩
        exact ⟨_, rfl, k y H4 (hy.nm m0 m8) hP4 k4⟩
end


structure PlainX (K : PySem.W.Frag) (mg : Str → Option Value) (x : Str) (C : Addr) : Prop where
  g : mg x = some (.ref C)
  q : PySem.W.excIn K C [.type "ValueError", .type "Exception", .type "BaseException", .type "object"] "ValueError.__new__" = true
  k : PySem.W.keepIn K (.ref C) = true
/-- exceptions of the classes cs, in their order -/
inductive Exs (H : Hp) : List Addr → List Addr → Prop where
  | nil : Exs H [] []
  | cons {C a cs as} (h : IsExc H a C) (t : Exs H cs as) : Exs H (C :: cs) (a :: as)
theorem ExAt.kp {p : Addr} {H H' : Hp} (k : Kp p H H') (hp : ∃ xs, H p = some (.lst xs)) {a C : Addr} {fs : List (Str × V)} (h : ExAt H a C fs) : ExAt H' a C fs := by
  obtain ⟨xs, hp⟩ := hp
  obtain ⟨d, h1, h2⟩ := h
  refine ⟨d, k _ _ h1 ?_, k _ _ h2 ?_⟩
  · rintro rfl
    rw [h1] at hp
    cases hp
  · rintro rfl
    rw [h2] at hp
    cases hp
theorem ExAt.same {H H' : Hp} (s : Same H H') {a C : Addr} {fs : List (Str × V)} (h : ExAt H a C fs) : ExAt H' a C fs := by
  obtain ⟨d, h1, h2⟩ := h
  exact ⟨d, s _ _ h1, s _ _ h2⟩
theorem IsExc.same {H H' : Hp} (s : Same H H') {a C : Addr} (h : IsExc H a C) : IsExc H' a C := by
  rcases h with h | ⟨fs, h⟩
  · exact .inl (s _ _ h)
  · exact .inr ⟨fs, h.same s⟩
theorem Exs.same {H H' : Hp} (s : Same H H') {cs as : List Addr} (h : Exs H cs as) : Exs H' cs as := by
  induction h with
  | nil => exact .nil
  | cons h t ih => exact .cons (h.same s) ih
theorem Exs.app {H : Hp} {cs as cs' as' : List Addr} (h : Exs H cs as) (h' : Exs H cs' as') : Exs H (cs ++ cs') (as ++ as') := by
  induction h with
  | nil => exact h'
  | cons h t ih => exact .cons h ih
theorem Exs.length {H : Hp} {cs as : List Addr} (h : Exs H cs as) : as.length = cs.length := by
  induction h with
  | nil => rfl
  | cons h t ih => rw [List.length_cons, List.length_cons, ih]
theorem Exs.at {H : Hp} {cs as : List Addr} (h : Exs H cs as) : ∀ {i : Nat} {C a : Addr}, cs[i]? = some C → as[i]? = some a → IsExc H a C := by
  induction h with
  | nil => intro i C a h1; simp at h1
  | cons h t ih =>
    intro i C a h1 h2
    cases i with
    | zero =>
      cases h1
      cases h2
      exact h
    | succ i => exact ih h1 h2
theorem Exs.more {H : Hp} {cs as : List Addr} {C a : Addr} (h : Exs H cs as) (ha : H a = none) : Exs (upd H a (ExO (.ref C) a)) (cs ++ [C]) (as ++ [a]) :=
  (h.same (same_new ha)).app (.cons (.inl upd_same) .nil)
def spMade (cs : List Addr) : Sp := fun vs H Q _ => ∃ x : Str, vs = [.str x] ∧ ∀ (p : Addr) (as : List Addr) (H' : Hp), Exs H' cs as → H' p = some (.lst (as.map V.ref)) → Same H H' → H p = none → Q (.ref p) H'
def Ones (K : PySem.W.Frag) (cs : List Addr) : Prop := ∀ (i j : Nat) (C D : Addr), cs[i]? = some C → cs[j]? = some D → PySem.W.kitOne K (.ref C) (.ref D) = some (decide (j = i))
def spLooks (K : PySem.W.Frag) (cs : List Addr) : Sp := fun vs H Q _ => ∃ (a C : Addr) (i : Nat), vs = [.ref a] ∧ cs[i]? = some C ∧ IsExc H a C ∧ ExcC K C ∧
  ∀ (p : Addr) (H' : Hp), H' p = some (.lst (((List.range cs.length).map fun j => decide (j = i)).map V.bl)) → Same H H' → Q (.ref p) H'

section
variable {P : Program} {w : World} {K : PySem.W.Frag} {mg : Str → Option Value} {base : Heap} {c0 c1 c2 c3 c4 c5 c6 c7 c8 c9 c10 c11 c12 c13 c14 c15 c16 c17 c18 : Addr}
theorem ok_made (D : DefAt K mg "_law_made" s_law_made ["_law_text"]) (T : Bl mg) (X_TooLong : PlainX K mg "TooLong" c0) (X_NoAgent : PlainX K mg "NoAgent" c1) (X_NoPort : PlainX K mg "NoPort" c2) (X_Tied : PlainX K mg "Tied" c3) (X_NoMove : PlainX K mg "NoMove" c4) (X_NoRule : PlainX K mg "NoRule" c5) (X_NoDef : PlainX K mg "NoDef" c6) (X_NotShown : PlainX K mg "NotShown" c7) (X_NoSymbol : PlainX K mg "NoSymbol" c8) (X_NoRoom : PlainX K mg "NoRoom" c9) (X_NoRun : PlainX K mg "NoRun" c10) (X_NoLine : PlainX K mg "NoLine" c11) (X_NoRow : PlainX K mg "NoRow" c12) (X_BadProgram : PlainX K mg "BadProgram" c13) (X_BadName : PlainX K mg "BadName" c14) (X_Twice : PlainX K mg "Twice" c15) (X_BadParcel : PlainX K mg "BadParcel" c16) (X_NoMark : PlainX K mg "NoMark" c17) (X_BadDeed : PlainX K mg "BadDeed" c18) :
    CallOk P w K mg base 3 "_law_made" ["_law_text"] (spMade [c0, c1, c2, c3, c4, c5, c6, c7, c8, c9, c10, c11, c12, c13, c14, c15, c16, c17, c18]) := by
  refine D.ok sc_law_made (fun vs H Q E h => ?_) (fun f cdv A outer s H vs Q E hr h => ?_)
  · obtain ⟨x, rfl, _⟩ := h
    rfl
  · obtain ⟨x, rfl, k⟩ := h
    refine ⟨_, (pss_cons (ps_set (i := 1) sc_law_made.nd rfl (Or.inl rfl) (pe_lst (pa_cons (pe_exc1 PySem.F.excBase_ValueError X_TooLong.q X_TooLong.g X_TooLong.k (by rfl) (pv 0)) (pa_cons (pe_exc1 PySem.F.excBase_ValueError X_NoAgent.q X_NoAgent.g X_NoAgent.k (by rfl) (pv 0)) (pa_cons (pe_exc1 PySem.F.excBase_ValueError X_NoPort.q X_NoPort.g X_NoPort.k (by rfl) (pv 0)) (pa_cons (pe_exc1 PySem.F.excBase_ValueError X_Tied.q X_Tied.g X_Tied.k (by rfl) (pv 0)) (pa_cons (pe_exc1 PySem.F.excBase_ValueError X_NoMove.q X_NoMove.g X_NoMove.k (by rfl) (pv 0)) (pa_cons (pe_exc1 PySem.F.excBase_ValueError X_NoRule.q X_NoRule.g X_NoRule.k (by rfl) (pv 0)) (pa_cons (pe_exc1 PySem.F.excBase_ValueError X_NoDef.q X_NoDef.g X_NoDef.k (by rfl) (pv 0)) pa_nil)))))))))
        (pss_cons (ps_set (i := 1) sc_law_made.nd rfl (Or.inl rfl) (pe_op opAdd (pv 1) (pe_lst (pa_cons (pe_exc1 PySem.F.excBase_ValueError X_NotShown.q X_NotShown.g X_NotShown.k (by rfl) (pv 0)) (pa_cons (pe_exc1 PySem.F.excBase_ValueError X_NoSymbol.q X_NoSymbol.g X_NoSymbol.k (by rfl) (pv 0)) (pa_cons (pe_exc1 PySem.F.excBase_ValueError X_NoRoom.q X_NoRoom.g X_NoRoom.k (by rfl) (pv 0)) (pa_cons (pe_exc1 PySem.F.excBase_ValueError X_NoRun.q X_NoRun.g X_NoRun.k (by rfl) (pv 0)) (pa_cons (pe_exc1 PySem.F.excBase_ValueError X_NoLine.q X_NoLine.g X_NoLine.k (by rfl) (pv 0)) (pa_cons (pe_exc1 PySem.F.excBase_ValueError X_NoRow.q X_NoRow.g X_NoRow.k (by rfl) (pv 0)) pa_nil)))))))))
        (pss_one (ps_ret (pe_op opAdd (pv 1) (pe_lst (pa_cons (pe_exc1 PySem.F.excBase_ValueError X_BadProgram.q X_BadProgram.g X_BadProgram.k (by rfl) (pv 0)) (pa_cons (pe_exc1 PySem.F.excBase_ValueError X_BadName.q X_BadName.g X_BadName.k (by rfl) (pv 0)) (pa_cons (pe_exc1 PySem.F.excBase_ValueError X_Twice.q X_Twice.g X_Twice.k (by rfl) (pv 0)) (pa_cons (pe_exc1 PySem.F.excBase_ValueError X_BadParcel.q X_BadParcel.g X_BadParcel.k (by rfl) (pv 0)) (pa_cons (pe_exc1 PySem.F.excBase_ValueError X_NoMark.q X_NoMark.g X_NoMark.k (by rfl) (pv 0)) (pa_cons (pe_exc1 PySem.F.excBase_ValueError X_BadDeed.q X_BadDeed.g X_BadDeed.k (by rfl) (pv 0)) pa_nil)))))))))))), ?_⟩
    have E0 : Exs H [] [] := .nil
    have S0 : Same H H := Same.refl H
    refine ⟨_, rfl, fun a0 h0 => ?_⟩
    have e0 := E0.more (C := c0) h0
    have z0 : Same _ _ := Same.lay (o := ExO (.ref c0) a0) S0 h0
    generalize upd H a0 (ExO (.ref c0) a0) = H0 at e0 z0 ⊢
    refine ⟨_, rfl, fun a1 h1 => ?_⟩
    have e1 := e0.more (C := c1) h1
    have z1 : Same _ _ := Same.lay (o := ExO (.ref c1) a1) z0 h1
    generalize upd H0 a1 (ExO (.ref c1) a1) = H1 at e1 z1 ⊢
    refine ⟨_, rfl, fun a2 h2 => ?_⟩
    have e2 := e1.more (C := c2) h2
    have z2 : Same _ _ := Same.lay (o := ExO (.ref c2) a2) z1 h2
    generalize upd H1 a2 (ExO (.ref c2) a2) = H2 at e2 z2 ⊢
    refine ⟨_, rfl, fun a3 h3 => ?_⟩
    have e3 := e2.more (C := c3) h3
    have z3 : Same _ _ := Same.lay (o := ExO (.ref c3) a3) z2 h3
    generalize upd H2 a3 (ExO (.ref c3) a3) = H3 at e3 z3 ⊢
    refine ⟨_, rfl, fun a4 h4 => ?_⟩
    have e4 := e3.more (C := c4) h4
    have z4 : Same _ _ := Same.lay (o := ExO (.ref c4) a4) z3 h4
    generalize upd H3 a4 (ExO (.ref c4) a4) = H4 at e4 z4 ⊢
    refine ⟨_, rfl, fun a5 h5 => ?_⟩
    have e5 := e4.more (C := c5) h5
    have z5 : Same _ _ := Same.lay (o := ExO (.ref c5) a5) z4 h5
    generalize upd H4 a5 (ExO (.ref c5) a5) = H5 at e5 z5 ⊢
    refine ⟨_, rfl, fun a6 h6 => ?_⟩
    have e6 := e5.more (C := c6) h6
    have z6 : Same _ _ := Same.lay (o := ExO (.ref c6) a6) z5 h6
    generalize upd H5 a6 (ExO (.ref c6) a6) = H6 at e6 z6 ⊢
    refine ⟨le_line (by show 7 ≤ 16000000; decide), fun p0 hp0 => ?_⟩
    have y0 : Exs (upd H6 p0 (.lst [V.ref a0, V.ref a1, V.ref a2, V.ref a3, V.ref a4, V.ref a5, V.ref a6])) [c0, c1, c2, c3, c4, c5, c6] [a0, a1, a2, a3, a4, a5, a6] := e6.same (same_new hp0)
    have t0 : Same _ _ := Same.lay (o := .lst [V.ref a0, V.ref a1, V.ref a2, V.ref a3, V.ref a4, V.ref a5, V.ref a6]) z6 hp0
    have u0 : upd H6 p0 (.lst [V.ref a0, V.ref a1, V.ref a2, V.ref a3, V.ref a4, V.ref a5, V.ref a6]) p0 = some (.lst [V.ref a0, V.ref a1, V.ref a2, V.ref a3, V.ref a4, V.ref a5, V.ref a6]) := upd_same
    have w0 : H p0 = none := z6.free hp0
    show tSeq _ _ _ _ (upd H6 p0 (.lst [V.ref a0, V.ref a1, V.ref a2, V.ref a3, V.ref a4, V.ref a5, V.ref a6]))
    generalize upd H6 p0 (.lst [V.ref a0, V.ref a1, V.ref a2, V.ref a3, V.ref a4, V.ref a5, V.ref a6]) = G0 at y0 t0 u0 ⊢
    refine ⟨_, rfl, ?_⟩
    have F1 : Exs G0 [] [] := .nil
    have R1 : Same G0 G0 := Same.refl _
    refine ⟨_, rfl, fun a7 h7 => ?_⟩
    have e7 := F1.more (C := c7) h7
    have z7 : Same _ _ := Same.lay (o := ExO (.ref c7) a7) R1 h7
    generalize upd G0 a7 (ExO (.ref c7) a7) = H7 at e7 z7 ⊢
    refine ⟨_, rfl, fun a8 h8 => ?_⟩
    have e8 := e7.more (C := c8) h8
    have z8 : Same _ _ := Same.lay (o := ExO (.ref c8) a8) z7 h8
    generalize upd H7 a8 (ExO (.ref c8) a8) = H8 at e8 z8 ⊢
    refine ⟨_, rfl, fun a9 h9 => ?_⟩
    have e9 := e8.more (C := c9) h9
    have z9 : Same _ _ := Same.lay (o := ExO (.ref c9) a9) z8 h9
    generalize upd H8 a9 (ExO (.ref c9) a9) = H9 at e9 z9 ⊢
    refine ⟨_, rfl, fun a10 h10 => ?_⟩
    have e10 := e9.more (C := c10) h10
    have z10 : Same _ _ := Same.lay (o := ExO (.ref c10) a10) z9 h10
    generalize upd H9 a10 (ExO (.ref c10) a10) = H10 at e10 z10 ⊢
    refine ⟨_, rfl, fun a11 h11 => ?_⟩
    have e11 := e10.more (C := c11) h11
    have z11 : Same _ _ := Same.lay (o := ExO (.ref c11) a11) z10 h11
    generalize upd H10 a11 (ExO (.ref c11) a11) = H11 at e11 z11 ⊢
    refine ⟨_, rfl, fun a12 h12 => ?_⟩
    have e12 := e11.more (C := c12) h12
    have z12 : Same _ _ := Same.lay (o := ExO (.ref c12) a12) z11 h12
    generalize upd H11 a12 (ExO (.ref c12) a12) = H12 at e12 z12 ⊢
    refine ⟨le_line (by show 6 ≤ 16000000; decide), fun p1 hp1 => ?_⟩
    have y1 : Exs (upd H12 p1 (.lst [V.ref a7, V.ref a8, V.ref a9, V.ref a10, V.ref a11, V.ref a12])) [c7, c8, c9, c10, c11, c12] [a7, a8, a9, a10, a11, a12] := e12.same (same_new hp1)
    have t1 : Same _ _ := Same.lay (o := .lst [V.ref a7, V.ref a8, V.ref a9, V.ref a10, V.ref a11, V.ref a12]) z12 hp1
    have u1 : upd H12 p1 (.lst [V.ref a7, V.ref a8, V.ref a9, V.ref a10, V.ref a11, V.ref a12]) p1 = some (.lst [V.ref a7, V.ref a8, V.ref a9, V.ref a10, V.ref a11, V.ref a12]) := upd_same
    generalize upd H12 p1 (.lst [V.ref a7, V.ref a8, V.ref a9, V.ref a10, V.ref a11, V.ref a12]) = G1 at y1 t1 u1 ⊢
    have v1 : Exs G1 _ ([a0, a1, a2, a3, a4, a5, a6] ++ [a7, a8, a9, a10, a11, a12]) := (y0.same t1).app y1
    have x1 : Same H G1 := t0.trans t1
    refine .inr (.inr (.inr ⟨_, _, _, _, rfl, rfl, t1 _ _ u0, u1, le_line (by show 13 ≤ 16000000; decide), fun m1 hm1 => ?_⟩))
    have y1b := v1.same (same_new (o := .lst ([V.ref a0, V.ref a1, V.ref a2, V.ref a3, V.ref a4, V.ref a5, V.ref a6] ++ [V.ref a7, V.ref a8, V.ref a9, V.ref a10, V.ref a11, V.ref a12])) hm1)
    have t1b : Same _ _ := Same.lay (o := .lst ([V.ref a0, V.ref a1, V.ref a2, V.ref a3, V.ref a4, V.ref a5, V.ref a6] ++ [V.ref a7, V.ref a8, V.ref a9, V.ref a10, V.ref a11, V.ref a12])) x1 hm1
    have u1b : upd G1 m1 (.lst ([V.ref a0, V.ref a1, V.ref a2, V.ref a3, V.ref a4, V.ref a5, V.ref a6] ++ [V.ref a7, V.ref a8, V.ref a9, V.ref a10, V.ref a11, V.ref a12])) m1 = some (.lst ([V.ref a0, V.ref a1, V.ref a2, V.ref a3, V.ref a4, V.ref a5, V.ref a6] ++ [V.ref a7, V.ref a8, V.ref a9, V.ref a10, V.ref a11, V.ref a12])) := upd_same
    show tSeq _ _ _ _ (upd G1 m1 (.lst ([V.ref a0, V.ref a1, V.ref a2, V.ref a3, V.ref a4, V.ref a5, V.ref a6] ++ [V.ref a7, V.ref a8, V.ref a9, V.ref a10, V.ref a11, V.ref a12])))
    generalize upd G1 m1 (.lst ([V.ref a0, V.ref a1, V.ref a2, V.ref a3, V.ref a4, V.ref a5, V.ref a6] ++ [V.ref a7, V.ref a8, V.ref a9, V.ref a10, V.ref a11, V.ref a12])) = J1 at y1b t1b u1b ⊢
    refine ⟨_, rfl, ?_⟩
    have F2 : Exs J1 [] [] := .nil
    have R2 : Same J1 J1 := Same.refl _
    refine ⟨_, rfl, fun a13 h13 => ?_⟩
    have e13 := F2.more (C := c13) h13
    have z13 : Same _ _ := Same.lay (o := ExO (.ref c13) a13) R2 h13
    generalize upd J1 a13 (ExO (.ref c13) a13) = H13 at e13 z13 ⊢
    refine ⟨_, rfl, fun a14 h14 => ?_⟩
    have e14 := e13.more (C := c14) h14
    have z14 : Same _ _ := Same.lay (o := ExO (.ref c14) a14) z13 h14
    generalize upd H13 a14 (ExO (.ref c14) a14) = H14 at e14 z14 ⊢
    refine ⟨_, rfl, fun a15 h15 => ?_⟩
    have e15 := e14.more (C := c15) h15
    have z15 : Same _ _ := Same.lay (o := ExO (.ref c15) a15) z14 h15
    generalize upd H14 a15 (ExO (.ref c15) a15) = H15 at e15 z15 ⊢
    refine ⟨_, rfl, fun a16 h16 => ?_⟩
    have e16 := e15.more (C := c16) h16
    have z16 : Same _ _ := Same.lay (o := ExO (.ref c16) a16) z15 h16
    generalize upd H15 a16 (ExO (.ref c16) a16) = H16 at e16 z16 ⊢
    refine ⟨_, rfl, fun a17 h17 => ?_⟩
    have e17 := e16.more (C := c17) h17
    have z17 : Same _ _ := Same.lay (o := ExO (.ref c17) a17) z16 h17
    generalize upd H16 a17 (ExO (.ref c17) a17) = H17 at e17 z17 ⊢
    refine ⟨_, rfl, fun a18 h18 => ?_⟩
    have e18 := e17.more (C := c18) h18
    have z18 : Same _ _ := Same.lay (o := ExO (.ref c18) a18) z17 h18
    generalize upd H17 a18 (ExO (.ref c18) a18) = H18 at e18 z18 ⊢
    refine ⟨le_line (by show 6 ≤ 16000000; decide), fun p2 hp2 => ?_⟩
    have y2 : Exs (upd H18 p2 (.lst [V.ref a13, V.ref a14, V.ref a15, V.ref a16, V.ref a17, V.ref a18])) [c13, c14, c15, c16, c17, c18] [a13, a14, a15, a16, a17, a18] := e18.same (same_new hp2)
    have t2 : Same _ _ := Same.lay (o := .lst [V.ref a13, V.ref a14, V.ref a15, V.ref a16, V.ref a17, V.ref a18]) z18 hp2
    have u2 : upd H18 p2 (.lst [V.ref a13, V.ref a14, V.ref a15, V.ref a16, V.ref a17, V.ref a18]) p2 = some (.lst [V.ref a13, V.ref a14, V.ref a15, V.ref a16, V.ref a17, V.ref a18]) := upd_same
    generalize upd H18 p2 (.lst [V.ref a13, V.ref a14, V.ref a15, V.ref a16, V.ref a17, V.ref a18]) = G2 at y2 t2 u2 ⊢
    have v2 : Exs G2 _ ([a0, a1, a2, a3, a4, a5, a6] ++ [a7, a8, a9, a10, a11, a12] ++ [a13, a14, a15, a16, a17, a18]) := (y1b.same t2).app y2
    have x2 : Same H G2 := t1b.trans t2
    refine .inr (.inr (.inr ⟨_, _, _, _, rfl, rfl, t2 _ _ u1b, u2, le_line (by show 19 ≤ 16000000; decide), fun m2 hm2 => ?_⟩))
    exact k m2 ([a0, a1, a2, a3, a4, a5, a6] ++ [a7, a8, a9, a10, a11, a12] ++ [a13, a14, a15, a16, a17, a18]) _ (v2.same (same_new hm2)) upd_same (Same.lay x2 hm2) (x2.free hm2)
end

section
variable {P : Program} {w : World} {K : PySem.W.Frag} {mg : Str → Option Value} {base : Heap} {c0 c1 c2 c3 c4 c5 c6 c7 c8 c9 c10 c11 c12 c13 c14 c15 c16 c17 c18 c19 c20 : Addr}
theorem ok_looks (D : DefAt K mg "_law_looks" s_law_looks ["_law_one"]) (T : Bl mg) (G_TooLong : GV mg "TooLong" (.ref c0)) (G_NoAgent : GV mg "NoAgent" (.ref c1)) (G_NoPort : GV mg "NoPort" (.ref c2)) (G_Tied : GV mg "Tied" (.ref c3)) (G_NoMove : GV mg "NoMove" (.ref c4)) (G_NoRule : GV mg "NoRule" (.ref c5)) (G_NoDef : GV mg "NoDef" (.ref c6)) (G_NotShown : GV mg "NotShown" (.ref c7)) (G_NoSymbol : GV mg "NoSymbol" (.ref c8)) (G_NoRoom : GV mg "NoRoom" (.ref c9)) (G_NoRun : GV mg "NoRun" (.ref c10)) (G_NoLine : GV mg "NoLine" (.ref c11)) (G_NoRow : GV mg "NoRow" (.ref c12)) (G_BadProgram : GV mg "BadProgram" (.ref c13)) (G_BadName : GV mg "BadName" (.ref c14)) (G_Twice : GV mg "Twice" (.ref c15)) (G_BadParcel : GV mg "BadParcel" (.ref c16)) (G_NoMark : GV mg "NoMark" (.ref c17)) (G_BadDeed : GV mg "BadDeed" (.ref c18)) (G_NoText : GV mg "NoText" (.ref c19)) (G_NoKind : GV mg "NoKind" (.ref c20)) (one : Ones K [c0, c1, c2, c3, c4, c5, c6, c7, c8, c9, c10, c11, c12, c13, c14, c15, c16, c17, c18, c19, c20]) :
    CallOk P w K mg base 3 "_law_looks" ["_law_one"] (spLooks K [c0, c1, c2, c3, c4, c5, c6, c7, c8, c9, c10, c11, c12, c13, c14, c15, c16, c17, c18, c19, c20]) := by
  refine D.ok sc_law_looks (fun vs H Q E h => ?_) (fun f cdv A outer s H vs Q E hr h => ?_)
  · obtain ⟨a, C, i, rfl, _⟩ := h
    rfl
  · obtain ⟨a, C, i, rfl, hi, hE, hX, k⟩ := h
    refine ⟨_, (pss_cons (ps_set (i := 1) sc_law_looks.nd rfl (Or.inl rfl) (pe_lst (pa_cons (pe_callB call_isX (by rfl) T.isinstance_ (by decide +kernel) (pa_cons (pv 0) (pa_cons (pe_gv G_TooLong rfl) pa_nil))) (pa_cons (pe_callB call_isX (by rfl) T.isinstance_ (by decide +kernel) (pa_cons (pv 0) (pa_cons (pe_gv G_NoAgent rfl) pa_nil))) (pa_cons (pe_callB call_isX (by rfl) T.isinstance_ (by decide +kernel) (pa_cons (pv 0) (pa_cons (pe_gv G_NoPort rfl) pa_nil))) (pa_cons (pe_callB call_isX (by rfl) T.isinstance_ (by decide +kernel) (pa_cons (pv 0) (pa_cons (pe_gv G_Tied rfl) pa_nil))) pa_nil))))))
        (pss_cons (ps_set (i := 1) sc_law_looks.nd rfl (Or.inl rfl) (pe_op opAdd (pv 1) (pe_lst (pa_cons (pe_callB call_isX (by rfl) T.isinstance_ (by decide +kernel) (pa_cons (pv 0) (pa_cons (pe_gv G_NoMove rfl) pa_nil))) (pa_cons (pe_callB call_isX (by rfl) T.isinstance_ (by decide +kernel) (pa_cons (pv 0) (pa_cons (pe_gv G_NoRule rfl) pa_nil))) (pa_cons (pe_callB call_isX (by rfl) T.isinstance_ (by decide +kernel) (pa_cons (pv 0) (pa_cons (pe_gv G_NoDef rfl) pa_nil))) pa_nil))))))
        (pss_cons (ps_set (i := 1) sc_law_looks.nd rfl (Or.inl rfl) (pe_op opAdd (pv 1) (pe_lst (pa_cons (pe_callB call_isX (by rfl) T.isinstance_ (by decide +kernel) (pa_cons (pv 0) (pa_cons (pe_gv G_NotShown rfl) pa_nil))) (pa_cons (pe_callB call_isX (by rfl) T.isinstance_ (by decide +kernel) (pa_cons (pv 0) (pa_cons (pe_gv G_NoSymbol rfl) pa_nil))) (pa_cons (pe_callB call_isX (by rfl) T.isinstance_ (by decide +kernel) (pa_cons (pv 0) (pa_cons (pe_gv G_NoRoom rfl) pa_nil))) pa_nil))))))
        (pss_cons (ps_set (i := 1) sc_law_looks.nd rfl (Or.inl rfl) (pe_op opAdd (pv 1) (pe_lst (pa_cons (pe_callB call_isX (by rfl) T.isinstance_ (by decide +kernel) (pa_cons (pv 0) (pa_cons (pe_gv G_NoRun rfl) pa_nil))) (pa_cons (pe_callB call_isX (by rfl) T.isinstance_ (by decide +kernel) (pa_cons (pv 0) (pa_cons (pe_gv G_NoLine rfl) pa_nil))) (pa_cons (pe_callB call_isX (by rfl) T.isinstance_ (by decide +kernel) (pa_cons (pv 0) (pa_cons (pe_gv G_NoRow rfl) pa_nil))) pa_nil))))))
        (pss_cons (ps_set (i := 1) sc_law_looks.nd rfl (Or.inl rfl) (pe_op opAdd (pv 1) (pe_lst (pa_cons (pe_callB call_isX (by rfl) T.isinstance_ (by decide +kernel) (pa_cons (pv 0) (pa_cons (pe_gv G_BadProgram rfl) pa_nil))) (pa_cons (pe_callB call_isX (by rfl) T.isinstance_ (by decide +kernel) (pa_cons (pv 0) (pa_cons (pe_gv G_BadName rfl) pa_nil))) (pa_cons (pe_callB call_isX (by rfl) T.isinstance_ (by decide +kernel) (pa_cons (pv 0) (pa_cons (pe_gv G_Twice rfl) pa_nil))) pa_nil))))))
        (pss_cons (ps_set (i := 1) sc_law_looks.nd rfl (Or.inl rfl) (pe_op opAdd (pv 1) (pe_lst (pa_cons (pe_callB call_isX (by rfl) T.isinstance_ (by decide +kernel) (pa_cons (pv 0) (pa_cons (pe_gv G_BadParcel rfl) pa_nil))) (pa_cons (pe_callB call_isX (by rfl) T.isinstance_ (by decide +kernel) (pa_cons (pv 0) (pa_cons (pe_gv G_NoMark rfl) pa_nil))) (pa_cons (pe_callB call_isX (by rfl) T.isinstance_ (by decide +kernel) (pa_cons (pv 0) (pa_cons (pe_gv G_BadDeed rfl) pa_nil))) pa_nil))))))
        (pss_one (ps_ret (pe_op opAdd (pv 1) (pe_lst (pa_cons (pe_callB call_isX (by rfl) T.isinstance_ (by decide +kernel) (pa_cons (pv 0) (pa_cons (pe_gv G_NoText rfl) pa_nil))) (pa_cons (pe_callB call_isX (by rfl) T.isinstance_ (by decide +kernel) (pa_cons (pv 0) (pa_cons (pe_gv G_NoKind rfl) pa_nil))) pa_nil)))))))))))), ?_⟩
    have S0 : Same H H := Same.refl H
    refine ⟨_, rfl, a, C, .ref c0, .ref c0, decide (0 = i), rfl, hE.same S0, hX, (fun u r => r), one i 0 _ _ hi rfl, ?_⟩
    refine ⟨_, rfl, a, C, .ref c1, .ref c1, decide (1 = i), rfl, hE.same S0, hX, (fun u r => r), one i 1 _ _ hi rfl, ?_⟩
    refine ⟨_, rfl, a, C, .ref c2, .ref c2, decide (2 = i), rfl, hE.same S0, hX, (fun u r => r), one i 2 _ _ hi rfl, ?_⟩
    refine ⟨_, rfl, a, C, .ref c3, .ref c3, decide (3 = i), rfl, hE.same S0, hX, (fun u r => r), one i 3 _ _ hi rfl, ?_⟩
    refine ⟨le_line (by show 4 ≤ 16000000; decide), fun p0 hp0 => ?_⟩
    have t0 : Same H _ := Same.lay (o := .lst [V.bl (decide (0 = i)), V.bl (decide (1 = i)), V.bl (decide (2 = i)), V.bl (decide (3 = i))]) S0 hp0
    have u0 : upd H p0 (.lst [V.bl (decide (0 = i)), V.bl (decide (1 = i)), V.bl (decide (2 = i)), V.bl (decide (3 = i))]) p0 = some (.lst [V.bl (decide (0 = i)), V.bl (decide (1 = i)), V.bl (decide (2 = i)), V.bl (decide (3 = i))]) := upd_same
    show tSeq _ _ _ _ (upd H p0 (.lst [V.bl (decide (0 = i)), V.bl (decide (1 = i)), V.bl (decide (2 = i)), V.bl (decide (3 = i))]))
    generalize upd H p0 (.lst [V.bl (decide (0 = i)), V.bl (decide (1 = i)), V.bl (decide (2 = i)), V.bl (decide (3 = i))]) = G0 at t0 u0 ⊢
    refine ⟨_, rfl, ?_⟩
    refine ⟨_, rfl, a, C, .ref c4, .ref c4, decide (4 = i), rfl, hE.same t0, hX, (fun u r => r), one i 4 _ _ hi rfl, ?_⟩
    refine ⟨_, rfl, a, C, .ref c5, .ref c5, decide (5 = i), rfl, hE.same t0, hX, (fun u r => r), one i 5 _ _ hi rfl, ?_⟩
    refine ⟨_, rfl, a, C, .ref c6, .ref c6, decide (6 = i), rfl, hE.same t0, hX, (fun u r => r), one i 6 _ _ hi rfl, ?_⟩
    refine ⟨le_line (by show 3 ≤ 16000000; decide), fun p1 hp1 => ?_⟩
    have t1 : Same H _ := Same.lay (o := .lst [V.bl (decide (4 = i)), V.bl (decide (5 = i)), V.bl (decide (6 = i))]) t0 hp1
    have u1 : upd G0 p1 (.lst [V.bl (decide (4 = i)), V.bl (decide (5 = i)), V.bl (decide (6 = i))]) p1 = some (.lst [V.bl (decide (4 = i)), V.bl (decide (5 = i)), V.bl (decide (6 = i))]) := upd_same
    have r1 : upd G0 p1 (.lst [V.bl (decide (4 = i)), V.bl (decide (5 = i)), V.bl (decide (6 = i))]) _ = _ := same_new (o := .lst [V.bl (decide (4 = i)), V.bl (decide (5 = i)), V.bl (decide (6 = i))]) hp1 _ _ u0
    generalize upd G0 p1 (.lst [V.bl (decide (4 = i)), V.bl (decide (5 = i)), V.bl (decide (6 = i))]) = G1 at t1 u1 r1 ⊢
    refine .inr (.inr (.inr ⟨_, _, _, _, rfl, rfl, r1, u1, le_line (by show 7 ≤ 16000000; decide), fun m1 hm1 => ?_⟩))
    have t1b : Same H _ := Same.lay (o := .lst ([V.bl (decide (0 = i)), V.bl (decide (1 = i)), V.bl (decide (2 = i)), V.bl (decide (3 = i))] ++ [V.bl (decide (4 = i)), V.bl (decide (5 = i)), V.bl (decide (6 = i))])) t1 hm1
    have u1b : upd G1 m1 (.lst ([V.bl (decide (0 = i)), V.bl (decide (1 = i)), V.bl (decide (2 = i)), V.bl (decide (3 = i))] ++ [V.bl (decide (4 = i)), V.bl (decide (5 = i)), V.bl (decide (6 = i))])) m1 = some (.lst ([V.bl (decide (0 = i)), V.bl (decide (1 = i)), V.bl (decide (2 = i)), V.bl (decide (3 = i))] ++ [V.bl (decide (4 = i)), V.bl (decide (5 = i)), V.bl (decide (6 = i))])) := upd_same
    show tSeq _ _ _ _ (upd G1 m1 (.lst ([V.bl (decide (0 = i)), V.bl (decide (1 = i)), V.bl (decide (2 = i)), V.bl (decide (3 = i))] ++ [V.bl (decide (4 = i)), V.bl (decide (5 = i)), V.bl (decide (6 = i))])))
    generalize upd G1 m1 (.lst ([V.bl (decide (0 = i)), V.bl (decide (1 = i)), V.bl (decide (2 = i)), V.bl (decide (3 = i))] ++ [V.bl (decide (4 = i)), V.bl (decide (5 = i)), V.bl (decide (6 = i))])) = J1 at t1b u1b ⊢
    refine ⟨_, rfl, ?_⟩
    refine ⟨_, rfl, a, C, .ref c7, .ref c7, decide (7 = i), rfl, hE.same t1b, hX, (fun u r => r), one i 7 _ _ hi rfl, ?_⟩
    refine ⟨_, rfl, a, C, .ref c8, .ref c8, decide (8 = i), rfl, hE.same t1b, hX, (fun u r => r), one i 8 _ _ hi rfl, ?_⟩
    refine ⟨_, rfl, a, C, .ref c9, .ref c9, decide (9 = i), rfl, hE.same t1b, hX, (fun u r => r), one i 9 _ _ hi rfl, ?_⟩
    refine ⟨le_line (by show 3 ≤ 16000000; decide), fun p2 hp2 => ?_⟩
    have t2 : Same H _ := Same.lay (o := .lst [V.bl (decide (7 = i)), V.bl (decide (8 = i)), V.bl (decide (9 = i))]) t1b hp2
    have u2 : upd J1 p2 (.lst [V.bl (decide (7 = i)), V.bl (decide (8 = i)), V.bl (decide (9 = i))]) p2 = some (.lst [V.bl (decide (7 = i)), V.bl (decide (8 = i)), V.bl (decide (9 = i))]) := upd_same
    have r2 : upd J1 p2 (.lst [V.bl (decide (7 = i)), V.bl (decide (8 = i)), V.bl (decide (9 = i))]) _ = _ := same_new (o := .lst [V.bl (decide (7 = i)), V.bl (decide (8 = i)), V.bl (decide (9 = i))]) hp2 _ _ u1b
    generalize upd J1 p2 (.lst [V.bl (decide (7 = i)), V.bl (decide (8 = i)), V.bl (decide (9 = i))]) = G2 at t2 u2 r2 ⊢
    refine .inr (.inr (.inr ⟨_, _, _, _, rfl, rfl, r2, u2, le_line (by show 10 ≤ 16000000; decide), fun m2 hm2 => ?_⟩))
    have t2b : Same H _ := Same.lay (o := .lst ([V.bl (decide (0 = i)), V.bl (decide (1 = i)), V.bl (decide (2 = i)), V.bl (decide (3 = i))] ++ [V.bl (decide (4 = i)), V.bl (decide (5 = i)), V.bl (decide (6 = i))] ++ [V.bl (decide (7 = i)), V.bl (decide (8 = i)), V.bl (decide (9 = i))])) t2 hm2
    have u2b : upd G2 m2 (.lst ([V.bl (decide (0 = i)), V.bl (decide (1 = i)), V.bl (decide (2 = i)), V.bl (decide (3 = i))] ++ [V.bl (decide (4 = i)), V.bl (decide (5 = i)), V.bl (decide (6 = i))] ++ [V.bl (decide (7 = i)), V.bl (decide (8 = i)), V.bl (decide (9 = i))])) m2 = some (.lst ([V.bl (decide (0 = i)), V.bl (decide (1 = i)), V.bl (decide (2 = i)), V.bl (decide (3 = i))] ++ [V.bl (decide (4 = i)), V.bl (decide (5 = i)), V.bl (decide (6 = i))] ++ [V.bl (decide (7 = i)), V.bl (decide (8 = i)), V.bl (decide (9 = i))])) := upd_same
    show tSeq _ _ _ _ (upd G2 m2 (.lst ([V.bl (decide (0 = i)), V.bl (decide (1 = i)), V.bl (decide (2 = i)), V.bl (decide (3 = i))] ++ [V.bl (decide (4 = i)), V.bl (decide (5 = i)), V.bl (decide (6 = i))] ++ [V.bl (decide (7 = i)), V.bl (decide (8 = i)), V.bl (decide (9 = i))])))
    generalize upd G2 m2 (.lst ([V.bl (decide (0 = i)), V.bl (decide (1 = i)), V.bl (decide (2 = i)), V.bl (decide (3 = i))] ++ [V.bl (decide (4 = i)), V.bl (decide (5 = i)), V.bl (decide (6 = i))] ++ [V.bl (decide (7 = i)), V.bl (decide (8 = i)), V.bl (decide (9 = i))])) = J2 at t2b u2b ⊢
    refine ⟨_, rfl, ?_⟩
    refine ⟨_, rfl, a, C, .ref c10, .ref c10, decide (10 = i), rfl, hE.same t2b, hX, (fun u r => r), one i 10 _ _ hi rfl, ?_⟩
    refine ⟨_, rfl, a, C, .ref c11, .ref c11, decide (11 = i), rfl, hE.same t2b, hX, (fun u r => r), one i 11 _ _ hi rfl, ?_⟩
    refine ⟨_, rfl, a, C, .ref c12, .ref c12, decide (12 = i), rfl, hE.same t2b, hX, (fun u r => r), one i 12 _ _ hi rfl, ?_⟩
    refine ⟨le_line (by show 3 ≤ 16000000; decide), fun p3 hp3 => ?_⟩
    have t3 : Same H _ := Same.lay (o := .lst [V.bl (decide (10 = i)), V.bl (decide (11 = i)), V.bl (decide (12 = i))]) t2b hp3
    have u3 : upd J2 p3 (.lst [V.bl (decide (10 = i)), V.bl (decide (11 = i)), V.bl (decide (12 = i))]) p3 = some (.lst [V.bl (decide (10 = i)), V.bl (decide (11 = i)), V.bl (decide (12 = i))]) := upd_same
    have r3 : upd J2 p3 (.lst [V.bl (decide (10 = i)), V.bl (decide (11 = i)), V.bl (decide (12 = i))]) _ = _ := same_new (o := .lst [V.bl (decide (10 = i)), V.bl (decide (11 = i)), V.bl (decide (12 = i))]) hp3 _ _ u2b
    generalize upd J2 p3 (.lst [V.bl (decide (10 = i)), V.bl (decide (11 = i)), V.bl (decide (12 = i))]) = G3 at t3 u3 r3 ⊢
    refine .inr (.inr (.inr ⟨_, _, _, _, rfl, rfl, r3, u3, le_line (by show 13 ≤ 16000000; decide), fun m3 hm3 => ?_⟩))
    have t3b : Same H _ := Same.lay (o := .lst ([V.bl (decide (0 = i)), V.bl (decide (1 = i)), V.bl (decide (2 = i)), V.bl (decide (3 = i))] ++ [V.bl (decide (4 = i)), V.bl (decide (5 = i)), V.bl (decide (6 = i))] ++ [V.bl (decide (7 = i)), V.bl (decide (8 = i)), V.bl (decide (9 = i))] ++ [V.bl (decide (10 = i)), V.bl (decide (11 = i)), V.bl (decide (12 = i))])) t3 hm3
    have u3b : upd G3 m3 (.lst ([V.bl (decide (0 = i)), V.bl (decide (1 = i)), V.bl (decide (2 = i)), V.bl (decide (3 = i))] ++ [V.bl (decide (4 = i)), V.bl (decide (5 = i)), V.bl (decide (6 = i))] ++ [V.bl (decide (7 = i)), V.bl (decide (8 = i)), V.bl (decide (9 = i))] ++ [V.bl (decide (10 = i)), V.bl (decide (11 = i)), V.bl (decide (12 = i))])) m3 = some (.lst ([V.bl (decide (0 = i)), V.bl (decide (1 = i)), V.bl (decide (2 = i)), V.bl (decide (3 = i))] ++ [V.bl (decide (4 = i)), V.bl (decide (5 = i)), V.bl (decide (6 = i))] ++ [V.bl (decide (7 = i)), V.bl (decide (8 = i)), V.bl (decide (9 = i))] ++ [V.bl (decide (10 = i)), V.bl (decide (11 = i)), V.bl (decide (12 = i))])) := upd_same
    show tSeq _ _ _ _ (upd G3 m3 (.lst ([V.bl (decide (0 = i)), V.bl (decide (1 = i)), V.bl (decide (2 = i)), V.bl (decide (3 = i))] ++ [V.bl (decide (4 = i)), V.bl (decide (5 = i)), V.bl (decide (6 = i))] ++ [V.bl (decide (7 = i)), V.bl (decide (8 = i)), V.bl (decide (9 = i))] ++ [V.bl (decide (10 = i)), V.bl (decide (11 = i)), V.bl (decide (12 = i))])))
    generalize upd G3 m3 (.lst ([V.bl (decide (0 = i)), V.bl (decide (1 = i)), V.bl (decide (2 = i)), V.bl (decide (3 = i))] ++ [V.bl (decide (4 = i)), V.bl (decide (5 = i)), V.bl (decide (6 = i))] ++ [V.bl (decide (7 = i)), V.bl (decide (8 = i)), V.bl (decide (9 = i))] ++ [V.bl (decide (10 = i)), V.bl (decide (11 = i)), V.bl (decide (12 = i))])) = J3 at t3b u3b ⊢
    refine ⟨_, rfl, ?_⟩
    refine ⟨_, rfl, a, C, .ref c13, .ref c13, decide (13 = i), rfl, hE.same t3b, hX, (fun u r => r), one i 13 _ _ hi rfl, ?_⟩
    refine ⟨_, rfl, a, C, .ref c14, .ref c14, decide (14 = i), rfl, hE.same t3b, hX, (fun u r => r), one i 14 _ _ hi rfl, ?_⟩
    refine ⟨_, rfl, a, C, .ref c15, .ref c15, decide (15 = i), rfl, hE.same t3b, hX, (fun u r => r), one i 15 _ _ hi rfl, ?_⟩
    refine ⟨le_line (by show 3 ≤ 16000000; decide), fun p4 hp4 => ?_⟩
    have t4 : Same H _ := Same.lay (o := .lst [V.bl (decide (13 = i)), V.bl (decide (14 = i)), V.bl (decide (15 = i))]) t3b hp4
    have u4 : upd J3 p4 (.lst [V.bl (decide (13 = i)), V.bl (decide (14 = i)), V.bl (decide (15 = i))]) p4 = some (.lst [V.bl (decide (13 = i)), V.bl (decide (14 = i)), V.bl (decide (15 = i))]) := upd_same
    have r4 : upd J3 p4 (.lst [V.bl (decide (13 = i)), V.bl (decide (14 = i)), V.bl (decide (15 = i))]) _ = _ := same_new (o := .lst [V.bl (decide (13 = i)), V.bl (decide (14 = i)), V.bl (decide (15 = i))]) hp4 _ _ u3b
    generalize upd J3 p4 (.lst [V.bl (decide (13 = i)), V.bl (decide (14 = i)), V.bl (decide (15 = i))]) = G4 at t4 u4 r4 ⊢
    refine .inr (.inr (.inr ⟨_, _, _, _, rfl, rfl, r4, u4, le_line (by show 16 ≤ 16000000; decide), fun m4 hm4 => ?_⟩))
    have t4b : Same H _ := Same.lay (o := .lst ([V.bl (decide (0 = i)), V.bl (decide (1 = i)), V.bl (decide (2 = i)), V.bl (decide (3 = i))] ++ [V.bl (decide (4 = i)), V.bl (decide (5 = i)), V.bl (decide (6 = i))] ++ [V.bl (decide (7 = i)), V.bl (decide (8 = i)), V.bl (decide (9 = i))] ++ [V.bl (decide (10 = i)), V.bl (decide (11 = i)), V.bl (decide (12 = i))] ++ [V.bl (decide (13 = i)), V.bl (decide (14 = i)), V.bl (decide (15 = i))])) t4 hm4
    have u4b : upd G4 m4 (.lst ([V.bl (decide (0 = i)), V.bl (decide (1 = i)), V.bl (decide (2 = i)), V.bl (decide (3 = i))] ++ [V.bl (decide (4 = i)), V.bl (decide (5 = i)), V.bl (decide (6 = i))] ++ [V.bl (decide (7 = i)), V.bl (decide (8 = i)), V.bl (decide (9 = i))] ++ [V.bl (decide (10 = i)), V.bl (decide (11 = i)), V.bl (decide (12 = i))] ++ [V.bl (decide (13 = i)), V.bl (decide (14 = i)), V.bl (decide (15 = i))])) m4 = some (.lst ([V.bl (decide (0 = i)), V.bl (decide (1 = i)), V.bl (decide (2 = i)), V.bl (decide (3 = i))] ++ [V.bl (decide (4 = i)), V.bl (decide (5 = i)), V.bl (decide (6 = i))] ++ [V.bl (decide (7 = i)), V.bl (decide (8 = i)), V.bl (decide (9 = i))] ++ [V.bl (decide (10 = i)), V.bl (decide (11 = i)), V.bl (decide (12 = i))] ++ [V.bl (decide (13 = i)), V.bl (decide (14 = i)), V.bl (decide (15 = i))])) := upd_same
    show tSeq _ _ _ _ (upd G4 m4 (.lst ([V.bl (decide (0 = i)), V.bl (decide (1 = i)), V.bl (decide (2 = i)), V.bl (decide (3 = i))] ++ [V.bl (decide (4 = i)), V.bl (decide (5 = i)), V.bl (decide (6 = i))] ++ [V.bl (decide (7 = i)), V.bl (decide (8 = i)), V.bl (decide (9 = i))] ++ [V.bl (decide (10 = i)), V.bl (decide (11 = i)), V.bl (decide (12 = i))] ++ [V.bl (decide (13 = i)), V.bl (decide (14 = i)), V.bl (decide (15 = i))])))
    generalize upd G4 m4 (.lst ([V.bl (decide (0 = i)), V.bl (decide (1 = i)), V.bl (decide (2 = i)), V.bl (decide (3 = i))] ++ [V.bl (decide (4 = i)), V.bl (decide (5 = i)), V.bl (decide (6 = i))] ++ [V.bl (decide (7 = i)), V.bl (decide (8 = i)), V.bl (decide (9 = i))] ++ [V.bl (decide (10 = i)), V.bl (decide (11 = i)), V.bl (decide (12 = i))] ++ [V.bl (decide (13 = i)), V.bl (decide (14 = i)), V.bl (decide (15 = i))])) = J4 at t4b u4b ⊢
    refine ⟨_, rfl, ?_⟩
    refine ⟨_, rfl, a, C, .ref c16, .ref c16, decide (16 = i), rfl, hE.same t4b, hX, (fun u r => r), one i 16 _ _ hi rfl, ?_⟩
    refine ⟨_, rfl, a, C, .ref c17, .ref c17, decide (17 = i), rfl, hE.same t4b, hX, (fun u r => r), one i 17 _ _ hi rfl, ?_⟩
    refine ⟨_, rfl, a, C, .ref c18, .ref c18, decide (18 = i), rfl, hE.same t4b, hX, (fun u r => r), one i 18 _ _ hi rfl, ?_⟩
    refine ⟨le_line (by show 3 ≤ 16000000; decide), fun p5 hp5 => ?_⟩
    have t5 : Same H _ := Same.lay (o := .lst [V.bl (decide (16 = i)), V.bl (decide (17 = i)), V.bl (decide (18 = i))]) t4b hp5
    have u5 : upd J4 p5 (.lst [V.bl (decide (16 = i)), V.bl (decide (17 = i)), V.bl (decide (18 = i))]) p5 = some (.lst [V.bl (decide (16 = i)), V.bl (decide (17 = i)), V.bl (decide (18 = i))]) := upd_same
    have r5 : upd J4 p5 (.lst [V.bl (decide (16 = i)), V.bl (decide (17 = i)), V.bl (decide (18 = i))]) _ = _ := same_new (o := .lst [V.bl (decide (16 = i)), V.bl (decide (17 = i)), V.bl (decide (18 = i))]) hp5 _ _ u4b
    generalize upd J4 p5 (.lst [V.bl (decide (16 = i)), V.bl (decide (17 = i)), V.bl (decide (18 = i))]) = G5 at t5 u5 r5 ⊢
    refine .inr (.inr (.inr ⟨_, _, _, _, rfl, rfl, r5, u5, le_line (by show 19 ≤ 16000000; decide), fun m5 hm5 => ?_⟩))
    have t5b : Same H _ := Same.lay (o := .lst ([V.bl (decide (0 = i)), V.bl (decide (1 = i)), V.bl (decide (2 = i)), V.bl (decide (3 = i))] ++ [V.bl (decide (4 = i)), V.bl (decide (5 = i)), V.bl (decide (6 = i))] ++ [V.bl (decide (7 = i)), V.bl (decide (8 = i)), V.bl (decide (9 = i))] ++ [V.bl (decide (10 = i)), V.bl (decide (11 = i)), V.bl (decide (12 = i))] ++ [V.bl (decide (13 = i)), V.bl (decide (14 = i)), V.bl (decide (15 = i))] ++ [V.bl (decide (16 = i)), V.bl (decide (17 = i)), V.bl (decide (18 = i))])) t5 hm5
    have u5b : upd G5 m5 (.lst ([V.bl (decide (0 = i)), V.bl (decide (1 = i)), V.bl (decide (2 = i)), V.bl (decide (3 = i))] ++ [V.bl (decide (4 = i)), V.bl (decide (5 = i)), V.bl (decide (6 = i))] ++ [V.bl (decide (7 = i)), V.bl (decide (8 = i)), V.bl (decide (9 = i))] ++ [V.bl (decide (10 = i)), V.bl (decide (11 = i)), V.bl (decide (12 = i))] ++ [V.bl (decide (13 = i)), V.bl (decide (14 = i)), V.bl (decide (15 = i))] ++ [V.bl (decide (16 = i)), V.bl (decide (17 = i)), V.bl (decide (18 = i))])) m5 = some (.lst ([V.bl (decide (0 = i)), V.bl (decide (1 = i)), V.bl (decide (2 = i)), V.bl (decide (3 = i))] ++ [V.bl (decide (4 = i)), V.bl (decide (5 = i)), V.bl (decide (6 = i))] ++ [V.bl (decide (7 = i)), V.bl (decide (8 = i)), V.bl (decide (9 = i))] ++ [V.bl (decide (10 = i)), V.bl (decide (11 = i)), V.bl (decide (12 = i))] ++ [V.bl (decide (13 = i)), V.bl (decide (14 = i)), V.bl (decide (15 = i))] ++ [V.bl (decide (16 = i)), V.bl (decide (17 = i)), V.bl (decide (18 = i))])) := upd_same
    show tSeq _ _ _ _ (upd G5 m5 (.lst ([V.bl (decide (0 = i)), V.bl (decide (1 = i)), V.bl (decide (2 = i)), V.bl (decide (3 = i))] ++ [V.bl (decide (4 = i)), V.bl (decide (5 = i)), V.bl (decide (6 = i))] ++ [V.bl (decide (7 = i)), V.bl (decide (8 = i)), V.bl (decide (9 = i))] ++ [V.bl (decide (10 = i)), V.bl (decide (11 = i)), V.bl (decide (12 = i))] ++ [V.bl (decide (13 = i)), V.bl (decide (14 = i)), V.bl (decide (15 = i))] ++ [V.bl (decide (16 = i)), V.bl (decide (17 = i)), V.bl (decide (18 = i))])))
    generalize upd G5 m5 (.lst ([V.bl (decide (0 = i)), V.bl (decide (1 = i)), V.bl (decide (2 = i)), V.bl (decide (3 = i))] ++ [V.bl (decide (4 = i)), V.bl (decide (5 = i)), V.bl (decide (6 = i))] ++ [V.bl (decide (7 = i)), V.bl (decide (8 = i)), V.bl (decide (9 = i))] ++ [V.bl (decide (10 = i)), V.bl (decide (11 = i)), V.bl (decide (12 = i))] ++ [V.bl (decide (13 = i)), V.bl (decide (14 = i)), V.bl (decide (15 = i))] ++ [V.bl (decide (16 = i)), V.bl (decide (17 = i)), V.bl (decide (18 = i))])) = J5 at t5b u5b ⊢
    refine ⟨_, rfl, ?_⟩
    refine ⟨_, rfl, a, C, .ref c19, .ref c19, decide (19 = i), rfl, hE.same t5b, hX, (fun u r => r), one i 19 _ _ hi rfl, ?_⟩
    refine ⟨_, rfl, a, C, .ref c20, .ref c20, decide (20 = i), rfl, hE.same t5b, hX, (fun u r => r), one i 20 _ _ hi rfl, ?_⟩
    refine ⟨le_line (by show 2 ≤ 16000000; decide), fun p6 hp6 => ?_⟩
    have t6 : Same H _ := Same.lay (o := .lst [V.bl (decide (19 = i)), V.bl (decide (20 = i))]) t5b hp6
    have u6 : upd J5 p6 (.lst [V.bl (decide (19 = i)), V.bl (decide (20 = i))]) p6 = some (.lst [V.bl (decide (19 = i)), V.bl (decide (20 = i))]) := upd_same
    have r6 : upd J5 p6 (.lst [V.bl (decide (19 = i)), V.bl (decide (20 = i))]) _ = _ := same_new (o := .lst [V.bl (decide (19 = i)), V.bl (decide (20 = i))]) hp6 _ _ u5b
    generalize upd J5 p6 (.lst [V.bl (decide (19 = i)), V.bl (decide (20 = i))]) = G6 at t6 u6 r6 ⊢
    refine .inr (.inr (.inr ⟨_, _, _, _, rfl, rfl, r6, u6, le_line (by show 21 ≤ 16000000; decide), fun m6 hm6 => ?_⟩))
    exact k m6 _ upd_same (Same.lay t6 hm6)
end

def spInit (C : Addr) (g : List V → Option (List (Str × V))) : Sp := fun vs H Q _ => ∃ (a : Addr) (us : List V) (fs : List (Str × V)), vs = .ref a :: us ∧ g us = some fs ∧ H a = some (exo a C none) ∧
  ∀ (H' : Hp) (d : Addr), H d = none → d ≠ a → H' a = some (exo a C (some d)) → H' d = some (exd d fs) → (∀ b, b ≠ a → b ≠ d → H' b = H b) → Q .non H'
def gT : List V → Option (List (Str × V))
  | [v] => some [("at", v)]
  | _ => none
def gK : List V → Option (List (Str × V))
  | [n, t, y] => some [("why", y), ("at", t), ("name", n)]
  | _ => none
theorem gT_some {us : List V} {fs : List (Str × V)} (h : gT us = some fs) : ∃ v, us = [v] ∧ fs = [(("at" : Str), v)] := by
  match us, h with
  | [v], h => exact ⟨v, rfl, (Option.some.inj h).symm⟩
theorem gK_some {us : List V} {fs : List (Str × V)} (h : gK us = some fs) : ∃ n t y, us = [n, t, y] ∧ fs = [(("why" : Str), y), ("at", t), ("name", n)] := by
  match us, h with
  | [n, t, y], h => exact ⟨n, t, y, rfl, (Option.some.inj h).symm⟩
/-- a class with its own __init__, all that is asked of it -/
structure OwnI (K : PySem.W.Frag) (mg : Str → Option Value) (x : Str) (C fI : Addr) (fs : List Str) : Prop where
  t : OwnExc K C fI
  g : mg x = some (.ref C)
  x : XfC K C
  no : ∀ f ∈ fs, PySem.W.findIn K (.ref C) f = some none
section
variable {P : Program} {w : World} {K : PySem.W.Frag} {mg : Str → Option Value} {base : Heap}
theorem ok_initT {f C : Addr} {fd : FuncData} {x : Str} (F : Fun K "__init__" "NoText.__init__" s_NoText_init f fd) (O : OwnI K mg x C f ["at"]) : FnOk P w K mg base CX0 2 f fd ["self", "at"] (spInit C gT) := by
  refine F.ok sc_NoText_init (fun vs H Q E h => ?_) (fun cdv A outer s H vs Q E hr h => ?_)
  · obtain ⟨a, us, fs, rfl, hg, _⟩ := h
    obtain ⟨v, rfl, rfl⟩ := gT_some hg
    rfl
  · obtain ⟨a, us, fs, rfl, hg, ha, k⟩ := h
    obtain ⟨v, rfl, rfl⟩ := gT_some hg
    refine ⟨_, (pss_one (ps_ost (pv 0) (pv 1))), ?_⟩
    refine ⟨_, rfl, _, rfl, a, C, rfl, O.t.o, O.no _ (by simp), .inl ⟨ha, fun d hd hne => ?_⟩⟩
    exact k _ d hd hne upd_same (by rw [upd_ne hne]; exact upd_same) fun b h1 h2 => by rw [upd_ne h1, upd_ne h2]
theorem ok_initK {f C : Addr} {fd : FuncData} {x : Str} (F : Fun K "__init__" "NoKind.__init__" s_NoKind_init f fd) (O : OwnI K mg x C f ["name", "at", "why"]) : FnOk P w K mg base CX0 2 f fd ["self", "name", "at", "why"] (spInit C gK) := by
  refine F.ok sc_NoKind_init (fun vs H Q E h => ?_) (fun cdv A outer s H vs Q E hr h => ?_)
  · obtain ⟨a, us, fs, rfl, hg, _⟩ := h
    obtain ⟨n, t, y, rfl, rfl⟩ := gK_some hg
    rfl
  · obtain ⟨a, us, fs, rfl, hg, ha, k⟩ := h
    obtain ⟨n, t, y, rfl, rfl⟩ := gK_some hg
    refine ⟨_, (pss_cons (ps_ost (pv 0) (pv 1))
        (pss_cons (ps_ost (pv 0) (pv 2))
        (pss_one (ps_ost (pv 0) (pv 3))))), ?_⟩
    refine ⟨_, rfl, _, rfl, a, C, rfl, O.t.o, O.no _ (by simp), .inl ⟨ha, fun d hd hne => ?_⟩⟩
    refine ⟨_, rfl, _, rfl, a, C, rfl, O.t.o, O.no _ (by simp), .inr ⟨d, _, upd_same, by rw [upd_ne hne]; exact upd_same, by show 1 ≤ 900; decide, ?_⟩⟩
    refine ⟨_, rfl, _, rfl, a, C, rfl, O.t.o, O.no _ (by simp), .inr ⟨d, _, by rw [upd_ne (Ne.symm hne)]; exact upd_same, upd_same, by show 2 ≤ 900; decide, ?_⟩⟩
    exact k _ d hd hne (by rw [upd_ne (Ne.symm hne), upd_ne (Ne.symm hne)]; exact upd_same) upd_same fun b h1 h2 => by rw [upd_ne h2, upd_ne h2, upd_ne h1, upd_ne h2]
end

theorem init_same {H H' : Hp} {a d : Addr} {o : HO} (ha : H a = none) (hd : upd H a o d = none) (hne : d ≠ a) (k : ∀ b, b ≠ a → b ≠ d → H' b = upd H a o b) : Same H H' := fun b u e => by
  have h1 : b ≠ a := ne_of_none e ha
  have h2 : b ≠ d := by
    rintro rfl
    rw [upd_ne h1] at hd
    rw [hd] at e
    cases e
  rw [k b h1 h2, upd_ne h1]
  exact e
theorem iteFx {c : Bool} {A B : Prop} (hc : c = false) (h : B) : if c = true then A else B := by
  rw [hc, if_neg Bool.false_ne_true]
  exact h
theorem iteTx {c : Bool} {A B : Prop} (hc : c = true) (h : A) : if c = true then A else B := by
  rw [if_pos hc]
  exact h
theorem ne_self (v : V) : (!decide (v = v)) = false := by simp
def gaNoText : List Value → List Value := id
def gvNoText : List V → List V := id
theorem relNoText {zs : List V} {ws : List Value} (h : Vals zs ws) : Vals (gvNoText zs) (gaNoText ws) := h
def gaNoKind : List Value → List Value
  | [y, t, n] => [n, t, y]
  | l => l
def gvNoKind : List V → List V
  | [y, t, n] => [n, t, y]
  | l => l
theorem relNoKind {zs : List V} {ws : List Value} (h : Vals zs ws) : Vals (gvNoKind zs) (gaNoKind ws) := by
  match zs, ws, h with
  | [], [], h => exact h
  | [_], [_], h => exact h
  | [_, _], [_, _], h => exact h
  | [_, _, _], [_, _, _], .cons a (.cons b (.cons c d)) => exact .cons c (.cons b (.cons a d))
  | _ :: _ :: _ :: _ :: _, _ :: _ :: _ :: _ :: _, h => exact h
section
variable {P : Program} {w : World} {K : PySem.W.Frag} {mg : Str → Option Value} {base : Heap} {c0 c1 c2 c3 c4 c5 c6 c7 c8 c9 c10 c11 c12 c13 c14 c15 c16 c17 c18 c19 c20 cE fT fK : Addr} {fdT fdK : FuncData}
theorem ok_law {fL : Addr} {fdL : FuncData} (F : Fun K "law" "law" s_law fL fdL) (T : Bl mg) (hVE : mg "ValueError" = none) (C_law_pen : CallOk P w K mg base 1 "_law_pen" ["_law_script"] (spPen K)) (C_law_draw : CallOk P w K mg base 2 "_law_draw" ["_law_pen_here", "_law_below"] spDraw)
    (C_law_name : CallOk P w K mg base 3 "_law_name" ["_law_pen_here", "_law_gone"] spName) (C_law_made : CallOk P w K mg base 3 "_law_made" ["_law_text"] (spMade [c0, c1, c2, c3, c4, c5, c6, c7, c8, c9, c10, c11, c12, c13, c14, c15, c16, c17, c18]))
    (C_law_looks : CallOk P w K mg base 3 "_law_looks" ["_law_one"] (spLooks K [c0, c1, c2, c3, c4, c5, c6, c7, c8, c9, c10, c11, c12, c13, c14, c15, c16, c17, c18, c19, c20])) (O_NoText : OwnI K mg "NoText" c19 fT ["at"]) (O_NoKind : OwnI K mg "NoKind" c20 fK ["name", "at", "why"])
    (F_NoText : FnOk P w K mg base CX0 2 fT fdT ["self", "at"] (spInit c19 gT)) (F_NoKind : FnOk P w K mg base CX0 2 fK fdK ["self", "name", "at", "why"] (spInit c20 gK))
    (B_NoText : ∀ (z : Shared) (self : Value) (us : List Value), us.length = 1 → BindsTo z fdT ⟨self :: us, []⟩ ((["self", "at"] : List Str).zip (self :: us)))
    (B_NoKind : ∀ (z : Shared) (self : Value) (us : List Value), us.length = 3 → BindsTo z fdK ⟨self :: us, []⟩ ((["self", "name", "at", "why"] : List Str).zip (self :: us)))
    (N_NoText : ∀ (z : Shared) (self : Value) (ws : List Value), ws.length = 1 → BindsTo z fdT ⟨[self], (["at"] : List Str).zip ws⟩ ((["self", "at"] : List Str).zip (self :: gaNoText ws)))
    (N_NoKind : ∀ (z : Shared) (self : Value) (ws : List Value), ws.length = 3 → BindsTo z fdK ⟨[self], (["why", "at", "name"] : List Str).zip ws⟩ ((["self", "name", "at", "why"] : List Str).zip (self :: gaNoKind ws)))
    (G_OnceError : GV mg "OnceError" (.ref cE)) (allX : ∀ C ∈ ([c0, c1, c2, c3, c4, c5, c6, c7, c8, c9, c10, c11, c12, c13, c14, c15, c16, c17, c18, c19, c20] : List Addr), ExcC K C) (isVE : ∀ C ∈ ([c0, c1, c2, c3, c4, c5, c6, c7, c8, c9, c10, c11, c12, c13, c14, c15, c16, c17, c18, c19, c20] : List Addr), PySem.W.kitOne K (.ref C) (.type "ValueError") = some true) (isOE : ∀ C ∈ ([c0, c1, c2, c3, c4, c5, c6, c7, c8, c9, c10, c11, c12, c13, c14, c15, c16, c17, c18, c19, c20] : List Addr), PySem.W.kitOne K (.ref C) (.ref cE) = some true) :
    FnG P w K mg base 4 fL fdL ["_law_script"] (spLaw K) := by
  refine Fun.okG F sc_law (fun vs H Q E h => ?_) (fun cdv A outer s H vs Q E hg hr h => ?_)
  · obtain ⟨a, ns, rfl, _⟩ := h
    rfl
  · obtain ⟨a, ns, rfl, hS, hl, k⟩ := h
    refine ⟨_, (pss_cons (ps_set (i := 1) sc_law.nd rfl (Or.inl rfl) (pe_callOk C_law_pen hr (by omega) (by rfl) (pa_cons (pv 0) pa_nil)))
        (pss_cons (ps_set (i := 2) sc_law.nd rfl (Or.inl rfl) (pe_callOk C_law_draw hr (by omega) (by rfl) (pa_cons (pv 1) (pa_cons (pe_op op_pow pe_int pe_int) pa_nil))))
        (pss_cons (ps_set (i := 3) sc_law.nd rfl (Or.inl rfl) (pe_callOk C_law_name hr (by omega) (by rfl) (pa_cons (pv 1) (pa_cons (pe_lst pa_nil) pa_nil))))
        (pss_cons (ps_set (i := 4) sc_law.nd rfl (Or.inl rfl) (pe_ix ix_list (pe_lst (pa_cons pe_non (pa_cons (pe_callOk C_law_name hr (by omega) (by rfl) (pa_cons (pv 1) (pa_cons (pe_lst pa_nil) pa_nil))) pa_nil))) (pe_callOk C_law_draw hr (by omega) (by rfl) (pa_cons (pv 1) (pa_cons pe_int pa_nil))) (fun _ _ => rfl)))
        (pss_cons (ps_set (i := 5) sc_law.nd rfl (Or.inl rfl) (pe_op opAdd (pe_callOk C_law_made hr (by omega) (by rfl) (pa_cons (pv 3) pa_nil)) (pe_lst (pa_cons (pe_oexV (n := 1) O_NoText.t F_NoText (hr.mono (by decide)) B_NoText (by rfl) O_NoText.g (pa_cons (pv 2) pa_nil)) (pa_cons (pe_oexV (n := 3) O_NoKind.t F_NoKind (hr.mono (by decide)) B_NoKind (by rfl) O_NoKind.g (pa_cons (pv 4) (pa_cons (pe_op opAdd (pv 2) pe_int) (pa_cons (pv 3) pa_nil)))) pa_nil)))))
        (pss_cons (ps_par (i := 6) (j := 7) (by rfl) sc_law.nd rfl rfl (by decide) rfl rfl (pa_cons (pe_oexK (ks := ["at"]) (m := 1) (g := gaNoText) (gV := gvNoText) O_NoText.t F_NoText (hr.mono (by decide)) N_NoText relNoText (by rfl) O_NoText.g (pk_cons (pv 2) pk_nil)) (pa_cons (pe_oexK (ks := ["why", "at", "name"]) (m := 3) (g := gaNoKind) (gV := gvNoKind) O_NoKind.t F_NoKind (hr.mono (by decide)) N_NoKind relNoKind (by rfl) O_NoKind.g (pk_cons (pv 3) (pk_cons (pv 2) (pk_cons (pv 4) pk_nil)))) pa_nil)) (by rfl))
        (pss_cons (ps_if (PW.pt (pw_or (pt_cmpR op_ne (pe_xof (pv 6)) (pv 2) (nomark _)) (pw_or (pt_cmpR op_ne (pe_xof (pv 7)) (pv 2) (nomark _)) (pw_or (pt_cmpR op_ne (pe_xof (pv 7)) (pv 4) (nomark _)) (pw_or1 (pt_cmpR op_ne (pe_xof (pv 7)) (pv 3) (nomark _))))))) (pss_one (ps_ret pe_bl)) pss_nil)
        (pss_cons (ps_for PassesOwn.never rfl (pi_range1 (by rfl) T.range_ (pa_cons (pe_callB call_len_seq (by rfl) T.len_ (by decide +kernel) (pa_cons (pv 5) pa_nil)) pa_nil)) (pg_name (i := 8) sc_law.nd rfl (Or.inr rfl) (by first | exact .inl rfl | exact .inr rfl)) (pss_cons (ps_if (PW.pt (pw_or (pt_not (pt_val (pe_callB call_isX (by rfl) T.isinstance_ (by decide +kernel) (pa_cons (pe_ix ix_list (pv 5) (pv 8) (fun _ _ => rfl)) (pa_cons (pe_bltn (v := .ty "ValueError") (by rfl) hVE (by decide +kernel) rfl) pa_nil))))) (pw_or1 (pt_not (pt_val (pe_callB call_isX (by rfl) T.isinstance_ (by decide +kernel) (pa_cons (pe_ix ix_list (pv 5) (pv 8) (fun _ _ => rfl)) (pa_cons (pe_gv G_OnceError rfl) pa_nil)))))))) (pss_one (ps_ret pe_bl)) pss_nil)
        (pss_one (ps_if (pt_cmpR (op_neD hr.units) (pe_callOk C_law_looks hr (by omega) (by rfl) (pa_cons (pe_ix ix_list (pv 5) (pv 8) (fun _ _ => rfl)) pa_nil)) (pe_lc (own := [("_law_j", 9)]) (g := gName 9) (tt := tYes) rfl sc_law.nd (pi_range1 (by rfl) T.range_ (pa_cons (pe_callB call_len_seq (by rfl) T.len_ (by decide +kernel) (pa_cons (pv 5) pa_nil)) pa_nil)) (blkOk_by (N := sl_law) (sc := defScope s_law) (by decide +kernel)) (fun _ _ _ _ _ => pg_name (i := 9) sc_law.nd rfl (Or.inl rfl)) (fun _ _ _ _ _ => pts_nil) (fun _ _ _ _ _ => (pe_cmpR op_eq (pv 9) (pv 8) (nomark _)))) (nomark _)) (pss_one (ps_ret pe_bl)) pss_nil))))
        (pss_cons (ps_if (PW.pt (pw_or (pt_cmpR op_ne (pe_xof (pe_ix ix_list (pv 5) (pe_un un_neg pe_int) (fun _ _ => rfl))) (pv 2) (nomark _)) (pw_or1 (pt_cmpR op_ne (pe_xof (pe_ix ix_list (pv 5) (pe_un un_neg pe_int) (fun _ _ => rfl))) (pe_op opAdd (pv 2) pe_int) (nomark _))))) (pss_one (ps_ret pe_bl)) pss_nil)
        (pss_one (ps_ret (pe_and (pe_cmpR op_eq (pe_xof (pe_ix ix_list (pv 5) (pe_un un_neg pe_int) (fun _ _ => rfl))) (pv 4) (nomark _)) (pe_one (pe_cmpR op_eq (pe_xof (pe_ix ix_list (pv 5) (pe_un un_neg pe_int) (fun _ _ => rfl))) (pv 3) (nomark _))))))))))))))), ?_⟩
    refine ⟨_, rfl, a, ns, rfl, hS, hl, fun p c H0 hP0 s0 _ _ => ?_⟩
    refine ⟨_, rfl, _, _, rfl, rfl, ⟨by decide, by decide, by decide⟩, p, c, 10 ^ 9, rfl, hP0, by decide, by decide, fun spot H1 sp0 sp1 hP1 k1 => ?_⟩
    refine ⟨_, rfl, Nat.zero_le _, fun q hq => ⟨p, c, q, [], rfl, hP1.new hq, upd_same, hP1.neP hq, by decide, fun x H2 hx hP2 k2 => ?_⟩⟩
    refine ⟨_, rfl, Nat.zero_le _, fun q2 hq2 => ⟨p, c, q2, [], rfl, hP2.new hq2, upd_same, hP2.neP hq2, by decide, fun x2 H3 hx2 hP3 k3 => ?_⟩⟩
    refine ⟨le_line (by show 2 ≤ 16000000; decide), fun q3 hq3 => ⟨_, rfl, p, c, 2, rfl, hP3.new hq3, by decide, by decide, fun w2 H4 w0 w1 hP4 k4 => ?_⟩⟩
    have e4 : H4 q3 = some (.lst [.non, .str x2]) := k4 _ _ upd_same (hP3.neP hq3)
    obtain ⟨who, hwho, swho⟩ : ∃ who : V, atI [V.non, .str x2] w2 = some who ∧ scal who who = true := by
      have : w2 = 0 ∨ w2 = 1 := by omega
      rcases this with rfl | rfl
      · exact ⟨.non, rfl, rfl⟩
      · exact ⟨.str x2, rfl, rfl⟩
    refine ⟨q3, _, w2, who, rfl, rfl, SqL.of e4, hwho, ?_⟩
    -- the refusals
    refine ⟨_, rfl, x, rfl, fun m as H5 hA hm s5 m0 => ?_⟩
    refine ⟨_, rfl, ⟨rfl, by decide, fun aT hT => ⟨aT, _, _, rfl, rfl, upd_same, fun H6 dT hdT hnT gT6 fT6 oT6 => ⟨rfl, ?_⟩⟩⟩⟩
    have s6 : Same H5 H6 := init_same hT hdT hnT oT6
    refine ⟨_, rfl, _, rfl, .inl ⟨_, _, rfl, rfl, _, rfl, ⟨rfl, by decide, fun aK hK => ⟨aK, _, _, rfl, rfl, upd_same, fun H7 dK hdK hnK gK7 fK7 oK7 => ⟨rfl, ?_⟩⟩⟩⟩⟩
    have s7 : Same H6 H7 := init_same hK hdK hnK oK7
    have xT : ExAt H7 aT c19 _ := ⟨dT, s7 _ _ gT6, s7 _ _ fT6⟩
    have xK : ExAt H7 aK c20 _ := ⟨dK, gK7, fK7⟩
    have hA7 : Exs H7 [c0, c1, c2, c3, c4, c5, c6, c7, c8, c9, c10, c11, c12, c13, c14, c15, c16, c17, c18, c19, c20] (as ++ [aT, aK]) := (hA.same (s6.trans s7)).app (.cons (.inr ⟨_, xT⟩) (.cons (.inr ⟨_, xK⟩) .nil))
    have m7 := (s6.trans s7) _ _ hm
    clear hA gT6 fT6 oT6 gK7 fK7 oK7 hdT hdK
    refine ⟨le_line (by show 2 ≤ 16000000; decide), fun q8 hq8 => ?_⟩
    have las := hA7.length
    rw [List.length_append] at las
    refine .inr (.inr (.inr ⟨_, _, _, _, rfl, rfl, same_new hq8 _ _ m7, upd_same, le_line (by rw [List.length_map]; show _ + 2 ≤ 16000000; have : as.length + 2 = 21 := las; omega), fun L hL => ?_⟩))
    have hA8 := (hA7.same (same_new (o := .lst [.ref aT, .ref aK]) hq8)).same (same_new (o := .lst (as.map V.ref ++ [.ref aT, .ref aK])) hL)
    have xT8 := (xT.same (same_new (o := .lst [.ref aT, .ref aK]) hq8)).same (same_new (o := .lst (as.map V.ref ++ [.ref aT, .ref aK])) hL)
    have xK8 := (xK.same (same_new (o := .lst [.ref aT, .ref aK]) hq8)).same (same_new (o := .lst (as.map V.ref ++ [.ref aT, .ref aK])) hL)
    have eL : upd (upd H7 q8 (.lst [.ref aT, .ref aK])) L (.lst (as.map V.ref ++ [.ref aT, .ref aK])) L = some (.lst (as.map V.ref ++ [.ref aT, .ref aK])) := upd_same
    show tSeq _ _ _ _ (upd (upd H7 q8 (.lst [.ref aT, .ref aK])) L (.lst (as.map V.ref ++ [.ref aT, .ref aK])))
    generalize upd (upd H7 q8 (.lst [.ref aT, .ref aK])) L (.lst (as.map V.ref ++ [.ref aT, .ref aK])) = H8 at hA8 xT8 xK8 eL ⊢
    clear hA7 xT xK m7
    -- by names
    refine ⟨_, rfl, rfl, fun aE hE => ⟨aE, _, _, rfl, rfl, upd_same, fun H9 dE hdE hnE gE fE oE => ⟨rfl, ?_⟩⟩⟩
    have s9 : Same H8 H9 := init_same hE hdE hnE oE
    have xE : ExAt H9 aE c19 _ := ⟨dE, gE, fE⟩
    refine ⟨_, rfl, _, rfl, _, rfl, rfl, fun aF hF => ⟨aF, _, _, rfl, rfl, upd_same, fun HA dF hdF hnF gF fF oF => ⟨rfl, ?_⟩⟩⟩
    have sA : Same H9 HA := init_same hF hdF hnF oF
    have xF : ExAt HA aF c20 _ := ⟨dF, gF, fF⟩
    have xEA := xE.same sA
    have hAA := hA8.same (s9.trans sA)
    have xTA := xT8.same (s9.trans sA)
    have xKA := xK8.same (s9.trans sA)
    have eA := (s9.trans sA) _ _ eL
    clear hA8 xT8 xK8 eL gE fE oE gF fF oF xE
    refine ⟨_, _, rfl, ?_⟩
    refine ⟨_, rfl, aE, _, _, _, rfl, xEA, O_NoText.x, O_NoText.no _ (by simp), rfl, _, rfl, rfl, ?_⟩
    refine ⟨_, rfl, iteFx (ne_self _) ?_⟩
    refine ⟨_, rfl, aF, _, _, _, rfl, xF, O_NoKind.x, O_NoKind.no _ (by simp), rfl, _, rfl, rfl, ?_⟩
    refine ⟨_, rfl, iteFx (ne_self _) ?_⟩
    refine ⟨_, rfl, aF, _, _, _, rfl, xF, O_NoKind.x, O_NoKind.no _ (by simp), rfl, _, rfl, swho, ?_⟩
    refine ⟨_, rfl, iteFx (ne_self _) ?_⟩
    refine ⟨_, rfl, aF, _, _, _, rfl, xF, O_NoKind.x, O_NoKind.no _ (by simp), rfl, _, rfl, rfl, ?_⟩
    refine ⟨_, rfl, iteFx (ne_self _) ?_⟩
    -- each of them
    have hal : (as ++ [aT, aK]).length = 21 := hAA.length
    have eA' : HA L = some (.lst ((as ++ [aT, aK]).map V.ref)) := by rw [List.map_append]; exact eA
    have hln : (as.map V.ref ++ [V.ref aT, V.ref aK]).length = 21 := by
      rw [List.length_append, List.length_map]
      show as.length + 2 = 21
      rw [List.length_append] at hal
      exact hal
    refine ⟨_, rfl, L, _, rfl, .inl (SqL.of eA), 21, by rw [hln] <;> rfl, by decide, by decide, for_range (lo := 0) (n := 21) (fun i σ H' => ∃ v8 v9, σ = [some (.ref a), some (.ref p), some (.int spot), some (.str x), some who, some (.ref L), some (.ref aE), some (.ref aF), v8, v9] ∧ Same HA H') ⟨none, none, rfl, Same.refl HA⟩ ?_ ?_⟩
    · rintro i σ HB hi ⟨v8, v9, rfl, sB⟩
      obtain ⟨b, hb⟩ : ∃ b, (as ++ [aT, aK])[i]? = some b := ⟨_, List.getElem?_eq_getElem (by omega)⟩
      obtain ⟨C, hC⟩ : ∃ C, ([c0, c1, c2, c3, c4, c5, c6, c7, c8, c9, c10, c11, c12, c13, c14, c15, c16, c17, c18, c19, c20] : List Addr)[i]? = some C := ⟨_, List.getElem?_eq_getElem (by show i < 21; omega)⟩
      have hE := (hAA.at hC hb).same sB
      have hm := List.mem_of_getElem? hC
      have hat : atI ((as ++ [aT, aK]).map V.ref) (0 + (i : Int)) = some (.ref b) := at_nat (by rw [List.getElem?_map, hb]; rfl)
      refine ⟨_, rfl, _, rfl, L, _, _, .ref b, rfl, rfl, SqL.of (sB _ _ eA'), hat, b, C, .ty "ValueError", .type "ValueError", true, rfl, hE, allX C hm, (fun u r => r), isVE C hm, ?_⟩
      refine ⟨_, rfl, iteF ?_⟩
      refine ⟨_, rfl, _, rfl, L, _, _, .ref b, rfl, rfl, SqL.of (sB _ _ eA'), hat, b, C, .ref cE, .ref cE, true, rfl, hE, allX C hm, (fun u r => r), isOE C hm, ?_⟩
      refine ⟨_, rfl, iteF ?_⟩
      refine ⟨_, rfl, _, rfl, L, _, _, .ref b, rfl, rfl, SqL.of (sB _ _ eA'), hat, b, C, i, rfl, hC, hE, allX C hm, fun pl HC hpl sC => ?_⟩
      have eC := sC _ _ (sB _ _ eA)
      refine ⟨_, rfl, L, _, rfl, .inl (SqL.of eC), 21, by rw [hln] <;> rfl, by decide, by decide, fun D hD => ?_⟩
      refine lc_range (lo := 0) (n := 21) (fun j H' => H' D = some (.lst (((List.range j).map fun m => decide (m = i)).map V.bl)) ∧ Same HC H') ⟨upd_same, same_new hD⟩ ?_ ?_
      · rintro j HD hj ⟨eD, sD⟩
        refine ⟨rfl, ?_⟩
        simp only [tYes, if_true]
        refine ⟨_, rfl, _, rfl, rfl, _, eD, ?_, ?_, Same.mut sD hD⟩
        · rw [List.length_map, List.length_map, List.length_range]
          exact lt_line (by omega)
        · rw [upd_same, List.range_succ, List.map_append, List.map_append]
          have e : decide (V.int (0 + (j : Int)) = V.int (0 + (i : Int))) = decide (j = i) := by
            rw [decide_eq_decide]
            exact ⟨fun z => by injection z with z; omega, fun z => by rw [z]⟩
          rw [e]
          rfl
      · rintro HD ⟨eD, sD⟩
        refine ⟨_, _, .lst (SqL.of (sD _ _ hpl)) (dp_bls _ _ _), .lst (SqL.of eD) (dp_bls _ _ _), shaped_bls _, shaped_bls _, ?_⟩
        refine ⟨_, rfl, iteFx ?_ ?_⟩
        · exact congrArg Bool.not (eqv_bl _)
        · exact ⟨_, _, rfl, (sB.trans sC).trans sD⟩
    · rintro σ HB ⟨v8, v9, rfl, sB⟩
      have eB := sB _ _ eA
      refine ⟨_, rfl, _, rfl, L, _, -2, .ref aT, rfl, rfl, SqL.of eB, at_last2 _ _ _, aT, _, _, _, rfl, xTA.same sB, O_NoText.x, O_NoText.no _ (by simp), rfl, _, rfl, rfl, ?_⟩
      refine ⟨_, rfl, iteFx (ne_self _) ?_⟩
      refine ⟨_, rfl, _, rfl, L, _, -1, .ref aK, rfl, rfl, SqL.of eB, at_last1 _ _ _, aK, _, _, _, rfl, xKA.same sB, O_NoKind.x, O_NoKind.no _ (by simp), rfl, _, rfl, .inl ⟨_, _, rfl, rfl, rfl, ?_⟩⟩
      refine ⟨_, rfl, iteFx (ne_self _) ?_⟩
      refine ⟨_, rfl, _, rfl, L, _, -1, .ref aK, rfl, rfl, SqL.of eB, at_last1 _ _ _, aK, _, _, _, rfl, xKA.same sB, O_NoKind.x, O_NoKind.no _ (by simp), rfl, _, rfl, swho, ?_⟩
      refine ⟨_, rfl, iteTx (decide_eq_true rfl) ?_⟩
      refine ⟨_, rfl, _, rfl, L, _, -1, .ref aK, rfl, rfl, SqL.of eB, at_last1 _ _ _, aK, _, _, _, rfl, xKA.same sB, O_NoKind.x, O_NoKind.no _ (by simp), rfl, _, rfl, rfl, ?_⟩
      rw [decide_eq_true (rfl : V.str x = V.str x)]
      exact k _
end


def onesB (K : PySem.W.Frag) (cs : List Addr) : Bool := (List.range cs.length).all fun i => (List.range cs.length).all fun j =>
  match cs[i]?, cs[j]? with
  | some C, some D => PySem.W.kitOne K (.ref C) (.ref D) == some (decide (j = i))
  | _, _ => true
theorem ones_mk {K : PySem.W.Frag} {cs : List Addr} (h : onesB K cs = true) : Ones K cs := by
  intro i j C D hi hj
  have li := (List.getElem?_eq_some_iff.mp hi).1
  have lj := (List.getElem?_eq_some_iff.mp hj).1
  have q := List.all_eq_true.mp (List.all_eq_true.mp h i (List.mem_range.mpr li)) j (List.mem_range.mpr lj)
  rw [hi, hj] at q
  exact eq_of_beq q

def excB (K : PySem.W.Frag) (D : Addr) : Bool := PySem.W.findIn K (.ref D) "__getattribute__" == some (some (.builtin "BaseException.__getattribute__")) && PySem.W.findIn K (.ref D) "__getattr__" == some none && PySem.W.subIn K (.ref D) (.type "BaseException") == some true && PySem.W.hasDictIn K D &&
  PySem.W.findIn K (.ref D) "__class__" == some (some (.builtin "object.__class__")) && PySem.W.specialIn K (.builtin "object.__class__") "__get__" == some (some (.builtin "getset_descriptor.__get__")) && PySem.W.takesIn K (.builtin "object.__class__") == some true && PySem.W.mroIn K D (.type "object") == some true
theorem excB_mk {K : PySem.W.Frag} {D : Addr} (h : excB K D = true) : ExcC K D := by
  simp only [excB, Bool.and_eq_true, beq_iff_eq] at h
  obtain ⟨⟨⟨⟨⟨⟨⟨h1, h2⟩, h3⟩, h4⟩, h5⟩, h6⟩, h7⟩, h8⟩ := h
  exact ⟨h1, h2, h3, h4, h5, h6, h7, h8⟩
def allB (K : PySem.W.Frag) (cE : Addr) (cs : List Addr) : Bool := cs.all fun C => excB K C && (PySem.W.kitOne K (.ref C) (.type "ValueError") == some true && PySem.W.kitOne K (.ref C) (.ref cE) == some true)
theorem allB_at {K : PySem.W.Frag} {cE : Addr} {cs : List Addr} (h : allB K cE cs = true) (C : Addr) (hC : C ∈ cs) : ExcC K C ∧ PySem.W.kitOne K (.ref C) (.type "ValueError") = some true ∧ PySem.W.kitOne K (.ref C) (.ref cE) = some true := by
  have q := List.all_eq_true.mp h C hC
  simp only [Bool.and_eq_true, beq_iff_eq] at q
  exact ⟨excB_mk q.1, q.2.1, q.2.2⟩
theorem all_nil {p : Str → Prop} : ∀ f ∈ ([] : List Str), p f := fun f h => nomatch h
theorem all_cons {p : Str → Prop} {x : Str} {l : List Str} (h : p x) (t : ∀ f ∈ l, p f) : ∀ f ∈ x :: l, p f := fun f hf => by
  rcases List.mem_cons.mp hf with rfl | hf
  · exact h
  · exact t f hf
end Ow
namespace Ow
open PySem PySem.Spec PyProof.Rows L2
theorem mk01 {K : PySem.W.Frag} {h : Heap} {mg : Str → Option Value} {c0 c1 c2 c3 c4 c5 c6 c7 c8 c9 c10 c11 c12 c13 c14 c15 c16 c17 c18 c19 c20 cE fT fK : Addr} {nmT quT : Str} {NT : Addr} {bsT bmT : List Value} {snT : List Str} {subT : List Value} {abT : Bool} {colT : Option Bool} {ddT : Option Addr} {m0T m1T m2T m3T m5T : Option Value} {ocT kVT dcT pmT cdT ctT : Value} {odT anT : Option Addr} {slT : Array (Option Value)} {nmK quK : Str} {NK : Addr} {bsK bmK : List Value} {snK : List Str} {subK : List Value} {abK : Bool} {colK : Option Bool} {ddK : Option Addr} {m0K m1K m2K m3K m5K : Option Value} {ocK kVK dcK pmK cdK ctK : Value} {odK anK : Option Addr} {slK : Array (Option Value)} (X : K.In h) (G : h.Ns mainGlobals mg)
    (a0 : PySem.W.nsIn K mainGlobals (Str.ofString "TooLong") = some (some (.ref c0)))
    (q0 : PySem.W.excIn K c0 [.type "ValueError", .type "Exception", .type "BaseException", .type "object"] "ValueError.__new__" = true)
    (k0 : PySem.W.keepIn K (.ref c0) = true)
    (a1 : PySem.W.nsIn K mainGlobals (Str.ofString "NoAgent") = some (some (.ref c1)))
    (q1 : PySem.W.excIn K c1 [.type "ValueError", .type "Exception", .type "BaseException", .type "object"] "ValueError.__new__" = true)
    (k1 : PySem.W.keepIn K (.ref c1) = true)
    (a2 : PySem.W.nsIn K mainGlobals (Str.ofString "NoPort") = some (some (.ref c2)))
    (q2 : PySem.W.excIn K c2 [.type "ValueError", .type "Exception", .type "BaseException", .type "object"] "ValueError.__new__" = true)
    (k2 : PySem.W.keepIn K (.ref c2) = true)
    (a3 : PySem.W.nsIn K mainGlobals (Str.ofString "Tied") = some (some (.ref c3)))
    (q3 : PySem.W.excIn K c3 [.type "ValueError", .type "Exception", .type "BaseException", .type "object"] "ValueError.__new__" = true)
    (k3 : PySem.W.keepIn K (.ref c3) = true)
    (a4 : PySem.W.nsIn K mainGlobals (Str.ofString "NoMove") = some (some (.ref c4)))
    (q4 : PySem.W.excIn K c4 [.type "ValueError", .type "Exception", .type "BaseException", .type "object"] "ValueError.__new__" = true)
    (k4 : PySem.W.keepIn K (.ref c4) = true)
    (a5 : PySem.W.nsIn K mainGlobals (Str.ofString "NoRule") = some (some (.ref c5)))
    (q5 : PySem.W.excIn K c5 [.type "ValueError", .type "Exception", .type "BaseException", .type "object"] "ValueError.__new__" = true)
    (k5 : PySem.W.keepIn K (.ref c5) = true)
    (a6 : PySem.W.nsIn K mainGlobals (Str.ofString "NoDef") = some (some (.ref c6)))
    (q6 : PySem.W.excIn K c6 [.type "ValueError", .type "Exception", .type "BaseException", .type "object"] "ValueError.__new__" = true)
    (k6 : PySem.W.keepIn K (.ref c6) = true)
    (a7 : PySem.W.nsIn K mainGlobals (Str.ofString "NotShown") = some (some (.ref c7)))
    (q7 : PySem.W.excIn K c7 [.type "ValueError", .type "Exception", .type "BaseException", .type "object"] "ValueError.__new__" = true)
    (k7 : PySem.W.keepIn K (.ref c7) = true)
    (a8 : PySem.W.nsIn K mainGlobals (Str.ofString "NoSymbol") = some (some (.ref c8)))
    (q8 : PySem.W.excIn K c8 [.type "ValueError", .type "Exception", .type "BaseException", .type "object"] "ValueError.__new__" = true)
    (k8 : PySem.W.keepIn K (.ref c8) = true)
    (a9 : PySem.W.nsIn K mainGlobals (Str.ofString "NoRoom") = some (some (.ref c9)))
    (q9 : PySem.W.excIn K c9 [.type "ValueError", .type "Exception", .type "BaseException", .type "object"] "ValueError.__new__" = true)
    (k9 : PySem.W.keepIn K (.ref c9) = true)
    (a10 : PySem.W.nsIn K mainGlobals (Str.ofString "NoRun") = some (some (.ref c10)))
    (q10 : PySem.W.excIn K c10 [.type "ValueError", .type "Exception", .type "BaseException", .type "object"] "ValueError.__new__" = true)
    (k10 : PySem.W.keepIn K (.ref c10) = true)
    (a11 : PySem.W.nsIn K mainGlobals (Str.ofString "NoLine") = some (some (.ref c11)))
    (q11 : PySem.W.excIn K c11 [.type "ValueError", .type "Exception", .type "BaseException", .type "object"] "ValueError.__new__" = true)
    (k11 : PySem.W.keepIn K (.ref c11) = true)
    (a12 : PySem.W.nsIn K mainGlobals (Str.ofString "NoRow") = some (some (.ref c12)))
    (q12 : PySem.W.excIn K c12 [.type "ValueError", .type "Exception", .type "BaseException", .type "object"] "ValueError.__new__" = true)
    (k12 : PySem.W.keepIn K (.ref c12) = true)
    (a13 : PySem.W.nsIn K mainGlobals (Str.ofString "BadProgram") = some (some (.ref c13)))
    (q13 : PySem.W.excIn K c13 [.type "ValueError", .type "Exception", .type "BaseException", .type "object"] "ValueError.__new__" = true)
    (k13 : PySem.W.keepIn K (.ref c13) = true)
    (a14 : PySem.W.nsIn K mainGlobals (Str.ofString "BadName") = some (some (.ref c14)))
    (q14 : PySem.W.excIn K c14 [.type "ValueError", .type "Exception", .type "BaseException", .type "object"] "ValueError.__new__" = true)
    (k14 : PySem.W.keepIn K (.ref c14) = true)
    (a15 : PySem.W.nsIn K mainGlobals (Str.ofString "Twice") = some (some (.ref c15)))
    (q15 : PySem.W.excIn K c15 [.type "ValueError", .type "Exception", .type "BaseException", .type "object"] "ValueError.__new__" = true)
    (k15 : PySem.W.keepIn K (.ref c15) = true)
    (a16 : PySem.W.nsIn K mainGlobals (Str.ofString "BadParcel") = some (some (.ref c16)))
    (q16 : PySem.W.excIn K c16 [.type "ValueError", .type "Exception", .type "BaseException", .type "object"] "ValueError.__new__" = true)
    (k16 : PySem.W.keepIn K (.ref c16) = true)
    (a17 : PySem.W.nsIn K mainGlobals (Str.ofString "NoMark") = some (some (.ref c17)))
    (q17 : PySem.W.excIn K c17 [.type "ValueError", .type "Exception", .type "BaseException", .type "object"] "ValueError.__new__" = true)
    (k17 : PySem.W.keepIn K (.ref c17) = true)
    (a18 : PySem.W.nsIn K mainGlobals (Str.ofString "BadDeed") = some (some (.ref c18)))
    (q18 : PySem.W.excIn K c18 [.type "ValueError", .type "Exception", .type "BaseException", .type "object"] "ValueError.__new__" = true)
    (k18 : PySem.W.keepIn K (.ref c18) = true)
    (gT : PySem.W.nsIn K mainGlobals (Str.ofString "NoText") = some (some (.ref c19)))
    (lT : K.lookup c19 = some (excClassObj nmT quT c19 NT bsT bmT true snT subT abT colT ddT m0T m1T m2T m3T m5T "ValueError.__new__"))
    (rvT : PySem.HandSPX.refsVE bmT = true)
    (iT : PySem.W.findIn K (.ref c19) (Str.ofString "__init__") = some (some (.ref fT)))
    (saT : PySem.W.findIn K (.ref c19) (Str.ofString "__setattr__") = some (some (.builtin "object.__setattr__")))
    (exT : PySem.W.subIn K (.ref c19) (.type "BaseException") = some true)
    (tyT : PySem.W.typeIn K (.ref c19) = some (.type "type"))
    (kcT : PySem.W.keepIn K (.ref c19) = true)
    (tiT : PySem.W.typeIn K (.ref fT) = some (.type "function"))
    (gaT : PySem.W.findIn K (.ref c19) (Str.ofString "__getattribute__") = some (some (.builtin "BaseException.__getattribute__")))
    (ggT : PySem.W.findIn K (.ref c19) (Str.ofString "__getattr__") = some none)
    (hdT : PySem.W.hasDictIn K c19 = true)
    (nT0 : PySem.W.findIn K (.ref c19) (Str.ofString "at") = some none)
    (flT : K.lookup fT = some ⟨ocT, odT, .func (PySem.W.fnOf "__init__" "NoText.__init__" (defArgs s_NoText_init) (defBody s_NoText_init) (defScope s_NoText_init) .none kVT dcT pmT anT cdT ctT), slT⟩)
    (fcT : PySem.W.codeIn K cdT "NoText.__init__" = true)
    (fkT : PySem.W.keepIn K (.ref fT) = true)
    (gK : PySem.W.nsIn K mainGlobals (Str.ofString "NoKind") = some (some (.ref c20)))
    (lK : K.lookup c20 = some (excClassObj nmK quK c20 NK bsK bmK true snK subK abK colK ddK m0K m1K m2K m3K m5K "ValueError.__new__"))
    (rvK : PySem.HandSPX.refsVE bmK = true)
    (iK : PySem.W.findIn K (.ref c20) (Str.ofString "__init__") = some (some (.ref fK)))
    (saK : PySem.W.findIn K (.ref c20) (Str.ofString "__setattr__") = some (some (.builtin "object.__setattr__")))
    (exK : PySem.W.subIn K (.ref c20) (.type "BaseException") = some true)
    (tyK : PySem.W.typeIn K (.ref c20) = some (.type "type"))
    (kcK : PySem.W.keepIn K (.ref c20) = true)
    (tiK : PySem.W.typeIn K (.ref fK) = some (.type "function"))
    (gaK : PySem.W.findIn K (.ref c20) (Str.ofString "__getattribute__") = some (some (.builtin "BaseException.__getattribute__")))
    (ggK : PySem.W.findIn K (.ref c20) (Str.ofString "__getattr__") = some none)
    (hdK : PySem.W.hasDictIn K c20 = true)
    (nK0 : PySem.W.findIn K (.ref c20) (Str.ofString "name") = some none)
    (nK1 : PySem.W.findIn K (.ref c20) (Str.ofString "at") = some none)
    (nK2 : PySem.W.findIn K (.ref c20) (Str.ofString "why") = some none)
    (flK : K.lookup fK = some ⟨ocK, odK, .func (PySem.W.fnOf "__init__" "NoKind.__init__" (defArgs s_NoKind_init) (defBody s_NoKind_init) (defScope s_NoKind_init) .none kVK dcK pmK anK cdK ctK), slK⟩)
    (fcK : PySem.W.codeIn K cdK "NoKind.__init__" = true)
    (fkK : PySem.W.keepIn K (.ref fK) = true)
    (aE : PySem.W.nsIn K mainGlobals (Str.ofString "OnceError") = some (some (.ref cE)))
    (on : onesB K [c0, c1, c2, c3, c4, c5, c6, c7, c8, c9, c10, c11, c12, c13, c14, c15, c16, c17, c18, c19, c20] = true)
    (al : allB K cE [c0, c1, c2, c3, c4, c5, c6, c7, c8, c9, c10, c11, c12, c13, c14, c15, c16, c17, c18, c19, c20] = true) :
    ∃ (c0 c1 c2 c3 c4 c5 c6 c7 c8 c9 c10 c11 c12 c13 c14 c15 c16 c17 c18 c19 c20 cE fT fK : Addr) (fdT fdK : FuncData), PlainX K mg (Str.ofString "TooLong") c0 ∧ PlainX K mg (Str.ofString "NoAgent") c1 ∧ PlainX K mg (Str.ofString "NoPort") c2 ∧ PlainX K mg (Str.ofString "Tied") c3 ∧ PlainX K mg (Str.ofString "NoMove") c4 ∧ PlainX K mg (Str.ofString "NoRule") c5 ∧ PlainX K mg (Str.ofString "NoDef") c6 ∧ PlainX K mg (Str.ofString "NotShown") c7 ∧ PlainX K mg (Str.ofString "NoSymbol") c8 ∧ PlainX K mg (Str.ofString "NoRoom") c9 ∧ PlainX K mg (Str.ofString "NoRun") c10 ∧ PlainX K mg (Str.ofString "NoLine") c11 ∧ PlainX K mg (Str.ofString "NoRow") c12 ∧ PlainX K mg (Str.ofString "BadProgram") c13 ∧ PlainX K mg (Str.ofString "BadName") c14 ∧ PlainX K mg (Str.ofString "Twice") c15 ∧ PlainX K mg (Str.ofString "BadParcel") c16 ∧ PlainX K mg (Str.ofString "NoMark") c17 ∧ PlainX K mg (Str.ofString "BadDeed") c18 ∧ OwnI K mg (Str.ofString "NoText") c19 fT [(Str.ofString "at")] ∧ L2.Fun K (Str.ofString "__init__") (Str.ofString "NoText.__init__") s_NoText_init fT fdT ∧ (∀ (z : Shared) (self : Value) (us : List Value), us.length = 1 → BindsTo z fdT ⟨self :: us, []⟩ (([Str.ofString "self", Str.ofString "at"] : List Str).zip (self :: us))) ∧ (∀ (z : Shared) (self : Value) (ws : List Value), ws.length = 1 → BindsTo z fdT ⟨[self], ([(Str.ofString "at")] : List Str).zip ws⟩ (([Str.ofString "self", Str.ofString "at"] : List Str).zip (self :: gaNoText ws))) ∧ OwnI K mg (Str.ofString "NoKind") c20 fK [(Str.ofString "name"), (Str.ofString "at"), (Str.ofString "why")] ∧ L2.Fun K (Str.ofString "__init__") (Str.ofString "NoKind.__init__") s_NoKind_init fK fdK ∧ (∀ (z : Shared) (self : Value) (us : List Value), us.length = 3 → BindsTo z fdK ⟨self :: us, []⟩ (([Str.ofString "self", Str.ofString "name", Str.ofString "at", Str.ofString "why"] : List Str).zip (self :: us))) ∧ (∀ (z : Shared) (self : Value) (ws : List Value), ws.length = 3 → BindsTo z fdK ⟨[self], ([(Str.ofString "why"), (Str.ofString "at"), (Str.ofString "name")] : List Str).zip ws⟩ (([Str.ofString "self", Str.ofString "name", Str.ofString "at", Str.ofString "why"] : List Str).zip (self :: gaNoKind ws))) ∧ mg (Str.ofString "OnceError") = some (.ref cE) ∧ onesB K [c0, c1, c2, c3, c4, c5, c6, c7, c8, c9, c10, c11, c12, c13, c14, c15, c16, c17, c18, c19, c20] = true ∧ allB K cE [c0, c1, c2, c3, c4, c5, c6, c7, c8, c9, c10, c11, c12, c13, c14, c15, c16, c17, c18, c19, c20] = true :=
  ⟨_, _, _, _, _, _, _, _, _, _, _, _, _, _, _, _, _, _, _, _, _, _, _, _, _, _, ⟨PySem.W.mg_of X G a0, q0, k0⟩,
    ⟨PySem.W.mg_of X G a1, q1, k1⟩,
    ⟨PySem.W.mg_of X G a2, q2, k2⟩,
    ⟨PySem.W.mg_of X G a3, q3, k3⟩,
    ⟨PySem.W.mg_of X G a4, q4, k4⟩,
    ⟨PySem.W.mg_of X G a5, q5, k5⟩,
    ⟨PySem.W.mg_of X G a6, q6, k6⟩,
    ⟨PySem.W.mg_of X G a7, q7, k7⟩,
    ⟨PySem.W.mg_of X G a8, q8, k8⟩,
    ⟨PySem.W.mg_of X G a9, q9, k9⟩,
    ⟨PySem.W.mg_of X G a10, q10, k10⟩,
    ⟨PySem.W.mg_of X G a11, q11, k11⟩,
    ⟨PySem.W.mg_of X G a12, q12, k12⟩,
    ⟨PySem.W.mg_of X G a13, q13, k13⟩,
    ⟨PySem.W.mg_of X G a14, q14, k14⟩,
    ⟨PySem.W.mg_of X G a15, q15, k15⟩,
    ⟨PySem.W.mg_of X G a16, q16, k16⟩,
    ⟨PySem.W.mg_of X G a17, q17, k17⟩,
    ⟨PySem.W.mg_of X G a18, q18, k18⟩,
    ⟨⟨⟨⟨nmT, quT, NT, bsT, bmT, snT, subT, abT, colT, ddT, m0T, m1T, m2T, m3T, m5T, lT, rvT⟩, saT, exT, tyT, kcT⟩, iT, tiT⟩, PySem.W.mg_of X G gT, ⟨gaT, ggT, exT, hdT⟩, all_cons nT0 (all_nil)⟩,
    fun_mk flT fcT fkT,
    fun z self us hl => match us, hl with | [_], _ => .of_eq rfl,
    fun z self us hl => match us, hl with | [_], _ => .of_eq rfl,
    ⟨⟨⟨⟨nmK, quK, NK, bsK, bmK, snK, subK, abK, colK, ddK, m0K, m1K, m2K, m3K, m5K, lK, rvK⟩, saK, exK, tyK, kcK⟩, iK, tiK⟩, PySem.W.mg_of X G gK, ⟨gaK, ggK, exK, hdK⟩, all_cons nK0 (all_cons nK1 (all_cons nK2 (all_nil)))⟩,
    fun_mk flK fcK fkK,
    fun z self us hl => match us, hl with | [_, _, _], _ => .of_eq rfl,
    fun z self us hl => match us, hl with | [_, _, _], _ => .of_eq rfl,
    PySem.W.mg_of X G aE,
    on,
    al⟩
end Ow
open PySem PySem.W PyProof.Rows
set_option maxRecDepth 100000 in
set_option maxHeartbeats 0 in
theorem PySem.Challenge.cw_oncewire_k01_refusals_apart_holds : PySem.Challenge.rw_oncewire_k01_refusals_apart.Holds := by
  w_on; o_law; k_head; (case hw => w_witness2)
  k_fill
  refine Ow.walkG (l := PySem.Challenge.rw_oncewire_k01_refusals_apart) (n := 63) (k := 4) (x := Str.ofString "_law_script") (sp := Ow.spLaw) rfl (by decide) rfl ⟨rfl, by decide, by decide⟩ (fun w h Y => PySem.W.kIn_of Y) ?F (fun K H a ns hl _ hS => ⟨a, ns, rfl, hS, hl, fun _ => rfl⟩)
  case F =>
    intro w mg fa h KX G hmg
    have D_law_pen : Ow.DefAt (L2.KOf KX) mg (Str.ofString "_law_pen") Ow.s_law_pen [Str.ofString "_law_script"] := by
      dsimp only [L2.KOf]
      refine' Ow.defAt_mk KX G ?a ?l ?c ?k (fun _ _ _ _ _ _ us hl => match us, hl with | [_], _ => rfl)
      (case a => k_is); (case l => k_is); (case c => k_is); (case k => k_is)
    have D_law_fresh : Ow.DefAt (L2.KOf KX) mg (Str.ofString "_law_fresh") Ow.s_law_fresh [Str.ofString "_law_pen_here"] := by
      dsimp only [L2.KOf]
      refine' Ow.defAt_mk KX G ?a ?l ?c ?k (fun _ _ _ _ _ _ us hl => match us, hl with | [_], _ => rfl)
      (case a => k_is); (case l => k_is); (case c => k_is); (case k => k_is)
    have D_law_draw : Ow.DefAt (L2.KOf KX) mg (Str.ofString "_law_draw") Ow.s_law_draw [Str.ofString "_law_pen_here", Str.ofString "_law_below"] := by
      dsimp only [L2.KOf]
      refine' Ow.defAt_mk KX G ?a ?l ?c ?k (fun _ _ _ _ _ _ us hl => match us, hl with | [_, _], _ => rfl)
      (case a => k_is); (case l => k_is); (case c => k_is); (case k => k_is)
    have D_law_name : Ow.DefAt (L2.KOf KX) mg (Str.ofString "_law_name") Ow.s_law_name [Str.ofString "_law_pen_here", Str.ofString "_law_gone"] := by
      dsimp only [L2.KOf]
      refine' Ow.defAt_mk KX G ?a ?l ?c ?k (fun _ _ _ _ _ _ us hl => match us, hl with | [_, _], _ => rfl)
      (case a => k_is); (case l => k_is); (case c => k_is); (case k => k_is)
    have D_law_made : Ow.DefAt (L2.KOf KX) mg (Str.ofString "_law_made") Ow.s_law_made [Str.ofString "_law_text"] := by
      dsimp only [L2.KOf]
      refine' Ow.defAt_mk KX G ?a ?l ?c ?k (fun _ _ _ _ _ _ us hl => match us, hl with | [_], _ => rfl)
      (case a => k_is); (case l => k_is); (case c => k_is); (case k => k_is)
    have D_law_looks : Ow.DefAt (L2.KOf KX) mg (Str.ofString "_law_looks") Ow.s_law_looks [Str.ofString "_law_one"] := by
      dsimp only [L2.KOf]
      refine' Ow.defAt_mk KX G ?a ?l ?c ?k (fun _ _ _ _ _ _ us hl => match us, hl with | [_], _ => rfl)
      (case a => k_is); (case l => k_is); (case c => k_is); (case k => k_is)
    have T : Ow.Bl mg := by
      refine' ⟨PySem.W.mg_none_of KX G ?z0, PySem.W.mg_none_of KX G ?z1, PySem.W.mg_none_of KX G ?z2, PySem.W.mg_none_of KX G ?z3, PySem.W.mg_none_of KX G ?z4, PySem.W.mg_none_of KX G ?z5, PySem.W.mg_none_of KX G ?z6, PySem.W.mg_none_of KX G ?z7, PySem.W.mg_none_of KX G ?z8, PySem.W.mg_none_of KX G ?z9, PySem.W.mg_none_of KX G ?z10, PySem.W.mg_none_of KX G ?z11, PySem.W.mg_none_of KX G ?z12, PySem.W.mg_none_of KX G ?z13, PySem.W.mg_none_of KX G ?z14, PySem.W.mg_none_of KX G ?z15, PySem.W.mg_none_of KX G ?z16, PySem.W.mg_none_of KX G ?z17, PySem.W.mg_none_of KX G ?z18⟩
      (case z0 => k_is); (case z1 => k_is); (case z2 => k_is); (case z3 => k_is); (case z4 => k_is); (case z5 => k_is); (case z6 => k_is); (case z7 => k_is); (case z8 => k_is); (case z9 => k_is); (case z10 => k_is); (case z11 => k_is); (case z12 => k_is); (case z13 => k_is); (case z14 => k_is); (case z15 => k_is); (case z16 => k_is); (case z17 => k_is); (case z18 => k_is)
    obtain ⟨c0, c1, c2, c3, c4, c5, c6, c7, c8, c9, c10, c11, c12, c13, c14, c15, c16, c17, c18, c19, c20, cE, fT, fK, fdT, fdK, X_TooLong, X_NoAgent, X_NoPort, X_Tied, X_NoMove, X_NoRule, X_NoDef, X_NotShown, X_NoSymbol, X_NoRoom, X_NoRun, X_NoLine, X_NoRow, X_BadProgram, X_BadName, X_Twice, X_BadParcel, X_NoMark, X_BadDeed, O_T, F_T, B_T, N_T, O_K, F_K, B_K, N_K, g_OE, ones, alls⟩ : ∃ (c0 c1 c2 c3 c4 c5 c6 c7 c8 c9 c10 c11 c12 c13 c14 c15 c16 c17 c18 c19 c20 cE fT fK : Addr) (fdT fdK : FuncData), Ow.PlainX (L2.KOf KX) mg (Str.ofString "TooLong") c0 ∧ Ow.PlainX (L2.KOf KX) mg (Str.ofString "NoAgent") c1 ∧ Ow.PlainX (L2.KOf KX) mg (Str.ofString "NoPort") c2 ∧ Ow.PlainX (L2.KOf KX) mg (Str.ofString "Tied") c3 ∧ Ow.PlainX (L2.KOf KX) mg (Str.ofString "NoMove") c4 ∧ Ow.PlainX (L2.KOf KX) mg (Str.ofString "NoRule") c5 ∧ Ow.PlainX (L2.KOf KX) mg (Str.ofString "NoDef") c6 ∧ Ow.PlainX (L2.KOf KX) mg (Str.ofString "NotShown") c7 ∧ Ow.PlainX (L2.KOf KX) mg (Str.ofString "NoSymbol") c8 ∧ Ow.PlainX (L2.KOf KX) mg (Str.ofString "NoRoom") c9 ∧ Ow.PlainX (L2.KOf KX) mg (Str.ofString "NoRun") c10 ∧ Ow.PlainX (L2.KOf KX) mg (Str.ofString "NoLine") c11 ∧ Ow.PlainX (L2.KOf KX) mg (Str.ofString "NoRow") c12 ∧ Ow.PlainX (L2.KOf KX) mg (Str.ofString "BadProgram") c13 ∧ Ow.PlainX (L2.KOf KX) mg (Str.ofString "BadName") c14 ∧ Ow.PlainX (L2.KOf KX) mg (Str.ofString "Twice") c15 ∧ Ow.PlainX (L2.KOf KX) mg (Str.ofString "BadParcel") c16 ∧ Ow.PlainX (L2.KOf KX) mg (Str.ofString "NoMark") c17 ∧ Ow.PlainX (L2.KOf KX) mg (Str.ofString "BadDeed") c18 ∧ Ow.OwnI (L2.KOf KX) mg (Str.ofString "NoText") c19 fT [(Str.ofString "at")] ∧ L2.Fun (L2.KOf KX) (Str.ofString "__init__") (Str.ofString "NoText.__init__") Ow.s_NoText_init fT fdT ∧ (∀ (z : Shared) (self : Value) (us : List Value), us.length = 1 → BindsTo z fdT ⟨self :: us, []⟩ (([Str.ofString "self", Str.ofString "at"] : List Str).zip (self :: us))) ∧ (∀ (z : Shared) (self : Value) (ws : List Value), ws.length = 1 → BindsTo z fdT ⟨[self], ([(Str.ofString "at")] : List Str).zip ws⟩ (([Str.ofString "self", Str.ofString "at"] : List Str).zip (self :: Ow.gaNoText ws))) ∧ Ow.OwnI (L2.KOf KX) mg (Str.ofString "NoKind") c20 fK [(Str.ofString "name"), (Str.ofString "at"), (Str.ofString "why")] ∧ L2.Fun (L2.KOf KX) (Str.ofString "__init__") (Str.ofString "NoKind.__init__") Ow.s_NoKind_init fK fdK ∧ (∀ (z : Shared) (self : Value) (us : List Value), us.length = 3 → BindsTo z fdK ⟨self :: us, []⟩ (([Str.ofString "self", Str.ofString "name", Str.ofString "at", Str.ofString "why"] : List Str).zip (self :: us))) ∧ (∀ (z : Shared) (self : Value) (ws : List Value), ws.length = 3 → BindsTo z fdK ⟨[self], ([(Str.ofString "why"), (Str.ofString "at"), (Str.ofString "name")] : List Str).zip ws⟩ (([Str.ofString "self", Str.ofString "name", Str.ofString "at", Str.ofString "why"] : List Str).zip (self :: Ow.gaNoKind ws))) ∧ mg (Str.ofString "OnceError") = some (.ref cE) ∧ Ow.onesB (L2.KOf KX) [c0, c1, c2, c3, c4, c5, c6, c7, c8, c9, c10, c11, c12, c13, c14, c15, c16, c17, c18, c19, c20] = true ∧ Ow.allB (L2.KOf KX) cE [c0, c1, c2, c3, c4, c5, c6, c7, c8, c9, c10, c11, c12, c13, c14, c15, c16, c17, c18, c19, c20] = true := by
      dsimp only [L2.KOf]
      refine' Ow.mk01 KX G ?a0 ?q0 ?k0 ?a1 ?q1 ?k1 ?a2 ?q2 ?k2 ?a3 ?q3 ?k3 ?a4 ?q4 ?k4 ?a5 ?q5 ?k5 ?a6 ?q6 ?k6 ?a7 ?q7 ?k7 ?a8 ?q8 ?k8 ?a9 ?q9 ?k9 ?a10 ?q10 ?k10 ?a11 ?q11 ?k11 ?a12 ?q12 ?k12 ?a13 ?q13 ?k13 ?a14 ?q14 ?k14 ?a15 ?q15 ?k15 ?a16 ?q16 ?k16 ?a17 ?q17 ?k17 ?a18 ?q18 ?k18 ?gT ?lT ?rvT ?iT ?saT ?exT ?tyT ?kcT ?tiT ?gaT ?ggT ?hdT ?nT0 ?flT ?fcT ?fkT ?gK ?lK ?rvK ?iK ?saK ?exK ?tyK ?kcK ?tiK ?gaK ?ggK ?hdK ?nK0 ?nK1 ?nK2 ?flK ?fcK ?fkK ?aE ?on ?al
      (case a0 => k_is); (case q0 => k_exc); (case k0 => k_is); (case a1 => k_is); (case q1 => k_exc); (case k1 => k_is)
      (case a2 => k_is); (case q2 => k_exc); (case k2 => k_is); (case a3 => k_is); (case q3 => k_exc); (case k3 => k_is)
      (case a4 => k_is); (case q4 => k_exc); (case k4 => k_is); (case a5 => k_is); (case q5 => k_exc); (case k5 => k_is)
      (case a6 => k_is); (case q6 => k_exc); (case k6 => k_is); (case a7 => k_is); (case q7 => k_exc); (case k7 => k_is)
      (case a8 => k_is); (case q8 => k_exc); (case k8 => k_is); (case a9 => k_is); (case q9 => k_exc); (case k9 => k_is)
      (case a10 => k_is); (case q10 => k_exc); (case k10 => k_is); (case a11 => k_is); (case q11 => k_exc); (case k11 => k_is)
      (case a12 => k_is); (case q12 => k_exc); (case k12 => k_is); (case a13 => k_is); (case q13 => k_exc); (case k13 => k_is)
      (case a14 => k_is); (case q14 => k_exc); (case k14 => k_is); (case a15 => k_is); (case q15 => k_exc); (case k15 => k_is)
      (case a16 => k_is); (case q16 => k_exc); (case k16 => k_is); (case a17 => k_is); (case q17 => k_exc); (case k17 => k_is)
      (case a18 => k_is); (case q18 => k_exc); (case k18 => k_is); (case gT => k_is); (case lT => k_is); (case rvT => decide +kernel)
      (case iT => k_is); (case saT => k_is); (case exT => k_is); (case tyT => k_is); (case kcT => k_is); (case tiT => k_is)
      (case gaT => k_is); (case ggT => k_is); (case hdT => k_is); (case nT0 => k_is); (case flT => k_is); (case fcT => k_is)
      (case fkT => k_is); (case gK => k_is); (case lK => k_is); (case rvK => decide +kernel); (case iK => k_is); (case saK => k_is)
      (case exK => k_is); (case tyK => k_is); (case kcK => k_is); (case tiK => k_is); (case gaK => k_is); (case ggK => k_is)
      (case hdK => k_is); (case nK0 => k_is); (case nK1 => k_is); (case nK2 => k_is); (case flK => k_is); (case fcK => k_is)
      (case fkK => k_is); (case aE => k_is); (case on => kernel_rfl); (case al => kernel_rfl)
    have G_TooLong : Ow.GV mg (Str.ofString "TooLong") (.ref c0) := ⟨_, X_TooLong.g, rfl⟩
    have G_NoAgent : Ow.GV mg (Str.ofString "NoAgent") (.ref c1) := ⟨_, X_NoAgent.g, rfl⟩
    have G_NoPort : Ow.GV mg (Str.ofString "NoPort") (.ref c2) := ⟨_, X_NoPort.g, rfl⟩
    have G_Tied : Ow.GV mg (Str.ofString "Tied") (.ref c3) := ⟨_, X_Tied.g, rfl⟩
    have G_NoMove : Ow.GV mg (Str.ofString "NoMove") (.ref c4) := ⟨_, X_NoMove.g, rfl⟩
    have G_NoRule : Ow.GV mg (Str.ofString "NoRule") (.ref c5) := ⟨_, X_NoRule.g, rfl⟩
    have G_NoDef : Ow.GV mg (Str.ofString "NoDef") (.ref c6) := ⟨_, X_NoDef.g, rfl⟩
    have G_NotShown : Ow.GV mg (Str.ofString "NotShown") (.ref c7) := ⟨_, X_NotShown.g, rfl⟩
    have G_NoSymbol : Ow.GV mg (Str.ofString "NoSymbol") (.ref c8) := ⟨_, X_NoSymbol.g, rfl⟩
    have G_NoRoom : Ow.GV mg (Str.ofString "NoRoom") (.ref c9) := ⟨_, X_NoRoom.g, rfl⟩
    have G_NoRun : Ow.GV mg (Str.ofString "NoRun") (.ref c10) := ⟨_, X_NoRun.g, rfl⟩
    have G_NoLine : Ow.GV mg (Str.ofString "NoLine") (.ref c11) := ⟨_, X_NoLine.g, rfl⟩
    have G_NoRow : Ow.GV mg (Str.ofString "NoRow") (.ref c12) := ⟨_, X_NoRow.g, rfl⟩
    have G_BadProgram : Ow.GV mg (Str.ofString "BadProgram") (.ref c13) := ⟨_, X_BadProgram.g, rfl⟩
    have G_BadName : Ow.GV mg (Str.ofString "BadName") (.ref c14) := ⟨_, X_BadName.g, rfl⟩
    have G_Twice : Ow.GV mg (Str.ofString "Twice") (.ref c15) := ⟨_, X_Twice.g, rfl⟩
    have G_BadParcel : Ow.GV mg (Str.ofString "BadParcel") (.ref c16) := ⟨_, X_BadParcel.g, rfl⟩
    have G_NoMark : Ow.GV mg (Str.ofString "NoMark") (.ref c17) := ⟨_, X_NoMark.g, rfl⟩
    have G_BadDeed : Ow.GV mg (Str.ofString "BadDeed") (.ref c18) := ⟨_, X_BadDeed.g, rfl⟩
    have G_NoText : Ow.GV mg (Str.ofString "NoText") (.ref c19) := ⟨_, O_T.g, rfl⟩
    have G_NoKind : Ow.GV mg (Str.ofString "NoKind") (.ref c20) := ⟨_, O_K.g, rfl⟩
    have G_OnceError : Ow.GV mg (Str.ofString "OnceError") (.ref cE) := ⟨_, g_OE, rfl⟩
    have one := Ow.ones_mk ones
    have allX := fun C hC => (Ow.allB_at alls C hC).1
    have isVE := fun C hC => (Ow.allB_at alls C hC).2.1
    have isOE := fun C hC => (Ow.allB_at alls C hC).2.2
    have hVE : mg (Str.ofString "ValueError") = none := by
      refine' PySem.W.mg_none_of KX G ?z
      (case z => k_is)
    obtain ⟨fd, FL, hb⟩ : ∃ fd, L2.Fun (L2.KOf KX) (Str.ofString "law") (Str.ofString "law") Ow.s_law fa fd ∧ ∀ (s : Shared) (u : Value), BindsTo s fd ⟨[u], []⟩ [(Str.ofString "_law_script", u)] := by
      dsimp only [L2.KOf]
      refine' Ow.lawAt_mk KX G hmg ?a ?l ?c ?k ?hb
      (case a => k_is); (case l => k_is); (case c => k_is); (case k => k_is); (case hb => exact fun s u => .of_eq rfl)
    refine ⟨fd, hb, fun base _ _ => ?_⟩
    have c_pen := Ow.ok_pen (P := PySem.Challenge.rw_oncewire_k01_refusals_apart.prog) (w := w) (base := base) D_law_pen T
    have c_fresh := Ow.ok_fresh (P := PySem.Challenge.rw_oncewire_k01_refusals_apart.prog) (w := w) (base := base) D_law_fresh T
    have c_draw := Ow.ok_draw D_law_draw T c_fresh
    have c_name := Ow.ok_name D_law_name T c_draw
    have c_made := Ow.ok_made (P := PySem.Challenge.rw_oncewire_k01_refusals_apart.prog) (w := w) (base := base) D_law_made T X_TooLong X_NoAgent X_NoPort X_Tied X_NoMove X_NoRule X_NoDef X_NotShown X_NoSymbol X_NoRoom X_NoRun X_NoLine X_NoRow X_BadProgram X_BadName X_Twice X_BadParcel X_NoMark X_BadDeed
    have c_looks := Ow.ok_looks (P := PySem.Challenge.rw_oncewire_k01_refusals_apart.prog) (w := w) (base := base) D_law_looks T G_TooLong G_NoAgent G_NoPort G_Tied G_NoMove G_NoRule G_NoDef G_NotShown G_NoSymbol G_NoRoom G_NoRun G_NoLine G_NoRow G_BadProgram G_BadName G_Twice G_BadParcel G_NoMark G_BadDeed G_NoText G_NoKind one
    have f_T := Ow.ok_initT (P := PySem.Challenge.rw_oncewire_k01_refusals_apart.prog) (w := w) (base := base) F_T O_T
    have f_K := Ow.ok_initK (P := PySem.Challenge.rw_oncewire_k01_refusals_apart.prog) (w := w) (base := base) F_K O_K
    exact Ow.ok_law FL T hVE c_pen c_draw c_name c_made c_looks O_T O_K f_T f_K B_T B_K N_T N_K G_OnceError allX isVE isOE
#print axioms PySem.Challenge.cw_oncewire_k01_refusals_apart_holds
