import PyProof.Rows.All
import Wide.All
import OpenK.AllK
import Wide.FinOn
import HandS.ForMost
import HandS.IsInst
import HandS.TupAny
import HandS.Flow
import HandS.Style
import HandS.Zip
import HandS.Evl
import PyProof.ReprRoads
import PyProof.FactsAll.dict
import PyProof.EqKinds
import PyProof.P3In
import HandS.Strs
import HandS.More
import PyProof.SumAny
import HandS.TupMul
import PySem.Challenge.RW_oncewire_k04_programs_known
set_option Elab.async false
set_option linter.all false
set_option maxRecDepth 100000
set_option maxHeartbeats 4000000
/-! What all our laws over drawn data share: defs and their calls, frames of the heap, the pen that draws, data of any shape. -/
namespace Ow
open PySem PySem.Spec PyProof.Rows L2

/-! ### a def and its calls -/
structure CallOk (P : Program) (w : World) (K : PySem.W.Frag) (mg : Str → Option Value) (base : Heap) (k : Nat) (x : Str) (ps : List Str) (sp : Sp) : Prop where
  ex : ∃ (f : Addr) (fd : FuncData), FnOk P w K mg base CX0 k f fd ps sp ∧ mg x = some (.ref f) ∧ PySem.W.keepIn K (.ref f) = true ∧ Binds K fd ps []
structure DefAt (K : PySem.W.Frag) (mg : Str → Option Value) (x : Str) (st : Stmt) (ps : List Str) : Prop where
  ex : ∃ (f : Addr) (fd : FuncData), Fun K x x st f fd ∧ mg x = some (.ref f) ∧ Binds K fd ps []
section
variable {X : Cx} {k j : Nat} {x : Str} {ps : List Str} {sp : Sp} {p pos : Pos} {e : Expr} {es : List Expr} {t : TA}
theorem pe_callOk (C : CallOk X.prog X.w X.K X.mg X.base k x ps sp) (hr : Room j X.A) (hj : k ≤ j) (hg : Gl X x) (ha : PA X (e :: es) t)
    (hdb : (x == ("__debug__" : Str)) = false := by decide) (he : starEach (e :: es) X.env = (false, eval e X.env) :: starEach es X.env := by rfl)
    (hpl : (backTo pos (starEach es X.env)).any (·.1) = false := by rfl) : PE X (.Call (.Name x p) (e :: es) [] pos) (tCall sp [] E0 t) := by
  obtain ⟨f, fd, F, hm, hk, hb⟩ := C.ex
  exact pe_call F (hr.mono hj) hg hm hk hb .nil pass0 ha hdb he hpl
end
section
variable {P : Program} {w : World} {K : PySem.W.Frag} {mg : Str → Option Value} {base : Heap} {x : Str} {st : Stmt} {N ps : List Str} {k j : Nat} {sp sp' : Sp}
theorem DefAt.ok (D : DefAt K mg x st ps) (S : FnScope N ps (defScope st)) (len : ∀ vs H Q E, sp vs H Q E → vs.length = ps.length)
    (hbody : ∀ (f : Addr) (cdv : Value) (A : Around) (outer : List Env) (s : Shared) (H : Hp) (vs : List V) (Q : VK) (E : XK), Room k (A.deeper (envOfC x (defScope st) s.heap.objs.size f cdv)) → sp vs H Q E →
      ∃ t, PSs (cxOf CX0 P w K mg base N x (defScope st) f cdv A outer s H E).nox (defBody st) t ∧ t { nx := fun _ H' => Q .non H', rt := Q } (start N vs) H) : CallOk P w K mg base (k + 1) x ps sp := by
  obtain ⟨f, fd, F, hm, hb⟩ := D.ex
  exact ⟨f, fd, F.ok S len fun cdv A outer s H vs Q E hr h => hbody f cdv A outer s H vs Q E hr h, hm, F.kp, hb⟩
/-- nothing is promised -/
theorem DefAt.none (D : DefAt K mg x st ps) (S : FnScope N ps (defScope st)) : CallOk P w K mg base 1 x ps (fun _ _ _ _ => False) :=
  D.ok S (fun _ _ _ _ h => h.elim) fun _ _ _ _ _ _ _ _ _ _ h => h.elim
theorem CallOk.mono (C : CallOk P w K mg base j x ps sp) (h : j ≤ k) : CallOk P w K mg base k x ps sp := by
  obtain ⟨f, fd, F, r⟩ := C.ex
  exact ⟨f, fd, F.mono h, r⟩
theorem CallOk.imp (C : CallOk P w K mg base k x ps sp) (h : ∀ vs H Q E, sp' vs H Q E → sp vs H Q E) : CallOk P w K mg base k x ps sp' := by
  obtain ⟨f, fd, F, r⟩ := C.ex
  exact ⟨f, fd, F.imp h, r⟩
end

/-! ### frames: all but the object at p is as it was -/
def Kp (p : Addr) (H H' : Hp) : Prop := ∀ b o, H b = some o → b ≠ p → H' b = some o
section
variable {p q : Addr} {H H1 H2 : Hp} {o : HO}
theorem Kp.refl : Kp p H H := fun _ _ h _ => h
theorem Kp.trans (a : Kp p H H1) (b : Kp p H1 H2) : Kp p H H2 := fun c o h n => b c o (a c o h n) n
theorem Kp.of (s : Same H H1) : Kp p H H1 := fun c o h _ => s c o h
theorem Kp.new (h : H q = none) : Kp p H (upd H q o) := fun c u e _ => by
  rw [upd_ne (ne_of_none e h)]
  exact e
theorem Kp.self : Kp p H (upd H p o) := fun c u e n => by
  rw [upd_ne n]
  exact e
/-- an object that came later is changed -/
theorem Kp.mut (a : Kp p H H1) (h : H q = none) : Kp p H (upd H1 q o) := fun c u e n => by
  rw [upd_ne (ne_of_none e h)]
  exact a c u e n
theorem Kp.put (a : Kp p H H1) : Kp p H (upd H1 p o) := fun c u e n => by
  rw [upd_ne n]
  exact a c u e n
theorem Kp.lay (a : Kp p H H1) (h : H1 q = none) : Kp p H (upd H1 q o) := a.trans (Kp.new h)
theorem Kp.none (a : Kp p H H1) (h : H1 q = none) (n : q ≠ p) : H q = none := by
  cases e : H q with
  | none => rfl
  | some u =>
    rw [a q u e n] at h
    cases h
theorem same_new (h : H q = none) : Same H (upd H q o) := fun c u e => by
  rw [upd_ne (ne_of_none e h)]
  exact e
theorem Same.lay (a : Same H H1) (h : H1 q = none) : Same H (upd H1 q o) := a.trans (same_new h)
theorem Same.mut (a : Same H H1) (h : H q = none) : Same H (upd H1 q o) := fun c u e => by
  rw [upd_ne (ne_of_none e h)]
  exact a c u e
end

/-! ### sums of any kind -/
abbrev rAddAny (K : PySem.W.Frag) : R2 := fun x y H Q => rI0 (fun i j => .int (i + j)) x y H Q ∨ ((∃ i j, x = .str i ∧ y = .str j ∧ i.length + j.length ≤ sizeLine ∧ Q (.str (i ++ j)) H) ∨ (rCatA K x y H Q ∨ rCat x y H Q))
theorem opAdd {X : Cx} : OpR X (binaryOp .Add) (rAddAny X.K) := op_add.or (op_add_str.or (op_catA.or op_cat))

/-! ### the pen -/
def Pen (H : Hp) (p c : Addr) : Prop := (∃ z r, H p = some (.lst [.ref c, .int z, .int r])) ∧ ∃ cs : List Int, H c = some (.lst (cs.map V.int)) ∧ cs.length ≤ 63
section
variable {H H' : Hp} {p c q : Addr} {o : HO}
theorem Pen.ne (h : Pen H p c) : c ≠ p := by
  obtain ⟨⟨z, r, h1⟩, cs, h2, _⟩ := h
  rintro rfl
  rw [h1] at h2
  cases cs with
  | nil => cases h2
  | cons a t =>
    have e : [V.ref c, .int z, .int r] = (a :: t).map V.int := by
      injection h2 with h2
      injection h2
    rw [List.map_cons] at e
    injection e with e _
    cases e
theorem Pen.keep (h : Pen H p c) (n1 : q ≠ p) (n2 : q ≠ c) : Pen (upd H q o) p c := by
  obtain ⟨⟨z, r, h1⟩, cs, h2, hl⟩ := h
  exact ⟨⟨z, r, by rw [upd_ne n1.symm]; exact h1⟩, cs, by rw [upd_ne n2.symm]; exact h2, hl⟩
theorem Pen.neP (h : Pen H p c) (hq : H q = none) : q ≠ p := by
  obtain ⟨⟨z, r, h1⟩, _⟩ := h
  exact (ne_of_none h1 hq).symm
theorem Pen.neC (h : Pen H p c) (hq : H q = none) : q ≠ c := by
  obtain ⟨_, cs, h2, _⟩ := h
  exact (ne_of_none h2 hq).symm
theorem Pen.new (h : Pen H p c) (hq : H q = none) : Pen (upd H q o) p c := h.keep (h.neP hq) (h.neC hq)
theorem Pen.put {z r : Int} (h : Pen H p c) : Pen (upd H p (.lst [.ref c, .int z, .int r])) p c := by
  have n := h.ne
  obtain ⟨_, cs, h2, hl⟩ := h
  exact ⟨⟨z, r, upd_same⟩, cs, by rw [upd_ne n]; exact h2, hl⟩
theorem Pen.same (h : Pen H p c) (s : Same H H') : Pen H' p c := by
  obtain ⟨⟨z, r, h1⟩, cs, h2, hl⟩ := h
  exact ⟨⟨z, r, s _ _ h1⟩, cs, s _ _ h2, hl⟩
end

/-! ### data: None, truths, numbers, texts, tuples, lists and dicts (none of some) -/
def kD : Key → PyData
  | .inl i => .int i
  | .inr x => .str x
mutual
inductive Da (K : PySem.W.Frag) (N : Addr → Prop) (H : Hp) : V → PyData → Prop
  | non : Da K N H .non .none
  | bl (b : Bool) : Da K N H (.bl b) (.bool b)
  | int (i : Int) : Da K N H (.int i) (.int i)
  | str (x : Str) : Da K N H (.str x) (.str x)
  | lst {a : Addr} {xs : List V} {ds : List PyData} : H a = some (.lst xs) → ¬ N a → DaAll K N H xs ds → Da K N H (.ref a) (.list ds)
  | tup {a : Addr} {xs : List V} {ds : List PyData} : SqT K H a xs → DaAll K N H xs ds → Da K N H (.ref a) (.tuple ds)
  | dct {a : Addr} {kvs : List (Key × V)} {ds : List PyData} : H a = some (.dK kvs) → ¬ N a → DaAll K N H (kvs.map (·.2)) ds → Da K N H (.ref a) (.dict ((kvs.map fun kv => kD kv.1).zip ds))
inductive DaAll (K : PySem.W.Frag) (N : Addr → Prop) (H : Hp) : List V → List PyData → Prop
  | nil : DaAll K N H [] []
  | cons {v : V} {vs : List V} {d : PyData} {ds : List PyData} : Da K N H v d → DaAll K N H vs ds → DaAll K N H (v :: vs) (d :: ds)
end
/-- what is tracked -/
def Tk (H : Hp) : Addr → Prop := fun a => H a ≠ none
theorem Tk.of {H : Hp} {a : Addr} {o : HO} (h : H a = some o) : Tk H a := fun e => by
  rw [h] at e
  cases e
theorem Tk.kp {H H' : Hp} {p : Addr} (k : Kp p H H') (hp : Tk H' p) : ∀ a, Tk H a → Tk H' a := fun a h => by
  by_cases e : a = p
  · rw [e]
    exact hp
  · cases q : H a with
    | none => exact absurd q h
    | some o => exact Tk.of (k a o q e)
theorem Pen.tk {H : Hp} {p c : Addr} (h : Pen H p c) : Tk H p := by
  obtain ⟨⟨z, r, e⟩, _⟩ := h
  exact Tk.of e
/-- nothing that reads as a tuple stands at p -/
def NoTup (H : Hp) (p : Addr) : Prop := ∀ xs, ¬ Rd H p (.tup xs)
theorem Pen.noTup {H : Hp} {p c : Addr} (h : Pen H p c) : NoTup H p := fun xs r => by
  obtain ⟨⟨z, u, h1⟩, _⟩ := h
  rcases r with r | ⟨o, r⟩
  · rw [h1] at r
    cases r
  · rw [h1] at r
    cases r
section
variable {K : PySem.W.Frag} {N N' : Addr → Prop} {p : Addr} {H H' : Hp}
theorem sqT_kp {a : Addr} {xs : List V} (k : Kp p H H') (n : NoTup H p) (h : SqT K H a xs) : SqT K H' a xs := by
  rcases h with h | h
  · by_cases e : a = p
    · subst e
      exact (n xs h).elim
    · rcases h with h | ⟨o, h⟩
      · exact .inl (.inl (k _ _ h e))
      · exact .inl (.inr ⟨o, k _ _ h e⟩)
  · exact .inr h
theorem sqL_kp {a : Addr} {xs : List V} (k : Kp p H H') (n : a ≠ p) (h : SqL K H a xs) : SqL K H' a xs := by
  rcases h with h | h
  · rcases h with h | ⟨o, h⟩
    · exact .inl (.inl (k _ _ h n))
    · exact .inl (.inr ⟨o, k _ _ h n⟩)
  · exact .inr h
mutual
theorem Da.kp (k : Kp p H H') (n : NoTup H p) (q : N p) : ∀ {v : V} {d : PyData}, Da K N H v d → Da K N H' v d
  | _, _, .non => .non
  | _, _, .bl b => .bl b
  | _, _, .int i => .int i
  | _, _, .str x => .str x
  | _, _, .lst h ne r => .lst (k _ _ h fun e => ne (e ▸ q)) ne (DaAll.kp k n q r)
  | _, _, .tup h r => .tup (sqT_kp k n h) (DaAll.kp k n q r)
  | _, _, .dct h ne r => .dct (k _ _ h fun e => ne (e ▸ q)) ne (DaAll.kp k n q r)
theorem DaAll.kp (k : Kp p H H') (n : NoTup H p) (q : N p) : ∀ {vs : List V} {ds : List PyData}, DaAll K N H vs ds → DaAll K N H' vs ds
  | _, _, .nil => .nil
  | _, _, .cons a r => .cons (Da.kp k n q a) (DaAll.kp k n q r)
end
mutual
theorem Da.less (k : ∀ a, N' a → N a) : ∀ {v : V} {d : PyData}, Da K N H v d → Da K N' H v d
  | _, _, .non => .non
  | _, _, .bl b => .bl b
  | _, _, .int i => .int i
  | _, _, .str x => .str x
  | _, _, .lst h ne r => .lst h (fun z => ne (k _ z)) (DaAll.less k r)
  | _, _, .tup h r => .tup h (DaAll.less k r)
  | _, _, .dct h ne r => .dct h (fun z => ne (k _ z)) (DaAll.less k r)
theorem DaAll.less (k : ∀ a, N' a → N a) : ∀ {vs : List V} {ds : List PyData}, DaAll K N H vs ds → DaAll K N' H vs ds
  | _, _, .nil => .nil
  | _, _, .cons a r => .cons (Da.less k a) (DaAll.less k r)
end
theorem DaAll.length : ∀ {vs : List V} {ds : List PyData}, DaAll K N H vs ds → vs.length = ds.length
  | _, _, .nil => rfl
  | _, _, .cons _ r => by rw [List.length_cons, List.length_cons, DaAll.length r]
theorem DaAll.get : ∀ {vs : List V} {ds : List PyData}, DaAll K N H vs ds → ∀ {i : Nat} {v : V}, vs[i]? = some v → ∃ d, ds[i]? = some d ∧ Da K N H v d
  | _, _, .nil, _, _, e => by simp at e
  | _, _, .cons a r, 0, _, e => by
    simp only [List.getElem?_cons_zero, Option.some.injEq] at e
    subst e
    exact ⟨_, rfl, a⟩
  | _, _, .cons a r, i + 1, _, e => by
    simp only [List.getElem?_cons_succ] at e
    obtain ⟨d, h1, h2⟩ := DaAll.get r e
    exact ⟨d, by simpa using h1, h2⟩
theorem DaAll.append : ∀ {vs us : List V} {ds es : List PyData}, DaAll K N H vs ds → DaAll K N H us es → DaAll K N H (vs ++ us) (ds ++ es)
  | _, _, _, _, .nil, s => s
  | _, _, _, _, .cons a r, s => .cons a (DaAll.append r s)
theorem DaAll.take : ∀ {vs : List V} {ds : List PyData} (n : Nat), DaAll K N H vs ds → DaAll K N H (vs.take n) (ds.take n)
  | _, _, 0, _ => .nil
  | _, _, _ + 1, .nil => .nil
  | _, _, n + 1, .cons a r => .cons a (DaAll.take n r)
theorem DaAll.drop : ∀ {vs : List V} {ds : List PyData} (n : Nat), DaAll K N H vs ds → DaAll K N H (vs.drop n) (ds.drop n)
  | _, _, 0, r => r
  | _, _, _ + 1, .nil => .nil
  | _, _, n + 1, .cons _ r => DaAll.drop n r
end

/-! ### how long what is shown is, how deep -/
theorem joinLen : ∀ ts : List Str, (Str.join ", " ts).length ≤ (ts.map fun t => t.length + 2).sum
  | [] => by decide
  | [x] => by
    show x.length ≤ _
    simp
  | x :: y :: r => by
    have ih := joinLen (y :: r)
    have e : (Str.join ", " (x :: y :: r)).length = x.length + 2 + (Str.join ", " (y :: r)).length := by
      show (x ++ ", " ++ Str.join ", " (y :: r)).length = _
      rw [strLen_append, strLen_append]
      rfl
    rw [e, List.map_cons, List.sum_cons]
    omega
end Ow

namespace Ow
open PySem PySem.Spec PyProof.Rows L2

/-! ### how long what is shown is -/
mutual
/-- at least as long as what is shown; each place of a row and a brace counted with it -/
def wt : PyData → Nat
  | .none => 4
  | .bool _ => 5
  | .int i => (toString i : Str).length
  | .str x => (reprText x).length + x.length
  | .list xs => wtAll xs + 4
  | .tuple xs => wtAll xs + 4
  | .dict kvs => wtKv kvs + 4
def wtAll : List PyData → Nat
  | [] => 0
  | x :: xs => wt x + 2 + wtAll xs
def wtKv : List (PyData × PyData) → Nat
  | [] => 0
  | (k, v) :: r => wt k + wt v + 4 + wtKv r
end
theorem textFromLen : ∀ (ts : List Str) (k : Nat) (acc : Str), (textFrom k acc ts).length ≤ acc.length + (ts.map fun t => t.length + 2).sum
  | [], k, acc => by
    show acc.length ≤ _
    simp
  | t :: r, k, acc => by
    have ih := textFromLen r (k + 1) (acc ++ (if k > 0 then ", " else "" : String) ++ t)
    have e : (acc ++ (if k > 0 then ", " else "" : String) ++ t).length ≤ acc.length + 2 + t.length := by
      rw [strLen_append, strLen_append]
      by_cases h : k > 0
      · rw [if_pos h]
        show acc.length + 2 + t.length ≤ _
        omega
      · rw [if_neg h]
        show acc.length + 0 + t.length ≤ _
        omega
    show (textFrom (k + 1) (acc ++ (if k > 0 then ", " else "" : String) ++ t) r).length ≤ _
    rw [List.map_cons, List.sum_cons]
    omega
theorem listTextLen (ts : List Str) : (listText ts).length ≤ (ts.map fun t => t.length + 2).sum + 4 := by
  have h := textFromLen ts 0 "["
  have e : (listText ts).length = (textFrom 0 "[" ts).length + 1 := by
    unfold listText
    rw [strLen_append]
    rfl
  have e1 : (("[" : String) : Str).length = 1 := rfl
  rw [e]
  rw [e1] at h
  omega
theorem tupleTextLen (ts : List Str) : (tupleText ts).length ≤ (ts.map fun t => t.length + 2).sum + 4 := by
  have h := joinLen ts
  have e : (tupleText ts).length ≤ 1 + (Str.join ", " ts).length + 2 := by
    unfold tupleText
    rw [strLen_append, strLen_append]
    by_cases q : (ts.length == 1) = true
    · rw [if_pos q]
      exact Nat.le_refl _
    · rw [if_neg q]
      show 1 + (Str.join ", " ts).length + 1 ≤ _
      omega
  omega
theorem dictTextLen (ts : List Str) : (dictText ts).length ≤ (ts.map fun t => t.length + 2).sum + 4 := by
  have h := joinLen ts
  have e : (dictText ts).length = 1 + (Str.join ", " ts).length + 1 := by
    unfold dictText
    rw [strLen_append, strLen_append]
    rfl
  omega
mutual
theorem shownLen : ∀ d : PyData, d.shown.length ≤ wt d
  | .none => by decide
  | .bool b => by
    cases b
    · decide
    · decide
  | .int i => by
    simp only [PyData.shown, wt]
    exact Nat.le_refl _
  | .str x => by
    simp only [PyData.shown, wt]
    exact Nat.le_add_right _ _
  | .list xs => by
    simp only [PyData.shown, wt]
    have h := listTextLen (PyData.shownAll xs)
    have h2 := shownAllLen xs
    omega
  | .tuple xs => by
    simp only [PyData.shown, wt]
    have h := tupleTextLen (PyData.shownAll xs)
    have h2 := shownAllLen xs
    omega
  | .dict kvs => by
    simp only [PyData.shown, wt]
    have h := dictTextLen (PyData.shownKv kvs)
    have h2 := shownKvLen kvs
    omega
theorem shownAllLen : ∀ ds : List PyData, ((PyData.shownAll ds).map fun t => t.length + 2).sum ≤ wtAll ds
  | [] => by simp [PyData.shownAll, wtAll]
  | d :: ds => by
    have h1 := shownLen d
    have h2 := shownAllLen ds
    simp only [PyData.shownAll, wtAll, List.map_cons, List.sum_cons]
    omega
theorem shownKvLen : ∀ ds : List (PyData × PyData), ((PyData.shownKv ds).map fun t => t.length + 2).sum ≤ wtKv ds
  | [] => by simp [PyData.shownKv, wtKv]
  | (k, v) :: r => by
    have h1 := shownLen k
    have h2 := shownLen v
    have h3 := shownKvLen r
    simp only [PyData.shownKv, wtKv, List.map_cons, List.sum_cons]
    have e : (PyData.shown k ++ (": " : Str) ++ PyData.shown v).length = (PyData.shown k).length + 2 + (PyData.shown v).length := by
      rw [strLen_append, strLen_append]
      rfl
    rw [e]
    omega
end
/-- data that repr may be asked of: what is shown at most n long, at most m deep -/
structure Fit (n m : Nat) (d : PyData) : Prop where
  sh : d.showable = true
  wt : wt d ≤ n
  dp : d.depth ≤ m
theorem Fit.le {n m n' m' : Nat} {d : PyData} (f : Fit n m d) (h : n ≤ n') (k : m ≤ m') : Fit n' m' d := ⟨f.sh, Nat.le_trans f.wt h, Nat.le_trans f.dp k⟩

/-! ### what stands in the heap, read as data -/
section
variable {X : Cx} {pins : List (Addr × Obj)} {σ : L2.St} {H : Hp} {s : Shared} {N : Addr → Prop}
theorem pairs_read {P : Program} {w : World} {h : Heap} : ∀ {kvs : List (Key × V)} {vs : List (Key × Value)} {el : List DictEntry}, KV kvs vs → Pairs (mixKind P w) el vs →
    Vals (kvs.map (·.2)) (el.map (·.val)) ∧ ReadsAll h (el.map (·.key)) (kvs.map fun q => kD q.1) []
  | _, _, _, .nil, .nil => ⟨.nil, .nil⟩
  | _, _, _, .cons (a := a) (b := b) q r, .cons (e := e) h1 h2 h3 => by
    obtain ⟨i1, i2⟩ := pairs_read (h := h) r h3
    refine ⟨.cons (by show RelV a.2 e.val; rw [h2]; exact q.2) i1, ?_⟩
    have hk : Reads h e.key (kD a.1) [] := by
      rw [q.1]
      rcases keyIs_shape (k := b.1) (v := e.key) h1 with ⟨i, t, z, z2⟩ | ⟨x, t, z, z2⟩
      · rw [z, z2]
        exact .int i t
      · rw [z, z2]
        exact .str x t
    exact .cons hk i2
theorem list_nsys (I : Inv X pins σ H s) (hs : ∃ o, s.heap.get? sysModules = some o ∧ o.cls ≠ .type "list") {a : Addr} {xs : List V} (h : H a = some (.lst xs)) : a ≠ sysModules := by
  rintro rfl
  obtain ⟨o, e, c⟩ := hs
  obtain ⟨_, its, n, _, q⟩ := I.hok _ _ h
  rw [e] at q
  cases q
  exact c rfl
mutual
theorem Da.reads (I : Inv X pins σ H s) : ∀ {v : V} {d : PyData}, Da X.K N H v d → ∀ {u : Value}, RelV v u → ∃ as, Reads s.heap u d as ∧ ((∃ o, s.heap.get? sysModules = some o ∧ o.cls ≠ .type "list") → sysModules ∉ as)
  | _, _, .non, _, r => by
    cases r
    exact ⟨_, .none, fun _ z => nomatch z⟩
  | _, _, .bl b, _, r => by
    cases r
    exact ⟨_, .bool b, fun _ z => nomatch z⟩
  | _, _, .int i, _, r => by
    obtain ⟨t, rfl⟩ := r
    exact ⟨_, .int i t, fun _ z => nomatch z⟩
  | _, _, .str x, _, r => by
    obtain ⟨t, rfl⟩ := r
    exact ⟨_, .str x t, fun _ z => nomatch z⟩
  | _, _, .lst h ne ra, _, r => by
    cases r
    obtain ⟨its, rv, ⟨o, n, ho, hc, _, hd⟩, _⟩ := I.list (SqL.of h)
    obtain ⟨as, hr, hn⟩ := DaAll.reads I ra rv
    refine ⟨_, .list ho hc hd hr, fun hs z => ?_⟩
    rcases List.mem_cons.mp z with e | z
    · exact list_nsys I hs h e.symm
    · exact hn hs z
  | _, _, .tup h ra, _, r => by
    cases r
    obtain ⟨its, rv, ⟨o, ho, hc, n, hd⟩, _⟩ := I.tuple h
    obtain ⟨as, hr, hn⟩ := DaAll.reads I ra rv
    exact ⟨_, .tuple ho hc hd hr, hn⟩
  | _, _, .dct (kvs := kvs) (ds := ds) h ne ra, _, r => by
    cases r
    obtain ⟨_, hsys, vs, kv, o, es, ep, ho, hx, hd, hko, hpr, _⟩ := I.hok _ _ h
    obtain ⟨q1, q2⟩ := pairs_read (h := s.heap) kv hpr
    obtain ⟨as, hr, hn⟩ := DaAll.reads I ra q1
    have hl : (kvs.map fun q => kD q.1).length = ds.length := by
      rw [List.length_map, ← DaAll.length ra, List.length_map]
    refine ⟨_, .dict (as := []) (bs := as) ho hx.1 hd ?_ ?_, fun hs z => ?_⟩
    · rw [List.map_fst_zip (Nat.le_of_eq hl)]
      exact q2
    · rw [List.map_snd_zip (Nat.le_of_eq hl.symm)]
      exact hr
    · rcases List.mem_cons.mp z with e | z
      · rw [← e] at hsys
        exact absurd hsys (by decide)
      · exact hn hs z
theorem DaAll.reads (I : Inv X pins σ H s) : ∀ {vs : List V} {ds : List PyData}, DaAll X.K N H vs ds → ∀ {us : List Value}, Vals vs us → ∃ as, ReadsAll s.heap us ds as ∧ ((∃ o, s.heap.get? sysModules = some o ∧ o.cls ≠ .type "list") → sysModules ∉ as)
  | _, _, .nil, _, r => by
    cases r
    exact ⟨_, .nil, fun _ z => nomatch z⟩
  | _, _, .cons a ra, _, r => by
    cases r with
    | cons r1 r2 =>
      obtain ⟨as, h1, n1⟩ := Da.reads I a r1
      obtain ⟨bs, h2, n2⟩ := DaAll.reads I ra r2
      exact ⟨_, .cons h1 h2, fun hs z => (List.mem_append.mp z).elim (n1 hs) (n2 hs)⟩
end
end
/-! ### what is shown, item by item -/
section
variable {X : Cx} {pins : List (Addr × Obj)} {σ : L2.St} {H : Hp} {s : Shared} {N : Addr → Prop}
theorem reads_of (I : Inv X pins σ H s) {v : V} {d : PyData} (h : Da X.K N H v d) {u : Value} (r : RelV v u) : ∃ as, Reads s.heap u d as :=
  let ⟨as, q, _⟩ := Da.reads I h r
  ⟨as, q⟩
theorem out_of {a : Addr} {d : PyData} {as bs : List Addr} {h : Heap} (r : Reads h (.ref a) d as) {n : Nat} (hb : ReadAtMost h n bs) (hn : n < d.depth) : a ∉ bs ∧ ReadAtMost h d.depth (a :: bs) :=
  ⟨not_mem_of_deeper r hn hb, .cons r (Nat.le_of_lt hn) hb⟩
theorem dct_of (I : Inv X pins σ H s) {a : Addr} {kvs : List (Key × V)} {ds : List PyData} (h : H a = some (.dK kvs)) (ne : ¬ N a) (ra : DaAll X.K N H (kvs.map (·.2)) ds)
    (hz : (dictText (PyData.shownKv ((kvs.map fun q => kD q.1).zip ds))).length ≤ sizeLine) (hs : PyData.showableKv ((kvs.map fun q => kD q.1).zip ds) = true)
    (vals : ∀ {us : List Value}, Vals (kvs.map (·.2)) us → PyData.showableAll ds = true → (∀ t ∈ PyData.shownAll ds, t.length ≤ sizeLine) →
      ∃ bs, ReadAtMost s.heap (PyData.depthAll ds) bs ∧ ReprAllK X.prog X.w bs s.heap (PyData.depthAll ds) us (PyData.shownAll ds)) :
    ∃ (o : Obj) (es : Array DictEntry) (ep : Nat) (bs : List Addr), s.heap.get? a = some o ∧ o.cls = .type "dict" ∧ o.data = .dict es ep ∧ (a == sysModules) = false ∧ a ∉ bs ∧
      ReadAtMost s.heap (PyData.dict ((kvs.map fun q => kD q.1).zip ds)).depth (a :: bs) ∧ ReprEntriesK X.prog X.w bs s.heap (PyData.depthKv ((kvs.map fun q => kD q.1).zip ds)) es.toList (PyData.shownKv ((kvs.map fun q => kD q.1).zip ds)) := by
  obtain ⟨as, rd⟩ := reads_of I (.dct h ne ra) (u := .ref a) rfl
  obtain ⟨_, hsys, vs, kv, o, es, ep, ho, hx, hd, hko, hpr, _⟩ := I.hok _ _ h
  obtain ⟨q1, q2⟩ := pairs_read (h := s.heap) kv hpr
  have hl : (kvs.map fun q => kD q.1).length = ds.length := by
    rw [List.length_map, ← DaAll.length ra, List.length_map]
  have e1 : (((kvs.map fun q => kD q.1)).zip ds).map (·.1) = kvs.map fun q => kD q.1 := List.map_fst_zip (Nat.le_of_eq hl)
  have e2 : (((kvs.map fun q => kD q.1)).zip ds).map (·.2) = ds := List.map_snd_zip (Nat.le_of_eq hl.symm)
  obtain ⟨s1, s2⟩ := PyData.showableKv_split _ hs
  have zk := fun t ht => Nat.le_trans (let ⟨y, hy, hl⟩ := PyData.shownKv_key_le ((kvs.map fun q => kD q.1).zip ds) t ht; Nat.le_trans hl (dictText_mem_le hy)) hz
  have zv := fun t ht => Nat.le_trans (let ⟨y, hy, hl⟩ := PyData.shownKv_val_le ((kvs.map fun q => kD q.1).zip ds) t ht; Nat.le_trans hl (dictText_mem_le hy)) hz
  have d1 := PyData.depthAll_keys_le (((kvs.map fun q => kD q.1)).zip ds)
  have d2 := PyData.depthAll_vals_le (((kvs.map fun q => kD q.1)).zip ds)
  rw [e1] at s1 zk d1
  rw [e2] at s2 zv d2
  obtain ⟨b1, hb1, k1⟩ := ReprAllK.of_readsAll (prog := X.prog) (w := X.w) q2 s1 (fun _ z => nomatch z) zk
  obtain ⟨b2, hb2, k2⟩ := vals q1 s2 zv
  obtain ⟨o1, o2⟩ := out_of rd ((hb1.mono d1).append (hb2.mono d2)) (by rw [PyData.depth]; exact Nat.lt_succ_self _)
  refine ⟨o, es, ep, b1 ++ b2, ho, hx.1, hd, hsys, o1, o2, ?_⟩
  rw [PyData.shownKv_eq, e1, e2]
  exact .of_two es.toList _ _ (k1.more_le (fun b z => List.mem_append_left _ z) d1) (k2.more_le (fun b z => List.mem_append_right _ z) d2)
mutual
theorem Da.rk (I : Inv X pins σ H s) : ∀ {v : V} {d : PyData}, Da X.K N H v d → ∀ {u : Value}, RelV v u → d.showable = true → d.shown.length ≤ sizeLine →
    ∃ bs, ReadAtMost s.heap d.depth bs ∧ ReprK X.prog X.w bs s.heap d.depth u d.shown
  | _, _, .non, _, r, _, _ => by
    cases r
    refine ⟨[], fun _ z => (nomatch z), ?_⟩
    rw [PyData.shown]
    exact .of_is .none _ _ _
  | _, _, .bl b, _, r, _, _ => by
    cases r
    refine ⟨[], fun _ z => (nomatch z), ?_⟩
    rw [PyData.shown]
    exact .of_is (.bool b) _ _ _
  | _, _, .int i, _, r, hs, _ => by
    obtain ⟨t, rfl⟩ := r
    refine ⟨[], fun _ z => (nomatch z), ?_⟩
    rw [PyData.showable, decide_eq_true_eq] at hs
    rw [PyData.shown]
    exact .of_is (.int t hs) _ _ _
  | _, _, .str x, _, r, _, hz => by
    obtain ⟨t, rfl⟩ := r
    refine ⟨[], fun _ z => (nomatch z), ?_⟩
    rw [PyData.shown] at hz ⊢
    exact .of_is (.str x t hz) _ _ _
  | _, _, .lst (a := a) (ds := ds) h ne ra, _, r, hs, hz => by
    cases r
    obtain ⟨as, rd⟩ := reads_of I (.lst h ne ra) (u := .ref a) rfl
    obtain ⟨its, rv, ⟨o, n, ho, hc, _, hd⟩, _⟩ := I.list (SqL.of h)
    rw [PyData.showable] at hs
    rw [PyData.shown] at hz ⊢
    obtain ⟨bs, hb, hk⟩ := DaAll.rk I ra rv hs fun t ht => Nat.le_trans (listText_mem_le ht) hz
    obtain ⟨o1, o2⟩ := out_of rd hb (by rw [PyData.depth]; exact Nat.lt_succ_self _)
    refine ⟨a :: bs, o2, ?_⟩
    rw [PyData.depth]
    cases its with
    | nil =>
      cases rv
      cases ra
      rw [PyData.shownAll, listText_nil]
      exact .listEmpty ho hc hd
    | cons y t =>
      refine .list ho hc hd o1 ?_ fun i z e => hk.item i z ?_
      · simpa using hk.length_eq
      · simpa using e
  | _, _, .tup (a := a) h ra, _, r, hs, hz => by
    cases r
    obtain ⟨as, rd⟩ := reads_of I (.tup (N := N) h ra) (u := .ref a) rfl
    obtain ⟨its, rv, ⟨o, ho, hc, n, hd⟩, _⟩ := I.tuple h
    rw [PyData.showable] at hs
    rw [PyData.shown] at hz ⊢
    obtain ⟨bs, hb, hk⟩ := DaAll.rk I ra rv hs fun t ht => Nat.le_trans (tupleText_mem_le ht) hz
    obtain ⟨o1, o2⟩ := out_of rd hb (by rw [PyData.depth]; exact Nat.lt_succ_self _)
    refine ⟨a :: bs, o2, ?_⟩
    rw [PyData.depth]
    exact .tuple ho hc hd o1 (by simpa using hk)
  | _, _, .dct (a := a) (kvs := kvs) (ds := ds) h ne ra, _, r, hs, hz => by
    cases r
    rw [PyData.showable] at hs
    rw [PyData.shown] at hz ⊢
    obtain ⟨o, es, ep, bs, h1, h2, h3, h4, h5, h6, h7⟩ := dct_of I h ne ra hz hs fun rv s2 z2 => DaAll.rk I ra rv s2 z2
    refine ⟨a :: bs, h6, ?_⟩
    rw [PyData.depth]
    exact .dict h1 h2 h3 h4 h5 h7
theorem DaAll.rk (I : Inv X pins σ H s) : ∀ {vs : List V} {ds : List PyData}, DaAll X.K N H vs ds → ∀ {us : List Value}, Vals vs us → PyData.showableAll ds = true → (∀ t ∈ PyData.shownAll ds, t.length ≤ sizeLine) →
    ∃ bs, ReadAtMost s.heap (PyData.depthAll ds) bs ∧ ReprAllK X.prog X.w bs s.heap (PyData.depthAll ds) us (PyData.shownAll ds)
  | _, _, .nil, _, r, _, _ => by
    cases r
    refine ⟨[], fun _ z => (nomatch z), ?_⟩
    rw [PyData.shownAll]
    exact .nil
  | _, _, .cons (d := d) (ds := ds) a ra, _, r, hs, hz => by
    cases r with
    | cons r1 r2 =>
      rw [PyData.showableAll, Bool.and_eq_true] at hs
      rw [PyData.shownAll] at hz ⊢
      obtain ⟨b1, h1, k1⟩ := Da.rk I a r1 hs.1 (hz _ (List.mem_cons_self ..))
      obtain ⟨b2, h2, k2⟩ := DaAll.rk I ra r2 hs.2 fun t ht => hz t (List.mem_cons_of_mem _ ht)
      rw [PyData.depthAll]
      exact ⟨b1 ++ b2, .append (h1.mono (Nat.le_max_left _ _)) (h2.mono (Nat.le_max_right _ _)),
        .cons ((k1.more fun b z => List.mem_append_left _ z).level_le (Nat.le_max_left _ _)) (k2.more_le (fun b z => List.mem_append_right _ z) (Nat.le_max_right _ _))⟩
end
end
section
variable {X : Cx}
/-- repr of data: nothing else is shown around, and there is room -/
def rRepr (K : PySem.W.Frag) (un : Nat) : List V → Hp → VK → Prop := fun xs H Q => ∃ (N : Addr → Prop) (v : V) (d : PyData) (n : Nat), xs = [v] ∧ Da K N H v d ∧ Fit n 150 d ∧ n ≤ sizeLine ∧
  un + 151 < cLine ∧ Q (.str d.shown) H
theorem call_reprD (hg : X.A.guards = some []) : CallR X (.builtin "repr") (rRepr X.K X.A.units) := by
  intro pins s σ H xs us Q I r h
  obtain ⟨N, v, d, n, rfl, hd, hf, hn, hu, q⟩ := h
  obtain ⟨u, rfl, r1⟩ := vals1 r
  have hz : d.shown.length ≤ sizeLine := Nat.le_trans (shownLen d) (Nat.le_trans hf.wt hn)
  have hdp := hf.dp
  have hsh := hf.sh
  have fin : ∀ (h' : Heap) (u : Tok) (tk : Nat), (∀ b o, s.heap.get? b = some o → h'.get? b = some o) → EP X pins σ Q (.str d.shown u) { s with heap := h', toks := tk } := fun h' u tk k => ⟨.str _, H, I.kept k, ⟨u, rfl⟩, q⟩
  cases hd with
  | non =>
    cases r1
    exact PySem.P.repr_of_none ⟨.str _, H, I.tok _, ⟨_, rfl⟩, q⟩
  | bl b =>
    cases r1
    exact PySem.P.repr_of_bool ⟨.str _, H, I.tok _, ⟨_, rfl⟩, q⟩
  | int i =>
    obtain ⟨t, rfl⟩ := r1
    rw [PyData.showable, decide_eq_true_eq] at hsh
    exact PySem.P.repr_of_int hsh ⟨.str _, H, I.tok _, ⟨_, rfl⟩, q⟩
  | str x =>
    obtain ⟨t, rfl⟩ := r1
    exact PySem.P.repr_of_str ⟨.str _, H, I.tok _, ⟨_, rfl⟩, q⟩ hz
  | @lst a xs ds h1 h2 h3 =>
    cases r1
    obtain ⟨as, rd⟩ := reads_of I (.lst h1 h2 h3) (u := .ref a) rfl
    obtain ⟨its, rv, ⟨o, m, ho, hc, _, hdt⟩, _⟩ := I.list (SqL.of h1)
    rw [PyData.showable] at hsh
    rw [PyData.shown] at hz fin
    rw [PyData.depth] at hdp
    obtain ⟨bs, hb, hk⟩ := DaAll.rk I h3 rv hsh fun t ht => Nat.le_trans (listText_mem_le ht) hz
    obtain ⟨o1, _⟩ := out_of rd hb (by rw [PyData.depth]; exact Nat.lt_succ_self _)
    refine call_repr_slot (by omega) ⟨o, ho, hc⟩ PySem.F.slot_list_repr.toG ?_
    cases its with
    | nil =>
      cases rv
      cases h3
      rw [PyData.shownAll, listText_nil] at fin
      exact call_list_repr_empty ⟨o, ho, hc⟩ ho hdt ⟨_, _, rfl, fin s.heap _ _ fun _ _ e => e⟩
    | cons y t =>
      refine call_list_reprK ho hc hdt o1 ?_ (fun i z e => hk.item i z ?_) hg (fun b _ => Clear.nil b) ?_ (fun _ _ e => e) (fun h' u tk k => ⟨_, _, rfl, fin h' u tk k⟩) hz
      · simpa using hk.length_eq
      · simpa using e
      · show X.A.units + 1 + (PyData.depthAll ds + 1) < cLine
        omega
  | @tup a xs ds h1 h3 =>
    cases r1
    obtain ⟨as, rd⟩ := reads_of I (.tup (N := N) h1 h3) (u := .ref a) rfl
    obtain ⟨its, rv, ⟨o, ho, hc, m, hdt⟩, _⟩ := I.tuple h1
    rw [PyData.showable] at hsh
    rw [PyData.shown] at hz fin
    rw [PyData.depth] at hdp
    obtain ⟨bs, hb, hk⟩ := DaAll.rk I h3 rv hsh fun t ht => Nat.le_trans (tupleText_mem_le ht) hz
    obtain ⟨o1, _⟩ := out_of rd hb (by rw [PyData.depth]; exact Nat.lt_succ_self _)
    refine call_repr_slot (by omega) ⟨o, ho, hc⟩ PySem.F.slot_tuple_repr ?_
    refine call_tuple_reprK ho hc hdt o1 (by simpa using hk) hg (fun b _ => Clear.nil b) ?_ (fun _ _ e => e) (fun h' u tk k => ⟨_, _, rfl, fin h' u tk k⟩) hz
    show X.A.units + 1 + (PyData.depthAll ds + 1) < cLine
    omega
  | @dct a kvs ds h1 h2 h3 =>
    cases r1
    rw [PyData.showable] at hsh
    rw [PyData.shown] at hz fin
    rw [PyData.depth] at hdp
    obtain ⟨o, es, ep, bs, g1, g2, g3, g4, g5, g6, g7⟩ := dct_of I h1 h2 h3 hz hsh fun rv s2 z2 => DaAll.rk I h3 rv s2 z2
    refine call_repr_slot (by omega) ⟨o, g1, g2⟩ PySem.F.slot_dict_repr ?_
    refine call_dict_reprK g1 g2 g3 g4 g5 g7 hg (fun b _ => Clear.nil b) ?_ (fun _ _ e => e) (fun h' u tk k => ⟨_, _, rfl, fin h' u tk k⟩) hz
    show X.A.units + 1 + (PyData.depthKv ((kvs.map fun q => kD q.1).zip ds) + 1) < cLine
    omega
end

/-! ### a def that runs where nothing is being shown -/
structure FnG (P : Program) (w : World) (K : PySem.W.Frag) (mg : Str → Option Value) (base : Heap) (k : Nat) (f : Addr) (fd : FuncData) (ps : List Str) (sp : Sp) : Prop where
  len : ∀ vs H Q E, sp vs H Q E → vs.length = ps.length
  run : ∀ (A : Around) (outer : List Env) (s : Shared) (H : Hp) (args : Args) (us : List Value) (vs : List V) (Q : VK) (E : XK),
    A.guards = some [] → Room k A → Env0 P w K mg base A outer s H → BindsTo s fd args (ps.zip us) → Vals vs us → sp vs H Q E →
    codeAny (model P w) A (.call (.ref f) args) (CR CX0 outer P w H s Q E) s
/-- the end of a body, as the end of its call -/
theorem ends_call {P : Program} {w : World} {K : PySem.W.Frag} {mg : Str → Option Value} {base : Heap} {N : List Str} {qual : Str} {scope : Scope} {f : Addr} {cd : Value} {A : Around} {outer : List Env} {s s' : Shared} {H : Hp} {E : XK} {Q : VK} {fl : Flow}
    (h : SP (cxOf CX0 P w K mg base N qual scope f cd A outer s H E) [] { nx := fun _ H' => Q .non H', rt := Q } fl s') :
    match fl with
    | .next => CE outer P w H s Q .none s'
    | .ret u => CE outer P w H s Q u s'
    | _ => False := by
  cases fl with
  | next =>
    obtain ⟨_, H', J, q⟩ := h
    exact ⟨.non, H', J.os, J.bare, J.base, J.hok, rfl, q⟩
  | ret u =>
    obtain ⟨v, _, H', J, r, q⟩ := h
    exact ⟨v, H', J.os, J.bare, J.base, J.hok, r, q⟩
  | brk =>
    obtain ⟨_, _, _, q⟩ := h
    exact q
  | cont =>
    obtain ⟨_, _, _, q⟩ := h
    exact q
theorem Fun.okG {P : Program} {w : World} {K : PySem.W.Frag} {mg : Str → Option Value} {base : Heap} {x qual : Str} {st : Stmt} {f : Addr} {fd : FuncData} {N ps : List Str} {k : Nat} {sp : Sp} (F : Fun K x qual st f fd) (S : FnScope N ps (defScope st))
    (len : ∀ vs H Q E, sp vs H Q E → vs.length = ps.length)
    (body : ∀ (cdv : Value) (A : Around) (outer : List Env) (s : Shared) (H : Hp) (vs : List V) (Q : VK) (E : XK), A.guards = some [] → Room k (A.deeper (envOfC qual (defScope st) s.heap.objs.size f cdv)) → sp vs H Q E →
      ∃ t, PSs (cxOf CX0 P w K mg base N qual (defScope st) f cdv A outer s H E).nox (defBody st) t ∧ t { nx := fun _ H' => Q .non H', rt := Q } (start N vs) H) : FnG P w K mg base (k + 1) f fd ps sp := by
  obtain ⟨oc, od, kV, doc, pm, an, cdv, ct, osl, rfl, lk, hcd⟩ := F.ex
  constructor
  · exact len
  · intro A outer s H args us vs Q E ag room e0 bind rel want
    have ln := len vs H Q E want
    have old : ∀ b o, base.get? b = some o → s.heap.get? b = some o := fun b o q => (e0.bs b o q).1
    have KS : K.In s.heap := e0.mod.kin.keeps old
    refine codeAny_call_function room.depth (KS _ _ lk) rfl S.co S.gen rfl (PySem.W.codeRec_of KS hcd) (bind _ _ _ _ ?_)
    refine wpAny_newFunctionEnv_cells S.kind ?_ ?_
    · intro y hy
      obtain ⟨n, v⟩ := y
      have hp := S.par n (List.of_mem_zip hy).1
      rcases hp with q | q
      · exact Or.inl q
      · exact Or.inr ⟨q, PySem.W.cellsFrom_some _ _ _ (Or.inl q)⟩
    · intro env he s1 x
      subst he
      refine ⟨(e0.mod.nolimit.keeps old).keeps x.toInCall.keep, codeAny_func ?_⟩
      obtain ⟨t, ht, hq⟩ := body cdv A outer s H vs Q E ag (room.deeper _) want
      have J : Inv (cxOf CX0 P w K mg base N qual (defScope st) f cdv A outer s H E) [] (start N vs) H s1 := inv_start S room.hd e0 ln rel x
      refine wpAny_mono (ht.nox.run [] s1 (start N vs) H _ J hq) (fun fl s' hs => ?_) fun _ _ z => z
      have z := ends_call hs
      cases fl with
      | next => exact z
      | ret u => exact z
      | brk => exact z.elim
      | cont => exact z.elim
theorem FnOk.g {P : Program} {w : World} {K : PySem.W.Frag} {mg : Str → Option Value} {base : Heap} {k : Nat} {f : Addr} {fd : FuncData} {ps : List Str} {sp : Sp} (F : FnOk P w K mg base CX0 k f fd ps sp) : FnG P w K mg base k f fd ps sp :=
  ⟨F.len, fun A outer s H args us vs Q E _ => F.run A outer s H args us vs Q E⟩
structure CallG (P : Program) (w : World) (K : PySem.W.Frag) (mg : Str → Option Value) (base : Heap) (k : Nat) (x : Str) (ps : List Str) (sp : Sp) : Prop where
  ex : ∃ (f : Addr) (fd : FuncData), FnG P w K mg base k f fd ps sp ∧ mg x = some (.ref f) ∧ PySem.W.keepIn K (.ref f) = true ∧ Binds K fd ps []
theorem DefAt.okG {P : Program} {w : World} {K : PySem.W.Frag} {mg : Str → Option Value} {base : Heap} {x : Str} {st : Stmt} {N ps : List Str} {k : Nat} {sp : Sp} (D : DefAt K mg x st ps) (S : FnScope N ps (defScope st)) (len : ∀ vs H Q E, sp vs H Q E → vs.length = ps.length)
    (body : ∀ (f : Addr) (cdv : Value) (A : Around) (outer : List Env) (s : Shared) (H : Hp) (vs : List V) (Q : VK) (E : XK), A.guards = some [] → Room k (A.deeper (envOfC x (defScope st) s.heap.objs.size f cdv)) → sp vs H Q E →
      ∃ t, PSs (cxOf CX0 P w K mg base N x (defScope st) f cdv A outer s H E).nox (defBody st) t ∧ t { nx := fun _ H' => Q .non H', rt := Q } (start N vs) H) : CallG P w K mg base (k + 1) x ps sp := by
  obtain ⟨f, fd, F, hm, hb⟩ := D.ex
  exact ⟨f, fd, Fun.okG F S len fun cdv A outer s H vs Q E ag hr h => body f cdv A outer s H vs Q E ag hr h, hm, F.kp, hb⟩
section
variable {X : Cx} {k j : Nat} {x : Str} {ps : List Str} {sp : Sp} {p pos : Pos} {e : Expr} {es : List Expr} {t : TA}
theorem pe_callG (ag : X.A.guards = some []) (C : CallG X.prog X.w X.K X.mg X.base k x ps sp) (hr : Room j X.A) (hj : k ≤ j) (hg : Gl X x) (ha : PA X (e :: es) t)
    (hdb : (x == ("__debug__" : Str)) = false := by decide) (he : starEach (e :: es) X.env = (false, eval e X.env) :: starEach es X.env := by rfl)
    (hpl : (backTo pos (starEach es X.env)).any (·.1) = false := by rfl) : PE X (.Call (.Name x p) (e :: es) [] pos) (tCall sp [] E0 t) := by
  obtain ⟨f, fd, F, hm, hk, hb⟩ := C.ex
  constructor
  intro pins s σ H Q I h
  refine wpAny_Call_Name_kw (ld_glob I hg hm ?_ hdb)
  refine PySem.W.callWith_K (h₀ := X.base) I.ok.mod.kin hk (thn (ha.run pos pins s σ H _ I h) fun us s1 q0 => ?_) he hpl
  obtain ⟨vs, H1, I1, r, q⟩ := q0
  refine ⟨I1.kIn, ?_⟩
  have r2 : Vals (vs ++ []) (us ++ []) := r.append .nil
  have ln : (us ++ []).length = ps.length := by
    rw [← r2.length]
    exact F.len _ _ _ _ q
  refine wpAny_call (codeAny_mono (F.run X.A X.stack s1 H1 ⟨us, []⟩ (us ++ []) (vs ++ []) Q E0 ag (hr.mono hj) I1.env0 (hb s1 us I1.kIn ln) r2 q) fun a s' z => ?_)
  match a, z with
  | .ok (.ret u), z => exact I1.after z
  | .ok .next, z => exact z.elim
  | .ok .brk, z => exact z.elim
  | .ok .cont, z => exact z.elim
  | .error _, z => exact z.elim
end
end Ow

namespace Ow
open PySem PySem.Spec PyProof.Rows L2

/-! ### the law's own call -/
/-- the script alone is known, where the module has it not -/
noncomputable def scriptH (K : PySem.W.Frag) (a : Addr) (ob : Obj) (ns : List Int) : Hp := fun b =>
  if b = a ∧ (K.lookup a).isNone = true then some (.frz ob (.lst (ns.map V.int))) else none
section
variable {K : PySem.W.Frag} {a b : Addr} {ob : Obj} {ns : List Int}
theorem scriptH_some {u : HO} (h : scriptH K a ob ns b = some u) : b = a ∧ (K.lookup a).isNone = true ∧ u = .frz ob (.lst (ns.map V.int)) := by
  unfold scriptH at h
  by_cases c : b = a ∧ (K.lookup a).isNone = true
  · rw [if_pos c] at h
    exact ⟨c.1, c.2, (Option.some.inj h).symm⟩
  · rw [if_neg c] at h
    cases h
theorem scriptH_only : Only (scriptH K a ob ns) := fun c => by
  cases e : scriptH K a ob ns c with
  | none => exact .inl rfl
  | some u =>
    obtain ⟨_, _, rfl⟩ := scriptH_some e
    exact .inr ⟨ob, _, rfl⟩
end
/-- a def of one parameter, run on the script from where the top has left off: True -/
theorem law_run {P : Program} {w : World} {K : PySem.W.Frag} {mg mb : Str → Option Value} {k : Nat} {fa a : Addr} {fd : FuncData} {x : Str} {sp : Sp} {t : Shared} {vs : List Value} {ns : List Int}
    (inK : K.In t.heap) (gl : t.heap.Ns mainGlobals mg) (bl : t.heap.Ns builtinsNs mb) (bl2 : ∀ x : Str, x ≠ "__name__" → mb x = bootBuiltins x) (lim : t.heap.NoLimit) (gens : t.gens = #[])
    (obj : t.heap.get? a = some { cls := .type "list", data := .seq vs.toArray }) (hints : IntsAre vs ns) (short : ns.length ≤ sizeLine) (room : Room k callerA)
    (F : ∀ base : Heap, K.In base → base.Ns mainGlobals mg → FnG P w K mg base k fa fd [x] sp) (bind : ∀ (s : Shared) (u : Value), BindsTo s fd ⟨[u], []⟩ [(x, u)])
    (want : ∀ H : Hp, Only H → SqL K H a (ns.map V.int) → sp [.ref a] H (fun v _ => v = .bl true) fun _ _ _ => False) :
    codeAny (model P w) callerA (.call (.ref fa) ⟨[.ref a], []⟩) (fun r s' => r = .ok (.ret (.bool true)) ∧ OldK t.heap s'.heap ∧ s'.os = t.os ∧ AllBare s'.gens) t := by
  have rel := vals_ints hints
  have len := hints.length
  generalize hS : scriptH K a { cls := .type "list", data := .seq vs.toArray } ns = S
  have only : Only S := hS ▸ scriptH_only
  have know : ∀ b u, S b = some u → b = a ∧ (K.lookup a).isNone = true ∧ u = .frz { cls := .type "list", data := .seq vs.toArray } (.lst (ns.map V.int)) := fun b u q => by
    rw [← hS] at q
    exact scriptH_some q
  have read : SqL K S a (ns.map V.int) := by
    cases q : K.lookup a with
    | none =>
      refine .inl (.inr ⟨{ cls := .type "list", data := .seq vs.toArray }, ?_⟩)
      rw [← hS]
      unfold scriptH
      rw [if_pos ⟨rfl, by rw [q]; rfl⟩]
    | some o =>
      have e := inK a o q
      rw [obj] at e
      cases e
      refine .inr ⟨_, vs.toArray, _, q, rfl, rfl, rfl, ?_, rel⟩
      rw [List.size_toArray, len]
      exact short
  have hok : HOk P w S t.heap := fun b u q => by
    obtain ⟨rfl, _, rfl⟩ := know b u q
    refine ⟨obj, ?_, vs, _, rel, obj⟩
    rw [List.length_map]
    exact short
  -- what is no list stands in the base
  have hid : ∀ {b : Addr} {o : Obj}, t.heap.get? b = some o → (b = a → (K.lookup a).isNone = true → False) → (hidT t.heap S).get? b = some o := fun {b o} q n => hidT_get q (by
    cases z : S b with
    | none => rfl
    | some u =>
      obtain ⟨e1, e2, _⟩ := know b u z
      exact (n e1 e2).elim)
  have ns_hid : ∀ {b : Addr} {m : Str → Option Value}, t.heap.Ns b m → (hidT t.heap S).Ns b m := fun {b m} q => by
    obtain ⟨o, es, ep, h1, h2, r⟩ := q
    refine ⟨o, es, ep, hid h1 (fun e _ => ?_), h2, r⟩
    subst e
    rw [obj] at h1
    cases h1
    cases h2
  have in_hid : K.In (hidT t.heap S) := fun b o q => hid (inK b o q) (fun e n => by
    subst e
    rw [q] at n
    cases n)
  have e0 : Env0 P w K mg (hidT t.heap S) callerA [] t S := by
    refine ⟨rfl, ⟨in_hid, ns_hid gl, ⟨mb, ns_hid bl, bl2⟩, ?_⟩, fun b o q => of_hidT q, Nat.le_of_eq (hidT_size _ _), trivial, fun b z => ?_, hok, .of_eq gens⟩
    · obtain ⟨mc, h1, h2⟩ := lim
      exact ⟨mc, ns_hid h1, h2⟩
    · cases z
  refine codeAny_mono ((F _ in_hid (ns_hid gl)).run callerA [] t S ⟨[.ref a], []⟩ [.ref a] [.ref a] _ _ rfl room e0 (bind t (.ref a)) (.cons rfl .nil) (want S only read)) fun r s' h => ?_
  match r, h with
  | .ok (.ret u), h =>
    obtain ⟨v, H', os, bare, un, hok', r', q⟩ := h
    obtain rfl : v = .bl true := q
    obtain rfl : u = Value.bool true := r'
    refine ⟨rfl, OldK.of_keep fun b o q => ?_, os, bare⟩
    cases z : S b with
    | none =>
      refine un.keep b o q z ?_ ?_
      · intro y
        cases y
      · intro y
        cases y
    | some u =>
      obtain ⟨_, _, rfl⟩ := know b u z
      obtain ⟨f1, _⟩ := hok b _ z
      obtain ⟨f2, _⟩ := hok' b _ (un.frzs b _ _ z)
      rw [q] at f1
      cases f1
      exact f2
  | .ok .next, h => exact h.elim
  | .ok .brk, h => exact h.elim
  | .ok .cont, h => exact h.elim
  | .error _, h => exact h.elim

/-- the goal of the head (case hc) -/
theorem walkG {l : PySem.W.OpenLaw} {n k : Nat} {q : Program} {loose : List Str} {XP : (Str → Option Value) → Heap → Prop} {YP : World → Heap → Prop} {d : DefRec} {K : Params → PySem.W.Frag} {sp : PySem.W.Frag → Sp} {x : Str}
    (hn : l.most = some n) (hn2 : n ≤ sizeLine) (hdf : d.params.defaults = []) (hr : Room k callerA) (hY : ∀ (w : World) (h : Heap), YP w h → (K w.params).In h)
    (F : ∀ (w : World) (mg : Str → Option Value) (fa : Addr) (h : Heap), (K w.params).In h → h.Ns mainGlobals mg → mg d.name = some (.ref fa) →
      ∃ fd : FuncData, (∀ (s : Shared) (u : Value), BindsTo s fd ⟨[u], []⟩ [(x, u)]) ∧
        ∀ base : Heap, (K w.params).In base → base.Ns mainGlobals mg → FnG l.prog w (K w.params) mg base k fa fd [x] (sp (K w.params)))
    (want : ∀ (K : PySem.W.Frag) (H : Hp) (a : Addr) (ns : List Int), ns.length ≤ n → Only H → SqL K H a (ns.map V.int) → sp K [.ref a] H (fun v _ => v = .bl true) fun _ _ _ => False) :
    PySem.W.WalkO q loose XP YP l.row.toRowW d [] (fun f vs => PySem.call f vs) := by
  refine Att.attach_call hn hdf fun w s₀ s₁ mg mb fa o pm cd doc a vs ns G Y ho hd hcd hmg hobj hints hlen hg => ?_
  obtain ⟨fd, hb, hF⟩ := F w mg fa _ (hY w _ Y) G.T.g hmg
  exact law_run (hY w _ Y) G.T.g G.T.b G.T.builtins G.T.nolimit hg hobj hints (Nat.le_trans hlen hn2) hr hF hb fun H h1 h2 => want _ H a ns hlen h1 h2
end Ow
namespace Ow
open PySem PySem.Spec PyProof.Rows L2
/-! ### names of the module -/
/-- the built-in names that the text leaves alone -/
structure Bl (mg : Str → Option Value) : Prop where
  len_ : mg "len" = none
  list_ : mg "list" = none
  range_ : mg "range" = none
  isinstance_ : mg "isinstance" = none
  all_ : mg "all" = none
  any_ : mg "any" = none
  tuple_ : mg "tuple" = none
  repr_ : mg "repr" = none
  zip_ : mg "zip" = none
  str_ : mg "str" = none
  bool_ : mg "bool" = none
  int_ : mg "int" = none
  set_ : mg "set" = none
  sum_ : mg "sum" = none
  max_ : mg "max" = none
  min_ : mg "min" = none
  dict_ : mg "dict" = none
  sorted_ : mg "sorted" = none
  enumerate_ : mg "enumerate" = none
/-- a module's constant -/
def GV (mg : Str → Option Value) (x : Str) (v : V) : Prop := ∃ u, mg x = some u ∧ RelV v u
theorem pe_gv {X : Cx} {x : Str} {v : V} {pos : Pos} (h : GV X.mg x v) (hg : Gl X x) (hd : (x == ("__debug__" : Str)) = false := by decide) : PE X (.Name x pos) (tC v) := by
  obtain ⟨u, hm, r⟩ := h
  exact pe_glob hg hm r hd

/-! ### the pen's mathematics -/
theorem cut_front (ns : List Int) (k : Nat) : cutV (ns.map V.int) none (some (k : Int)) = (ns.take (min k ns.length)).map V.int := by
  unfold cutV
  rw [HT.sIx_none, HT.sIx_nat, List.drop_zero, Nat.sub_zero, List.length_map, List.map_take]
theorem dp_ints (K : PySem.W.Frag) (H : Hp) : ∀ cs : List Int, DpAll K H (cs.map V.int) (cs.map PyData.int)
  | [] => .nil
  | c :: cs => .cons (.int c) (dp_ints K H cs)
theorem at_mod (cs : List Int) (z : Int) (h : 0 < cs.length) : ∃ v : Int, atI (cs.map V.int) (z % (cs.length : Int)) = some (.int v) := by
  have h1 : 0 ≤ z % (cs.length : Int) := Int.emod_nonneg _ (by omega)
  have h2 : z % (cs.length : Int) < cs.length := Int.emod_lt_of_pos _ (by omega)
  obtain ⟨j, hj⟩ : ∃ j : Nat, z % (cs.length : Int) = (j : Int) := ⟨(z % (cs.length : Int)).toNat, by omega⟩
  rw [hj] at h2 ⊢
  have h3 : j < cs.length := by omega
  refine ⟨cs[j], atI_nat ?_⟩
  rw [List.getElem?_map, List.getElem?_eq_getElem h3]
  rfl
/-! ### the pen's promises -/
def spPen (K : PySem.W.Frag) : Sp := fun vs H Q _ => ∃ (a : Addr) (ns : List Int), vs = [.ref a] ∧ SqL K H a (ns.map V.int) ∧ ns.length ≤ 63 ∧
  ∀ (p c : Addr) (H' : Hp), Pen H' p c → Same H H' → H p = none → H c = none → Q (.ref p) H'
def spFresh : Sp := fun vs H Q _ => ∃ (p c : Addr), vs = [.ref p] ∧ Pen H p c ∧ ∀ (n : Int) (H' : Hp), Pen H' p c → Kp p H H' → Q (.int n) H'
def spDraw : Sp := fun vs H Q _ => ∃ (p c : Addr) (b : Int), vs = [.ref p, .int b] ∧ Pen H p c ∧ 0 < b ∧ b < 1073741824 ∧
  ∀ (n : Int) (H' : Hp), 0 ≤ n → n < b → Pen H' p c → Kp p H H' → Q (.int n) H'
/-- a name: one to eight small letters -/
def Nm (x : Str) : Prop := 0 < x.cps.size ∧ x.cps.size ≤ 8 ∧ ∀ c ∈ x.cps.toList, 97 ≤ c ∧ c ≤ 122
def spName : Sp := fun vs H Q _ => ∃ (p c g : Addr) (gs : List Str), vs = [.ref p, .ref g] ∧ Pen H p c ∧ H g = some (.lst (gs.map V.str)) ∧ g ≠ p ∧ gs.length ≤ 600 ∧
  ∀ (x : Str) (H' : Hp), Nm x → Pen H' p c → Kp p H H' → Q (.str x) H'
end Ow
namespace Ow
open PySem PySem.Spec PyProof.Rows L2
theorem shaped_intsAll : ∀ cs : List Int, PyData.canLayAll0 (cs.map PyData.int) = true ∧ PyData.depthAll (cs.map PyData.int) ≤ 1
  | [] => by simp [PyData.canLayAll0, PyData.depthAll]
  | c :: cs => by
    obtain ⟨h1, h2⟩ := shaped_intsAll cs
    refine ⟨?_, ?_⟩
    · simp only [List.map_cons, PyData.canLayAll0, PyData.canLay0, h1, Bool.and_self]
    · simp only [List.map_cons, PyData.depthAll, PyData.depth]
      omega
theorem shaped_ints (cs : List Int) : SeqAt.shaped (.list (cs.map PyData.int)) = true := by
  obtain ⟨h1, h2⟩ := shaped_intsAll cs
  have h3 : (PyData.list (cs.map PyData.int)).depth ≤ 64 := by
    simp only [PyData.depth]
    omega
  unfold SeqAt.shaped
  rw [decide_eq_true h3, Bool.and_true]
  simp only [PyData.canLay0]
  exact h1
theorem shaped_nil : SeqAt.shaped (.list []) = true := shaped_ints []
theorem eqv_nil (cs : List Int) : PyData.eqv (.list (cs.map PyData.int)) (.list []) = cs.isEmpty := by
  cases cs with
  | nil => simp [PyData.eqv, PyData.eqvAll]
  | cons c cs => simp [PyData.eqv, PyData.eqvAll]
theorem le_line {n : Nat} (h : n ≤ 16000000) : n ≤ sizeLine := Nat.le_trans h (by decide)
theorem lt_line {n : Nat} (h : n ≤ 16000000) : n < sizeLine := Nat.lt_of_le_of_lt h (by decide)
end Ow
namespace Ow
open PySem PySem.Spec PyProof.Rows L2
/-! ### names' mathematics -/
abbrev abc : Str := Str.ofString "abcdefghijklmnopqrstuvwxyz"
theorem abc_list : abc.cps.toList = (List.range 26).map (97 + ·) := by decide +kernel
theorem abc_at {n : Int} (h0 : 0 ≤ n) (h1 : n < 26) : ∃ c : Nat, atI abc.cps.toList n = some c ∧ 97 ≤ c ∧ c ≤ 122 := by
  obtain ⟨j, rfl⟩ : ∃ j : Nat, n = (j : Int) := ⟨n.toNat, by omega⟩
  refine ⟨97 + j, atI_nat ?_, by omega, by omega⟩
  rw [abc_list, List.getElem?_map, List.getElem?_range (by omega)]
  rfl
theorem abc_len : abc.length ≤ sizeLine := by decide +kernel
/-- small letters alone, so many -/
def Lt (x : Str) (n : Nat) : Prop := x.cps.size = n ∧ ∀ c ∈ x.cps.toList, 97 ≤ c ∧ c ≤ 122
theorem lt_nil : Lt (Str.ofString "") 0 := ⟨by decide, fun c h => by
  have e : (Str.ofString "").cps.toList = [] := by decide
  rw [e] at h
  cases h⟩
theorem app_cps (x y : Str) : (x ++ y).cps.toList = x.cps.toList ++ y.cps.toList := by
  show (x.cps ++ y.cps).toList = _
  rw [Array.toList_append]
theorem Lt.app {x y : Str} {n m : Nat} (h : Lt x n) (k : Lt y m) : Lt (x ++ y) (n + m) := by
  refine ⟨?_, fun c hc => ?_⟩
  · show (x.cps ++ y.cps).size = _
    rw [Array.size_append, h.1, k.1]
  · rw [app_cps] at hc
    exact (List.mem_append.mp hc).elim (h.2 c) (k.2 c)
theorem lt_one {c : Nat} (h1 : 97 ≤ c) (h2 : c ≤ 122) : Lt ⟨#[c]⟩ 1 := ⟨rfl, fun d hd => by
  have e : d = c := by simpa using hd
  subst e
  exact ⟨h1, h2⟩⟩
theorem Lt.front {x : Str} {n : Nat} (h : Lt x n) (k : Nat) : ∃ m, m ≤ k ∧ Lt (cutS x none (some (k : Int))) m := by
  have e : (cutS x none (some (k : Int))).cps.toList = x.cps.toList.take (min k x.length) := by
    unfold cutS
    rw [HT.sIx_none, HT.sIx_nat, List.drop_zero, Nat.sub_zero]
  have z : (cutS x none (some (k : Int))).cps.size = (x.cps.toList.take (min k x.length)).length := by
    rw [← e, Array.length_toList]
  refine ⟨_, ?_, rfl, fun c hc => ?_⟩
  · rw [z, List.length_take]
    omega
  · rw [e] at hc
    exact h.2 c (List.mem_of_mem_take hc)
theorem Lt.nm {x : Str} {n : Nat} (h : Lt x n) (h0 : 0 < n) (h8 : n ≤ 8) : Nm x := ⟨by rw [h.1]; exact h0, by rw [h.1]; exact h8, h.2⟩
theorem Lt.len {x : Str} {n : Nat} (h : Lt x n) : x.length = n := h.1
end Ow

/-! Data of any kind beside a text: equal, in a tuple of texts. -/
namespace PySem.SeqAt
open AutoSeq1 (wpAny_loadPart')
open MeetsSeq
theorem str_no_dict (b : Str) (u : Tok) (l : Addr) (c : Value) (es : Array DictEntry) (n : Nat) (dd : Option Addr) (sl : Array (Option Value)) :
    Meets (Builtin.«str.__eq__» ⟨[.str b u, .ref l], []⟩) (fun _ R s => s.heap.get? l = some { cls := c, dict := dd, data := .dict es n, slots := sl } ∧ R (.ok (.ret .notImplemented)) s) :=
  .of_wp fun prog w A R s h => by
    obtain ⟨hp, g, d, tk, os⟩ := s
    obtain ⟨hl, h⟩ := h
    wp_walk using wpAny_loadPart' hl, wpAny_load hl
    exact ⟨_, rfl, h⟩
theorem dict_no_str (l : Addr) (es : Array DictEntry) (n : Nat) (dd : Option Addr) (sl : Array (Option Value)) (b : Str) (u : Tok) :
    Meets (Builtin.«dict.__eq__» ⟨[.ref l, .str b u], []⟩) (fun _ R s => s.heap.get? l = some { cls := .type "dict", dict := dd, data := .dict es n, slots := sl } ∧ R (.ok (.ret .notImplemented)) s) :=
  .of_wp fun prog w A R s h => by
    obtain ⟨hp, g, d, tk, os⟩ := s
    obtain ⟨hl, h⟩ := h
    have f1 : isSubtype (.type "str") (.type "dict") = pure false := by rw [isSubtype_type]; kernel_rfl
    wp_walk using wpAny_loadPart' hl, wpAny_load hl
    exact ⟨_, rfl, h⟩
section
variable {A : Around} {s : Shared}
theorem str_dict {l : Addr} {o : Obj} {es : Array DictEntry} {n : Nat} (b : Str) (u : Tok) (ho : s.heap.get? l = some o) (hc : o.cls = .type "dict") (hd : o.data = .dict es n) (hu : A.units < cLine) : EqAt A s (.str b u) (.ref l) false := fun prog w E Q h => by
  obtain ⟨cls, dd, data, sl⟩ := o
  simp only at hc hd
  subst hc hd
  unfold eqBool
  refine wpAny_holding ?_
  refine wpAny_ite_split (fun hab => absurd (eq_of_beq hab) nofun) (fun _ => ?_)
  refine wpAny_bind (rc_eq_decline_or (k := false) (typeIs_str s b u) ⟨_, ho, rfl⟩ (by decide) F.sub_dict_str F.slot_str_eq F.slot_dict_eq_refl ?_ ?_ ?_ (.inr hu) (wpAny_truthy_bool h))
  · exact fun _ hq => call_meets F.slot_str_eq (typeIs_str s b u) F.entry_str_eq (F.args_str_eq_2 _ _) (str_no_dict b u l (.type "dict") es n dd sl) ⟨ho, hq⟩
  · exact fun _ hq => call_meets F.slot_dict_eq_refl ⟨_, ho, rfl⟩ F.entry_dict_eq (F.args_dict_eq_2 _ _) (dict_no_str l es n dd sl b u) ⟨ho, hq⟩
  · exact fun _ hq => wpAny_of_eq (rfl : isSame (.str b u) (.ref l) = pure false) hq
end
end PySem.SeqAt
namespace Ow
open PySem PySem.Spec PyProof.Rows L2
/-- whether a text is among some, of any data -/
def memD (d : PyData) (zs : List Str) : Bool := match d with
  | .str z => decide (z ∈ zs)
  | _ => false
/-- the equality that such an item has with the data -/
def eqD (d : PyData) : Value → Bool
  | .str b _ => (match d with | .str z => decide (b = z) | _ => false)
  | _ => false
section
variable {X : Cx} {pins : List (Addr × Obj)} {σ : L2.St} {H : Hp} {s : Shared} {N : Addr → Prop}
/-- a text beside data -/
theorem eq_text (I : Inv X pins σ H s) {A : Around} (hu : A.units < cLine) {v : V} {d : PyData} (h : Da X.K N H v d) {u : Value} (r : RelV v u) (b : Str) (t : Tok) : SeqAt.EqAt A s (.str b t) u (eqD d (.str b t)) := by
  cases h with
  | non => cases r; exact .str_none b t
  | bl x => cases r; exact .str_bool b t x
  | int i =>
    obtain ⟨t2, rfl⟩ := r
    exact .str_int b t i t2
  | str x =>
    obtain ⟨t2, rfl⟩ := r
    have e := SeqAt.EqAt.str_str (A := A) (s := s) b t x t2
    have e2 : (b == x) = decide (b = x) := by
      by_cases z : b = x
      · subst z
        simp
      · rw [decide_eq_false z]
        exact beq_eq_false_iff_ne.mpr z
    rw [e2] at e
    exact e
  | lst h1 h2 h3 =>
    cases r
    obtain ⟨its, rv, ⟨o, n, ho, hc, _, hd⟩, _⟩ := I.list (SqL.of h1)
    exact .str_list b t ⟨o, ho, hc, n, hd⟩ hu
  | tup h1 h3 =>
    cases r
    obtain ⟨its, rv, ht, _⟩ := I.tuple h1
    exact .str_tuple b t ht hu
  | dct h1 h2 h3 =>
    cases r
    obtain ⟨_, hsys, vs, kv, o, es, ep, ho, hx, hd, _⟩ := I.hok _ _ h1
    exact SeqAt.str_dict b t ho hx.1 hd hu
/-- x in a tuple of texts, x not in it -/
def rInT (K : PySem.W.Frag) (neg : Bool) : R2 := fun x y H Q => ∃ (N : Addr → Prop) (t : Addr) (zs : List Str) (d : PyData), y = .ref t ∧ SqT K H t (zs.map V.str) ∧ Da K N H x d ∧ Q (.bl (if neg then !memD d zs else memD d zs)) H
theorem strs_of : ∀ {zs : List Str} {us : List Value}, Vals (zs.map V.str) us → ∀ y ∈ us, ∃ z t, z ∈ zs ∧ y = .str z t
  | [], _, r, y, h => by
    cases r
    cases h
  | z :: zs, _, r, y, h => by
    rw [List.map_cons] at r
    cases r with
    | cons r1 r2 =>
      rcases List.mem_cons.mp h with e | h
      · obtain ⟨t, q⟩ := r1
        exact ⟨z, t, List.mem_cons_self .., e.trans q⟩
      · obtain ⟨z', t, h1, h2⟩ := strs_of r2 y h
        exact ⟨z', t, List.mem_cons_of_mem _ h1, h2⟩
theorem any_strs (d : PyData) : ∀ {zs : List Str} {us : List Value}, Vals (zs.map V.str) us → us.any (eqD d) = memD d zs
  | [], _, r => by
    cases r
    cases d <;> rfl
  | z :: zs, _, r => by
    rw [List.map_cons] at r
    cases r with
    | cons r1 r2 =>
      obtain ⟨t, rfl⟩ := r1
      rw [List.any_cons, any_strs d r2]
      cases d with
      | str x =>
        show (decide (z = x) || decide (x ∈ zs)) = decide (x ∈ z :: zs)
        rw [← Bool.decide_or]
        exact decide_eq_decide.mpr ⟨fun e => e.elim (fun e => e ▸ List.mem_cons_self ..) (List.mem_cons_of_mem _), fun e => (List.mem_cons.mp e).imp Eq.symm id⟩
      | _ => rfl
theorem op_inT (hu : X.A.units + 64 < cLine) : OpR X (compareOp .In) (rInT X.K false) := by
  intro pins s σ H x y v u Q I rx ry h
  obtain ⟨p, t, zs, d, rfl, ht, hd, q⟩ := h
  cases ry
  obtain ⟨its, rv, hit, _⟩ := I.tuple ht
  refine SeqAt.in_tupleAt (eqD d) hit (fun y hy => ?_) ?_
  · obtain ⟨z, tk, _, rfl⟩ := strs_of rv y (by simpa using hy)
    exact eq_text I (A := X.A.in1) (by show X.A.units + 1 < cLine; omega) hd rx z tk
  · refine ⟨.bl _, H, I, ?_, q⟩
    show Value.bool _ = Value.bool _
    rw [← any_strs d rv]
    simp
theorem op_notInT (hu : X.A.units + 64 < cLine) : OpR X (compareOp .NotIn) (rInT X.K true) := by
  intro pins s σ H x y v u Q I rx ry h
  obtain ⟨p, t, zs, d, rfl, ht, hd, q⟩ := h
  cases ry
  obtain ⟨its, rv, hit, _⟩ := I.tuple ht
  refine SeqAt.notIn_tupleAt (eqD d) hit (fun y hy => ?_) ?_
  · obtain ⟨z, tk, _, rfl⟩ := strs_of rv y (by simpa using hy)
    exact eq_text I (A := X.A.in1) (by show X.A.units + 1 < cLine; omega) hd rx z tk
  · refine ⟨.bl _, H, I, ?_, q⟩
    show Value.bool _ = Value.bool _
    rw [← any_strs d rv]
    simp
/-! ### isinstance of data -/
def tyD : PyData → String
  | .none => "NoneType"
  | .bool _ => "bool"
  | .int _ => "int"
  | .str _ => "str"
  | .list _ => "list"
  | .tuple _ => "tuple"
  | .dict _ => "dict"
theorem Da.ty {K : PySem.W.Frag} {v : V} {d : PyData} (h : Da K N H v d) : TyX K H v (.type (tyD d)) := by
  cases h with
  | non => exact .base .non
  | bl b => exact .base (.bl b)
  | int i => exact .base (.int i)
  | str x => exact .base (.str x)
  | lst h1 _ _ => exact .base (.lst h1)
  | tup h1 _ =>
    rcases h1 with (h1 | ⟨o, h1⟩) | ⟨o, its, n, hk, hc, _⟩
    · exact .base (.tup h1)
    · exact .fTuple h1
    · exact .kTuple hk hc
  | dct h1 _ _ => exact .base (.dK h1)
/-- isinstance(x, T) of data, T one of the built-in types that laws ask for -/
def rIsD (K : PySem.W.Frag) : List V → Hp → VK → Prop := fun xs H Q => ∃ (N : Addr → Prop) (v : V) (d : PyData) (T : String), xs = [v, .ty T] ∧ Da K N H v d ∧ (T = "str" ∨ T = "tuple" ∨ T = "bool") ∧ Q (.bl (decide (tyD d = T))) H
theorem kit_all : ∀ t ∈ ["NoneType", "bool", "int", "str", "list", "tuple", "dict"], ∀ T ∈ ["str", "tuple", "bool"], kitB t T = some (decide (t = T)) := by decide +kernel
theorem kit_tyD (d : PyData) (T : String) (h : T = "str" ∨ T = "tuple" ∨ T = "bool") : kitB (tyD d) T = some (decide (tyD d = T)) := by
  refine kit_all _ ?_ _ ?_
  · cases d <;> simp [tyD]
  · simpa using h
theorem call_isD : CallR X (.builtin "isinstance") (rIsD X.K) := by
  intro pins s σ H xs us Q I r h
  obtain ⟨p, v, d, T, rfl, hd, hT, q⟩ := h
  exact call_isi pins s σ H _ us Q I r ⟨v, .ty T, _, _, _, rfl, .ty T, hd.ty, kit_ty (kit_tyD d T hT), q⟩
end
end Ow

/-! How large data is; what is a name, a kind. -/
namespace Ow
open PySem PySem.Spec PyProof.Rows L2
/-! ### sizes -/
structure FitAll (n m : Nat) (ds : List PyData) : Prop where
  sh : PyData.showableAll ds = true
  wt : wtAll ds ≤ n
  dp : PyData.depthAll ds ≤ m
section
variable {n m n' m' k : Nat} {d : PyData} {ds es : List PyData}
theorem FitAll.nil : FitAll n m [] := ⟨by rw [PyData.showableAll], by rw [wtAll]; exact Nat.zero_le _, by rw [PyData.depthAll]; exact Nat.zero_le _⟩
theorem FitAll.cons (f : Fit n m d) (g : FitAll n' m ds) : FitAll (n + 2 + n') m (d :: ds) := by
  refine ⟨?_, ?_, ?_⟩
  · rw [PyData.showableAll, f.sh, g.sh]
    rfl
  · rw [wtAll]
    have := f.wt
    have := g.wt
    omega
  · rw [PyData.depthAll]
    have := f.dp
    have := g.dp
    omega
theorem FitAll.le (f : FitAll n m ds) (h : n ≤ n') (k : m ≤ m') : FitAll n' m' ds := ⟨f.sh, Nat.le_trans f.wt h, Nat.le_trans f.dp k⟩
theorem FitAll.append : ∀ {ds : List PyData} {n : Nat}, FitAll n m ds → FitAll n' m es → FitAll (n + n') m (ds ++ es)
  | [], n, _, g => g.le (by omega) (Nat.le_refl _)
  | d :: ds, n, f, g => by
    have hs := f.sh
    rw [PyData.showableAll, Bool.and_eq_true] at hs
    have hw := f.wt
    rw [wtAll] at hw
    have hd := f.dp
    rw [PyData.depthAll] at hd
    have f1 : Fit (Ow.wt d) m d := ⟨hs.1, Nat.le_refl _, by omega⟩
    have f2 : FitAll (wtAll ds) m ds := ⟨hs.2, Nat.le_refl _, by omega⟩
    exact (FitAll.cons f1 (f2.append g)).le (by omega) (Nat.le_refl _)
theorem Fit.tup (f : FitAll n m ds) : Fit (n + 4) (m + 1) (.tuple ds) := by
  refine ⟨by rw [PyData.showable]; exact f.sh, ?_, ?_⟩
  · rw [Ow.wt]
    have := f.wt
    omega
  · rw [PyData.depth]
    have := f.dp
    omega
theorem Fit.lst (f : FitAll n m ds) : Fit (n + 4) (m + 1) (.list ds) := by
  refine ⟨by rw [PyData.showable]; exact f.sh, ?_, ?_⟩
  · rw [Ow.wt]
    have := f.wt
    omega
  · rw [PyData.depth]
    have := f.dp
    omega
theorem Fit.items (f : Fit n (m + 1) (.tuple ds)) : 4 ≤ n ∧ FitAll (n - 4) m ds := by
  have h1 := f.sh
  have h2 := f.wt
  have h3 := f.dp
  rw [PyData.showable] at h1
  rw [Ow.wt] at h2
  rw [PyData.depth] at h3
  exact ⟨by omega, h1, by omega, by omega⟩
theorem Fit.deep (f : Fit n m (.tuple ds)) : ∃ m', m = m' + 1 := by
  have h3 := f.dp
  rw [PyData.depth] at h3
  exact ⟨m - 1, by omega⟩
theorem FitAll.split (f : FitAll n m ds) (k : Nat) : ∃ a b, a + b ≤ n ∧ FitAll a m (ds.take k) ∧ FitAll b m (ds.drop k) := by
  induction k generalizing ds n with
  | zero => exact ⟨0, n, by omega, .nil, by simpa using f⟩
  | succ k ih =>
    cases ds with
    | nil => exact ⟨0, 0, by omega, .nil, .nil⟩
    | cons d ds =>
      have hs := f.sh
      rw [PyData.showableAll, Bool.and_eq_true] at hs
      have hw := f.wt
      rw [wtAll] at hw
      have hd := f.dp
      rw [PyData.depthAll] at hd
      have f1 : Fit (Ow.wt d) m d := ⟨hs.1, Nat.le_refl _, by omega⟩
      have f2 : FitAll (wtAll ds) m ds := ⟨hs.2, Nat.le_refl _, by omega⟩
      obtain ⟨a, b, hab, fa, fb⟩ := ih f2
      exact ⟨Ow.wt d + 2 + a, b, by omega, .cons f1 fa, fb⟩
theorem FitAll.get {i : Nat} (f : FitAll n m ds) (h : ds[i]? = some d) : ∃ a b c, a + b + 2 + c ≤ n ∧ FitAll a m (ds.take i) ∧ Fit b m d ∧ FitAll c m (ds.drop (i + 1)) := by
  obtain ⟨a, b, hab, fa, fb⟩ := f.split i
  obtain ⟨hi, e⟩ := List.getElem?_eq_some_iff.mp h
  have q : ds.drop i = d :: ds.drop (i + 1) := by
    rw [← e]
    exact List.drop_eq_getElem_cons hi
  rw [q] at fb
  have hs := fb.sh
  rw [PyData.showableAll, Bool.and_eq_true] at hs
  have hw := fb.wt
  rw [wtAll] at hw
  have hd := fb.dp
  rw [PyData.depthAll] at hd
  exact ⟨a, Ow.wt d, wtAll (ds.drop (i + 1)), by omega, fa, ⟨hs.1, Nat.le_refl _, by omega⟩, ⟨hs.2, Nat.le_refl _, by omega⟩⟩
theorem FitAll.rep (f : Fit n m d) : ∀ k : Nat, ∀ {ds : List PyData}, ds.length = k → (∀ e ∈ ds, Fit n m e) → FitAll (k * (n + 2)) m ds
  | 0, [], _, _ => .nil
  | k + 1, e :: ds, h, g => by
    have h2 := FitAll.rep f k (ds := ds) (by simpa using h) fun x hx => g x (List.mem_cons_of_mem _ hx)
    refine (FitAll.cons (g e (List.mem_cons_self ..)) h2).le ?_ (Nat.le_refl _)
    rw [Nat.succ_mul]
    omega
end
theorem fit_str {x : Str} {n : Nat} (hc : ∀ c ∈ x.cps.toList, c < 16 ^ 8) (hn : x.length ≤ n) : Fit (11 * n + 2) 0 (.str x) := by
  refine ⟨by rw [PyData.showable], ?_, ?_⟩
  · rw [Ow.wt]
    have := StrLaws.reprText_len x hc
    omega
  · simp only [PyData.depth]
    exact Nat.zero_le _
theorem fit_nm {x : Str} (h : Nm x) : Fit 90 0 (.str x) := (fit_str (n := 8) (fun c hc => by have := (h.2.2 c hc).2; omega) h.2.1).le (by decide) (Nat.le_refl _)
theorem fit_str_len {n m : Nat} {x : Str} (f : Fit n m (.str x)) : x.length ≤ n := by
  have h := f.wt
  rw [Ow.wt] at h
  omega
/-! ### a tuple beside the empty one -/
def rEqU (K : PySem.W.Frag) : R2 := fun x y H Q => ∃ (a b : Addr) (xs : List V), x = .ref a ∧ y = .ref b ∧ SqT K H a xs ∧ SqT K H b [] ∧ Q (.bl xs.isEmpty) H
theorem op_eqU {X : Cx} (hu : X.A.units + 64 < cLine) : OpR X (compareOp .Eq) (rEqU X.K) := by
  intro pins s σ H x y v u Q I rx ry h
  obtain ⟨a, b, xs, rfl, rfl, ha, hb, q⟩ := h
  cases rx
  cases ry
  obtain ⟨its, rv, hit, _⟩ := I.tuple ha
  obtain ⟨its2, rv2, hit2, _⟩ := I.tuple hb
  cases rv2
  refine SeqAt.eq_tupleAt (e := fun _ => true) hit hit2 (by omega) (fun j h1 h2 => ?_) ?_
  · exact absurd h2 (Nat.not_lt_zero _)
  · refine ⟨.bl _, H, I, ?_, q⟩
    show Value.bool _ = Value.bool _
    cases rv with
    | nil => rfl
    | cons _ _ => simp
/-! ### names and kinds, of any data -/
def isNameD : PyData → Bool
  | .str z => decide (1 ≤ z.length) && decide (z.length ≤ 8) && z.cps.toList.all fun c => decide (c ∈ abc.cps.toList)
  | _ => false
def isRowD (d : PyData) (a b : Int) : Bool := match d with
  | .tuple ds => decide (a ≤ ds.length) && decide ((ds.length : Int) ≤ b)
  | _ => false
abbrev signs2 : List Str := [Str.ofString ">", Str.ofString "*"]
/-- a kind of at most so many within one another -/
def kindW : Nat → PyData → Bool
  | 0, _ => false
  | n + 1, d => match d with
    | .str z => isNameD (.str z)
    | .tuple [s, a, b] => decide (n ≠ 0) && memD s signs2 && kindW n a && kindW n b
    | _ => false
/-- whether no function stands in a kind -/
def shownW : Nat → PyData → Bool
  | 0, _ => true
  | n + 1, d => match d with
    | .tuple [s, a, b] => !(memD s [Str.ofString ">"]) && shownW n a && shownW n b
    | _ => true
end Ow
namespace Ow
open PySem PySem.Spec PyProof.Rows L2
section
variable {K : PySem.W.Frag} {N : Addr → Prop} {H H' : Hp}
theorem sqT_same {a : Addr} {xs : List V} (k : Same H H') (h : SqT K H a xs) : SqT K H' a xs := by
  rcases h with (h | ⟨o, h⟩) | h
  · exact .inl (.inl (k _ _ h))
  · exact .inl (.inr ⟨o, k _ _ h⟩)
  · exact .inr h
mutual
theorem Da.same (k : Same H H') : ∀ {v : V} {d : PyData}, Da K N H v d → Da K N H' v d
  | _, _, .non => .non
  | _, _, .bl b => .bl b
  | _, _, .int i => .int i
  | _, _, .str x => .str x
  | _, _, .lst h ne r => .lst (k _ _ h) ne (DaAll.same k r)
  | _, _, .tup h r => .tup (sqT_same k h) (DaAll.same k r)
  | _, _, .dct h ne r => .dct (k _ _ h) ne (DaAll.same k r)
theorem DaAll.same (k : Same H H') : ∀ {vs : List V} {ds : List PyData}, DaAll K N H vs ds → DaAll K N H' vs ds
  | _, _, .nil => .nil
  | _, _, .cons a r => .cons (Da.same k a) (DaAll.same k r)
end
theorem Da.tupInv {v : V} {ds : List PyData} (h : Da K N H v (.tuple ds)) : ∃ a xs, v = .ref a ∧ SqT K H a xs ∧ DaAll K N H xs ds := by
  cases h with
  | tup h r => exact ⟨_, _, rfl, h, r⟩
theorem Da.strInv {v : V} {x : Str} (h : Da K N H v (.str x)) : v = .str x := by
  cases h
  rfl
theorem Da.tup3 {v : V} {s a b : PyData} (h : Da K N H v (.tuple [s, a, b])) : ∃ t x y z, v = .ref t ∧ SqT K H t [x, y, z] ∧ Da K N H x s ∧ Da K N H y a ∧ Da K N H z b := by
  obtain ⟨t, xs, rfl, h1, h2⟩ := h.tupInv
  cases h2 with
  | cons g1 h2 =>
    cases h2 with
    | cons g2 h2 =>
      cases h2 with
      | cons g3 h2 =>
        cases h2
        exact ⟨_, _, _, _, rfl, h1, g1, g2, g3⟩
end
theorem ty_str {d : PyData} (h : tyD d = "str") : ∃ x, d = .str x := by
  cases d <;> simp [tyD] at h ⊢
theorem ty_tup {d : PyData} (h : tyD d = "tuple") : ∃ ds, d = .tuple ds := by
  cases d <;> simp [tyD] at h ⊢
theorem row3 {d : PyData} (h : isRowD d 3 3 = true) : ∃ s a b, d = .tuple [s, a, b] := by
  cases d with
  | tuple ds =>
    simp only [isRowD, Bool.and_eq_true, decide_eq_true_eq] at h
    match ds, h with
    | [s, a, b], _ => exact ⟨s, a, b, rfl⟩
    | [], h => simp at h
    | [_], h => simp at h
    | [_, _], h => simp at h
    | _ :: _ :: _ :: _ :: _, h =>
      simp only [List.length_cons] at h
      omega
  | _ => simp [isRowD] at h
theorem kind_str (n : Nat) (x : Str) : kindW (n + 1) (.str x) = isNameD (.str x) := rfl
theorem kind_tup (n : Nat) (s a b : PyData) : kindW (n + 1) (.tuple [s, a, b]) = (decide (n ≠ 0) && memD s signs2 && kindW n a && kindW n b) := rfl
theorem kind_no {n : Nat} {d : PyData} (h : tyD d ≠ "str") (h2 : n = 0 ∨ isRowD d 3 3 = false) : kindW (n + 1) d = false := by
  cases d with
  | str x => exact absurd rfl h
  | tuple ds =>
    match ds with
    | [s, a, b] =>
      rw [kind_tup]
      rcases h2 with h2 | h2
      · rw [h2]
        rfl
      · simp [isRowD] at h2
    | [] => rfl
    | [_] => rfl
    | [_, _] => rfl
    | _ :: _ :: _ :: _ :: _ => rfl
  | _ => rfl
theorem fit3 {n m : Nat} {s a b : PyData} (f : Fit n m (.tuple [s, a, b])) : Fit n m s ∧ Fit n m a ∧ Fit n m b := by
  obtain ⟨m', rfl⟩ := f.deep
  obtain ⟨h4, g⟩ := f.items
  obtain ⟨_, _, _, _, _, g0, _⟩ := g.get (i := 0) rfl
  obtain ⟨_, _, _, _, _, g1, _⟩ := g.get (i := 1) rfl
  obtain ⟨_, _, _, _, _, g2, _⟩ := g.get (i := 2) rfl
  exact ⟨g0.le (by omega) (by omega), g1.le (by omega) (by omega), g2.le (by omega) (by omega)⟩
/-! ### what the program's and the law's own looks promise -/
def spIsRow (K : PySem.W.Frag) : Sp := fun vs H Q _ => ∃ (N : Addr → Prop) (v : V) (d : PyData) (a b : Int), vs = [v, .int a, .int b] ∧ Da K N H v d ∧ Q (.bl (isRowD d a b)) H
def spIsName (K : PySem.W.Frag) : Sp := fun vs H Q _ => ∃ (N : Addr → Prop) (v : V) (d : PyData) (n m : Nat), vs = [v] ∧ Da K N H v d ∧ Fit n m d ∧ n ≤ 16000000 ∧ ∀ H', Same H H' → Q (.bl (isNameD d)) H'
def spKindW (K : PySem.W.Frag) (k : Nat) : Sp := fun vs H Q _ => ∃ (N : Addr → Prop) (v : V) (d : PyData) (n m : Nat) (z : Int), vs = [v, .int z] ∧ z = (k : Int) ∧ 1 ≤ k ∧ Da K N H v d ∧ Fit n m d ∧ n ≤ 16000000 ∧ ∀ H', Same H H' → Q (.bl (kindW k d)) H'
def spKind (K : PySem.W.Frag) : Sp := fun vs H Q _ => ∃ (N : Addr → Prop) (v : V) (d : PyData) (n m : Nat), vs = [v] ∧ Da K N H v d ∧ Fit n m d ∧ n ≤ 16000000 ∧ ∀ H', Same H H' → Q (.bl (kindW 6 d)) H'
def spShown (K : PySem.W.Frag) (neg : Bool) (k : Nat) : Sp := fun vs H Q _ => ∃ (N : Addr → Prop) (v : V) (d : PyData), vs = [v] ∧ Da K N H v d ∧ kindW k d = true ∧ Q (.bl (if neg then !shownW k d else shownW k d)) H
end Ow

/-! Comprehensions whose element is plain. -/
namespace Ow
open PySem PySem.Spec PyProof.Rows L2
/-- what a comprehension over J asks: the new list at D -/
def LcG (J : It) (g : TG) (tt : TT) (te : TE) (vs : List Nat) (σ : L2.St) (H1 : Hp) (D : Addr) (Qd : Hp → Prop) : Prop :=
  ∃ W : Nat → Nat → Hp → Prop, (∃ m, W 0 m (upd H1 D (.lst []))) ∧
    ∀ i m H, W i m H → (J.stop i H ∧ Qd H) ∨ (J.go i H ∧ ∃ Nx : Hp → Prop, (∀ H', Nx H' → ∃ m', m' < m ∧ W (i + 1) m' H') ∧
      ∀ x H', J.yld i H x H' → g x (wipe σ vs) H' fun σ2 H2 => wipe σ2 vs = wipe σ vs ∧
        tt σ2 H2 fun b H3 => if b = true then te σ2 H3 fun y H4 => ∃ acc, H4 D = some (.lst acc) ∧ acc.length < sizeLine ∧ Nx (upd H4 D (.lst (acc ++ [y]))) else Nx H3)
section
variable {j : Nat} {te : TE} {vs : List Nat} {σ : L2.St} {H1 : Hp} {D : Addr} {Qd : Hp → Prop}
/-- over a text: each sign's value is f of its code -/
theorem lc_str_map {x : Str} (f : Nat → V) (hx : x.cps.size < sizeLine) (hw : ∀ v, wipe ((wipe σ vs).set j (some v)) vs = wipe σ vs)
    (hv : ∀ c ∈ x.cps.toList, ∀ (H2 : Hp) (Q : VK), Q (f c) H2 → te ((wipe σ vs).set j (some (.str ⟨#[c]⟩))) H2 Q)
    (hd : Qd (upd H1 D (.lst (x.cps.toList.map f)))) : LcG (Its x) (gName j) tYes te vs σ H1 D Qd := by
  refine ⟨fun i m H => m = x.cps.size - i ∧ i ≤ x.cps.size ∧ H = upd H1 D (.lst ((x.cps.toList.take i).map f)), ⟨_, rfl, Nat.zero_le _, rfl⟩, ?_⟩
  rintro i m H ⟨rfl, hi, rfl⟩
  by_cases hl : i < x.cps.size
  · refine .inr ⟨hl, fun H => H = upd H1 D (.lst ((x.cps.toList.take (i + 1)).map f)), fun H' e => ⟨x.cps.size - (i + 1), by omega, rfl, hl, e⟩, fun y H' z => ?_⟩
    obtain ⟨rfl, c, hc, rfl⟩ := z
    have hc2 : x.cps.toList[i]? = some c := by
      rw [Array.getElem?_toList]
      exact hc
    refine ⟨hw _, ?_⟩
    simp only [tYes, if_true]
    refine hv c (List.mem_of_getElem? hc2) _ _ ⟨_, upd_same, ?_, ?_⟩
    · rw [List.length_map, List.length_take]
      omega
    · rw [upd_upd, List.take_add_one, hc2, List.map_append]
      rfl
  · have e : i = x.cps.size := by omega
    subst e
    refine .inl ⟨Nat.le_refl _, ?_⟩
    rw [List.take_of_length_le (by simp)]
    exact hd
/-- over a list or a tuple that stays: each item's value is f of it -/
theorem lc_seq_map {K : PySem.W.Frag} {J : It} {xs : List V} (hJ : ∀ i H, (i < xs.length → Same H1 H → J.go i H) ∧ (xs.length ≤ i → Same H1 H → J.stop i H)) (hy : ∀ i H x H', Same H1 H → J.yld i H x H' → H' = H ∧ xs[i]? = some x)
    (hD : H1 D = none) (f : V → V) (hx : xs.length < sizeLine) (hw : ∀ v, wipe ((wipe σ vs).set j (some v)) vs = wipe σ vs)
    (hv : ∀ x ∈ xs, ∀ (H2 : Hp) (Q : VK), Same H1 H2 → Q (f x) H2 → te ((wipe σ vs).set j (some x)) H2 Q)
    (hd : Qd (upd H1 D (.lst (xs.map f)))) : LcG J (gName j) tYes te vs σ H1 D Qd := by
  refine ⟨fun i m H => m = xs.length - i ∧ i ≤ xs.length ∧ H = upd H1 D (.lst ((xs.take i).map f)), ⟨_, rfl, Nat.zero_le _, rfl⟩, ?_⟩
  rintro i m H ⟨rfl, hi, rfl⟩
  have sm : ∀ l, Same H1 (upd H1 D (.lst l)) := fun l => same_new hD
  by_cases hl : i < xs.length
  · refine .inr ⟨(hJ i _).1 hl (sm _), fun H => H = upd H1 D (.lst ((xs.take (i + 1)).map f)), fun H' e => ⟨xs.length - (i + 1), by omega, rfl, hl, e⟩, fun y H' z => ?_⟩
    obtain ⟨rfl, hc⟩ := hy i _ y H' (sm _) z
    refine ⟨hw _, ?_⟩
    simp only [tYes, if_true]
    refine hv y (List.mem_of_getElem? hc) _ _ (sm _) ⟨_, upd_same, ?_, ?_⟩
    · rw [List.length_map, List.length_take]
      omega
    · rw [upd_upd, List.take_add_one, hc, List.map_append]
      rfl
  · have e : i = xs.length := by omega
    subst e
    refine .inl ⟨(hJ _ _).2 (Nat.le_refl _) (sm _), ?_⟩
    rw [List.take_of_length_le (Nat.le_refl _)]
    exact hd
end
end Ow
namespace Ow
open PySem PySem.Spec PyProof.Rows L2
theorem kind_cases {n : Nat} {d : PyData} (h : kindW n d = true) : (∃ x, d = .str x) ∨ ∃ (m : Nat) (sg : Str) (a b : PyData), n = m + 1 ∧ d = .tuple [.str sg, a, b] ∧ sg ∈ signs2 ∧ kindW m a = true ∧ kindW m b = true := by
  cases n with
  | zero => cases h
  | succ n =>
    by_cases ht : tyD d = "str"
    · exact .inl (ty_str ht)
    · cases hr : isRowD d 3 3 with
      | false =>
        rw [kind_no ht (.inr hr)] at h
        cases h
      | true =>
        obtain ⟨s, a, b, rfl⟩ := row3 hr
        rw [kind_tup] at h
        simp only [Bool.and_eq_true] at h
        obtain ⟨⟨⟨_, h2⟩, h3⟩, h4⟩ := h
        cases s with
        | str sg => exact .inr ⟨n, sg, a, b, rfl, rfl, of_decide_eq_true h2, h3, h4⟩
        | _ => cases h2
theorem shown_str (n : Nat) (x : Str) : shownW n (.str x) = true := by cases n <;> rfl
theorem shown_tup (n : Nat) (s a b : PyData) : shownW (n + 1) (.tuple [s, a, b]) = (!(memD s [Str.ofString ">"]) && shownW n a && shownW n b) := rfl
theorem mem_one (sg z : Str) : memD (.str sg) [z] = decide (sg = z) := by
  show decide (sg ∈ [z]) = _
  simp
end Ow
namespace Ow
open PySem PySem.Spec PyProof.Rows L2
/-! ### what the drawing defs promise -/
def bAny : Nat → Nat
  | 0 => 60
  | n + 1 => 5 * (bAny n + 2) + 20
theorem bAny_ge : ∀ n : Nat, 60 ≤ bAny n
  | 0 => Nat.le_refl _
  | n + 1 => by
    have := bAny_ge n
    show 60 ≤ 5 * (bAny n + 2) + 20
    omega
def spAny (K : PySem.W.Frag) (k : Nat) : Sp := fun vs H Q _ => ∃ (p c : Addr) (z : Int), vs = [.ref p, .int z] ∧ z = (k : Int) ∧ k ≤ 4 ∧ Pen H p c ∧
  ∀ (v : V) (d : PyData) (H' : Hp), Da K (Tk H) H' v d → Fit (bAny k) (2 * k) d → Pen H' p c → Kp p H H' → Q v H'
abbrev anyList : List V := [.int 0, .bl true, .non, .str "", .str "x", .str "^", .str "Ab", .str "x1", .int (-(10 ^ (39 : Int).toNat)), .str "abcdefghi"]
theorem fit_of {d : PyData} (h : (d.showable && decide (wt d ≤ 60) && decide (d.depth ≤ 0)) = true) : Fit 60 0 d := by
  simp only [Bool.and_eq_true, decide_eq_true_eq] at h
  exact ⟨h.1.1, h.1.2, h.2⟩
theorem any_at {n : Int} (h0 : 0 ≤ n) (h1 : n < 10) : ∃ (v : V) (d : PyData), atI anyList n = some v ∧ (∀ K N H, Da K N H v d) ∧ Fit 60 0 d := by
  have : n = 0 ∨ n = 1 ∨ n = 2 ∨ n = 3 ∨ n = 4 ∨ n = 5 ∨ n = 6 ∨ n = 7 ∨ n = 8 ∨ n = 9 := by omega
  rcases this with rfl | rfl | rfl | rfl | rfl | rfl | rfl | rfl | rfl | rfl
  · exact ⟨_, _, rfl, fun _ _ _ => .int _, fit_of (by decide +kernel)⟩
  · exact ⟨_, _, rfl, fun _ _ _ => .bl _, fit_of (by decide +kernel)⟩
  · exact ⟨_, _, rfl, fun _ _ _ => .non, fit_of (by decide +kernel)⟩
  · exact ⟨_, _, rfl, fun _ _ _ => .str _, fit_of (by decide +kernel)⟩
  · exact ⟨_, _, rfl, fun _ _ _ => .str _, fit_of (by decide +kernel)⟩
  · exact ⟨_, _, rfl, fun _ _ _ => .str _, fit_of (by decide +kernel)⟩
  · exact ⟨_, _, rfl, fun _ _ _ => .str _, fit_of (by decide +kernel)⟩
  · exact ⟨_, _, rfl, fun _ _ _ => .str _, fit_of (by decide +kernel)⟩
  · exact ⟨_, _, rfl, fun _ _ _ => .int _, fit_of (by decide +kernel)⟩
  · exact ⟨_, _, rfl, fun _ _ _ => .str _, fit_of (by decide +kernel)⟩
section
variable {K : PySem.W.Frag} {N : Addr → Prop} {H H' : Hp}
theorem Da.put {D : Addr} {o o' : HO} {v : V} {d : PyData} (h : Da K N H v d) (hD : H D = some o) (ht : ∀ xs, o ≠ .tup xs) (hf : ∀ ob u, o ≠ .frz ob u) (hN : N D) : Da K N (upd H D o') v d :=
  h.kp (p := D) Kp.self (fun xs r => by
    rcases r with r | ⟨ob, r⟩
    · rw [hD] at r
      exact ht _ (Option.some.inj r)
    · rw [hD] at r
      exact hf _ _ (Option.some.inj r)) hN
theorem DaAll.put {D : Addr} {o o' : HO} {vs : List V} {ds : List PyData} (h : DaAll K N H vs ds) (hD : H D = some o) (ht : ∀ xs, o ≠ .tup xs) (hf : ∀ ob u, o ≠ .frz ob u) (hN : N D) : DaAll K N (upd H D o') vs ds :=
  h.kp (p := D) Kp.self (fun xs r => by
    rcases r with r | ⟨ob, r⟩
    · rw [hD] at r
      exact ht _ (Option.some.inj r)
    · rw [hD] at r
      exact hf _ _ (Option.some.inj r)) hN
end
theorem Pen.keepTk {H H0 : Hp} {p c D : Addr} {o : HO} (h : Pen H p c) (h0 : Pen H0 p c) (hD : H0 D = none) : Pen (upd H D o) p c := h.keep (h0.neP hD) (h0.neC hD)
end Ow
namespace Ow
open PySem PySem.Spec PyProof.Rows L2
/-- data without lists and dicts avoids all -/
abbrev All : Addr → Prop := fun _ => True
def bKind : Nat → Nat
  | 0 => 90
  | n + 1 => 2 * (bKind n + 2) + 12
def spRough (K : PySem.W.Frag) (k : Nat) : Sp := fun vs H Q _ => ∃ (p c : Addr) (z : Int), vs = [.ref p, .int z] ∧ z = (k : Int) ∧ k ≤ 6 ∧ Pen H p c ∧
  ∀ (v : V) (d : PyData) (H' : Hp), Da K All H' v d → Fit (bKind k) k d → Pen H' p c → Kp p H H' → Q v H'
theorem bKind_ge : ∀ n : Nat, 90 ≤ bKind n
  | 0 => Nat.le_refl _
  | n + 1 => by
    have := bKind_ge n
    show 90 ≤ 2 * (bKind n + 2) + 12
    omega
theorem fit_sign {x : Str} (h : wt (.str x) ≤ 4) : Fit 4 0 (.str x) := ⟨by rw [PyData.showable], h, by simp only [PyData.depth]; exact Nat.zero_le _⟩
abbrev signs3 : List V := [.str ">", .str "*"]
theorem sign_at {n : Int} (h0 : 0 ≤ n) (h1 : n < 2) : ∃ x : Str, atI signs3 n = some (.str x) ∧ Fit 4 0 (.str x) ∧ x ∈ signs2 := by
  have : n = 0 ∨ n = 1 := by omega
  rcases this with rfl | rfl
  · exact ⟨_, rfl, fit_sign (by decide +kernel), by simp⟩
  · exact ⟨_, rfl, fit_sign (by decide +kernel), by simp⟩
end Ow
namespace Ow
open PySem PySem.Spec PyProof.Rows L2
def spSpoil (K : PySem.W.Frag) (k : Nat) : Sp := fun vs H Q _ => ∃ (p c : Addr) (v : V) (d : PyData) (z : Int) (n m : Nat), vs = [.ref p, v, .int z] ∧ z = (k : Int) ∧ k ≤ 8 ∧ Pen H p c ∧ Da K All H v d ∧ Fit n m d ∧ n ≤ 4000000 ∧
  ∀ (v' : V) (d' : PyData) (H' : Hp), Da K (Tk H) H' v' d' → Fit (2 * n + 1800) (m + 8) d' → Pen H' p c → Kp p H H' → Q v' H'
section
variable {K : PySem.W.Frag} {H : Hp} {Q : VK} {a b : Addr} {xs ys : List V}
theorem cat_any (ha : SqT K H a xs) (hb : SqT K H b ys) (hl : xs.length + ys.length ≤ sizeLine) (k : ∀ t H', Same H H' → SqT K H' t (xs ++ ys) → Q (.ref t) H') : rCatA K (.ref a) (.ref b) H Q := by
  refine ⟨a, b, xs, ys, rfl, rfl, ha, hb, hl, fun e => ?_, fun _ e => ?_, fun _ _ p hp => ?_⟩
  · exact k b H (Same.refl H) (by rw [e, List.nil_append]; exact hb)
  · exact k a H (Same.refl H) (by rw [e, List.append_nil]; exact ha)
  · exact k p _ (same_new hp) (SqT.of upd_same)
theorem cut_any {lo hi : Option Int} (ha : SqT K H a xs) (k : ∀ t H', Same H H' → SqT K H' t (cutV xs lo hi) → Q (.ref t) H') : rSlA K (.ref a) lo hi H Q := by
  refine ⟨a, xs, rfl, ha, fun e => ?_, fun _ p hp => ?_⟩
  · refine k a H (Same.refl H) ?_
    have z : cutV xs lo hi = xs := by
      unfold cutV
      rw [e.1, e.2]
      simp
    rw [z]
    exact ha
  · exact k p _ (same_new hp) (SqT.of upd_same)
theorem cut_take (xs : List V) (k : Nat) : cutV xs none (some (k : Int)) = xs.take k := by
  unfold cutV
  rw [HT.sIx_none, HT.sIx_nat, List.drop_zero, Nat.sub_zero]
  by_cases h : k ≤ xs.length
  · rw [Nat.min_eq_left h]
  · rw [Nat.min_eq_right (by omega), List.take_of_length_le (Nat.le_refl _), List.take_of_length_le (by omega)]
theorem cut_drop (xs : List V) (k : Nat) : cutV xs (some (k : Int)) none = xs.drop k := by
  unfold cutV
  rw [HT.sIx_none, HT.sIx_nat]
  by_cases h : k ≤ xs.length
  · rw [Nat.min_eq_left h, List.take_of_length_le (by rw [List.length_drop]; exact Nat.le_refl _)]
  · rw [Nat.min_eq_right (by omega), Nat.sub_self, List.take_zero, List.drop_eq_nil_of_le (by omega)]
end
end Ow
namespace Ow
open PySem PySem.Spec PyProof.Rows L2
theorem len_wt : ∀ ds : List PyData, ds.length ≤ wtAll ds
  | [] => Nat.zero_le _
  | d :: ds => by
    have := len_wt ds
    rw [wtAll, List.length_cons]
    omega
theorem Kp.same {p : Addr} {H H1 H2 : Hp} (a : Kp p H H1) (s : Same H1 H2) : Kp p H H2 := a.trans (Kp.of s)
end Ow
namespace Ow
open PySem PySem.Spec PyProof.Rows L2
def spChain (K : PySem.W.Frag) : Sp := fun vs H Q _ => ∃ (p c : Addr) (z : Int), vs = [.ref p, .int z] ∧ 1 ≤ z ∧ z ≤ 7 ∧ Pen H p c ∧
  ∀ (v : V) (d : PyData) (H' : Hp), Da K All H' v d → Fit 2000 10 d → Pen H' p c → Kp p H H' → Q v H'
/-- the script is handed in, True comes out -/
def spLaw (K : PySem.W.Frag) : Sp := fun vs H Q _ => ∃ (a : Addr) (ns : List Int), vs = [.ref a] ∧ SqL K H a (ns.map V.int) ∧ ns.length ≤ 63 ∧ ∀ H', Q (.bl true) H'
abbrev signs4 : List V := [.str ">", .str "*", .str "*"]
theorem sign_at3 {n : Int} (h0 : 0 ≤ n) (h1 : n < 3) : ∃ x : Str, atI signs4 n = some (.str x) ∧ Fit 4 0 (.str x) := by
  have : n = 0 ∨ n = 1 ∨ n = 2 := by omega
  rcases this with rfl | rfl | rfl
  · exact ⟨_, rfl, fit_sign (by decide +kernel)⟩
  · exact ⟨_, rfl, fit_sign (by decide +kernel)⟩
  · exact ⟨_, rfl, fit_sign (by decide +kernel)⟩
abbrev tails7 : List V := [.str "", .str "a", .str "A", .str "_", .str " ", .str "1", .str "7"]
/-- a short text of small codes -/
def Sm (x : Str) (n : Nat) : Prop := x.length ≤ n ∧ ∀ c ∈ x.cps.toList, c < 16 ^ 8
theorem sm_of {x : Str} {n : Nat} (h : (decide (x.length ≤ n) && x.cps.toList.all fun c => decide (c < 16 ^ 8)) = true) : Sm x n := by
  simp only [Bool.and_eq_true, decide_eq_true_eq, List.all_eq_true] at h
  exact h
theorem tail_at {n : Int} (h0 : 0 ≤ n) (h1 : n < 7) : ∃ x : Str, atI tails7 n = some (.str x) ∧ Sm x 1 := by
  have : n = 0 ∨ n = 1 ∨ n = 2 ∨ n = 3 ∨ n = 4 ∨ n = 5 ∨ n = 6 := by omega
  rcases this with rfl | rfl | rfl | rfl | rfl | rfl | rfl <;> exact ⟨_, rfl, sm_of (by decide +kernel)⟩
theorem Nm.sm {x : Str} (h : Nm x) : Sm x 8 := ⟨h.2.1, fun c hc => by have := (h.2.2 c hc).2; omega⟩
theorem Sm.app {x y : Str} {n m : Nat} (h : Sm x n) (k : Sm y m) : Sm (x ++ y) (n + m) := by
  refine ⟨?_, fun c hc => ?_⟩
  · have := h.1
    have := k.1
    rw [strLen_append]
    omega
  · rw [app_cps] at hc
    exact (List.mem_append.mp hc).elim (h.2 c) (k.2 c)
theorem Sm.fit {x : Str} {n : Nat} (h : Sm x n) : Fit (11 * n + 2) 0 (.str x) := fit_str h.2 h.1
end Ow
namespace Ow
open PySem PySem.Spec PyProof.Rows L2
/-- two truths beside one another -/
def spTruth : Sp := fun vs H Q _ => ∃ a b : Bool, vs = [.bl a, .bl b] ∧ Q (.bl (decide (a = b))) H
theorem room_un {n k : Nat} (h : n + 16 * k + 200 < cLine) : n + 151 < cLine := by omega
end Ow
namespace Ow
open PySem PySem.Spec PyProof.Rows L2
section
variable {K : PySem.W.Frag} {mg : Str → Option Value} {h : Heap} {x : Str} {st : Stmt} {ps : List Str} {f : Addr} {od an : Option Addr} {sl : Array (Option Value)} {oc kV dc pm cd ct : Value}
theorem defAt_mk (X : K.In h) (G : h.Ns mainGlobals mg) (a : PySem.W.nsIn K mainGlobals x = some (some (.ref f)))
    (l : K.lookup f = some ⟨oc, od, .func (PySem.W.fnOf x x (defArgs st) (defBody st) (defScope st) .none kV dc pm an cd ct), sl⟩) (c : PySem.W.codeIn K cd x = true) (k : PySem.W.keepIn K (.ref f) = true)
    (hb : ∀ (kV doc pm : Value) (an : Option Addr) (cdv ct : Value) (us : List Value), us.length = ps.length → bindArgs (PySem.W.fnOf x x (defArgs st) (defBody st) (defScope st) .none kV doc pm an cdv ct) ⟨us, []⟩ = pure (ps.zip us)) : DefAt K mg x st ps :=
  ⟨f, _, fun_mk l c k, PySem.W.mg_of X G a, (fun_mk (st := st) l c k).binds hb⟩
theorem lawAt_mk {fa : Addr} {y : Str} (X : K.In h) (G : h.Ns mainGlobals mg) (hmg : mg x = some (.ref fa)) (a : PySem.W.nsIn K mainGlobals x = some (some (.ref f)))
    (l : K.lookup f = some ⟨oc, od, .func (PySem.W.fnOf x x (defArgs st) (defBody st) (defScope st) .none kV dc pm an cd ct), sl⟩) (c : PySem.W.codeIn K cd x = true) (k : PySem.W.keepIn K (.ref f) = true)
    (hb : ∀ (s : Shared) (u : Value), BindsTo s (PySem.W.fnOf x x (defArgs st) (defBody st) (defScope st) .none kV dc pm an cd ct) ⟨[u], []⟩ [(y, u)]) :
    ∃ fd, Fun K x x st fa fd ∧ ∀ (s : Shared) (u : Value), BindsTo s fd ⟨[u], []⟩ [(y, u)] := by
  have e := hmg.symm.trans (PySem.W.mg_of X G a)
  injection e with e
  injection e with e
  subst e
  exact ⟨_, fun_mk l c k, hb⟩
theorem gv_mk {v : V} {u : Value} (X : K.In h) (G : h.Ns mainGlobals mg) (a : PySem.W.nsIn K mainGlobals x = some (some u)) (r : RelV v u) : GV mg x v := ⟨u, PySem.W.mg_of X G a, r⟩
end
end Ow

/-! Drawn terms: their shape, their size. -/
namespace Ow
open PySem PySem.Spec PyProof.Rows L2
abbrev strD (x : Str) : PyData := .str x
/-- the shape of a term, by how many are within one another at most -/
inductive Tm : Nat → PyData → Prop
  | name (n : Nat) (x : Str) : Tm (n + 1) (.str x)
  | at (n : Nat) (f : Str) : Tm (n + 1) (.tuple [.str (Str.ofString "@"), .str f])
  | lam {n : Nat} (x : Str) (k : PyData) {t : PyData} : Tm n t → Tm (n + 1) (.tuple [.str (Str.ofString "^"), .str x, k, t])
  | two {n : Nat} (s : Str) {t u : PyData} : s ∈ [Str.ofString "!", Str.ofString "&", Str.ofString "-"] → Tm n t → Tm n u → Tm (n + 1) (.tuple [.str s, t, u])
  | five {n : Nat} (s x y : Str) {t u : PyData} : s ∈ [Str.ofString "/", Str.ofString "+"] → Tm n t → Tm n u → Tm (n + 1) (.tuple [.str s, t, .str x, .str y, u])
  | mk {n : Nat} (c : Str) (ts : List PyData) : (∀ t ∈ ts, Tm n t) → Tm (n + 1) (.tuple [.str (Str.ofString "#"), .str c, .tuple ts])
  | ch {n : Nat} {t : PyData} (cs : List (Str × List Str × PyData)) : Tm n t → (∀ c ∈ cs, Tm n c.2.2) →
      Tm (n + 1) (.tuple [.str (Str.ofString "?"), t, .tuple (cs.map fun c => .tuple [.str c.1, .tuple (c.2.1.map strD), c.2.2])])
theorem Tm.up : ∀ {n : Nat} {d : PyData}, Tm n d → ∀ {m : Nat}, n ≤ m → Tm m d
  | _, _, .name n x, m, h => by
    obtain ⟨m, rfl⟩ : ∃ k, m = k + 1 := ⟨m - 1, by omega⟩
    exact .name m x
  | _, _, .at n x, m, h => by
    obtain ⟨m, rfl⟩ : ∃ k, m = k + 1 := ⟨m - 1, by omega⟩
    exact .at m x
  | _, _, .lam x k t, m, h => by
    obtain ⟨m, rfl⟩ : ∃ k, m = k + 1 := ⟨m - 1, by omega⟩
    exact .lam x k (t.up (by omega))
  | _, _, .two s hs t u, m, h => by
    obtain ⟨m, rfl⟩ : ∃ k, m = k + 1 := ⟨m - 1, by omega⟩
    exact .two s hs (t.up (by omega)) (u.up (by omega))
  | _, _, .five s x y hs t u, m, h => by
    obtain ⟨m, rfl⟩ : ∃ k, m = k + 1 := ⟨m - 1, by omega⟩
    exact .five s x y hs (t.up (by omega)) (u.up (by omega))
  | _, _, .mk c ts ht, m, h => by
    obtain ⟨m, rfl⟩ : ∃ k, m = k + 1 := ⟨m - 1, by omega⟩
    exact .mk c ts fun t z => (ht t z).up (by omega)
  | _, _, .ch cs t hc, m, h => by
    obtain ⟨m, rfl⟩ : ∃ k, m = k + 1 := ⟨m - 1, by omega⟩
    exact .ch cs (t.up (by omega)) fun c z => (hc c z).up (by omega)
def bT : Nat → Nat
  | 0 => 110
  | n + 1 => 4 * bT n + 1700
theorem bT_ge : ∀ n : Nat, 110 ≤ bT n
  | 0 => Nat.le_refl _
  | n + 1 => by
    have := bT_ge n
    show 110 ≤ 4 * bT n + 1700
    omega
def spFew : Sp := fun vs H Q _ => ∃ (p c : Addr), vs = [.ref p] ∧ Pen H p c ∧ ∀ (x : Str) (H' : Hp), Nm x → Pen H' p c → Kp p H H' → Q (.str x) H'
def spRow (K : PySem.W.Frag) : Sp := fun vs H Q _ => ∃ (p c : Addr) (z : Int), vs = [.ref p, .int z] ∧ 0 ≤ z ∧ z ≤ 4 ∧ Pen H p c ∧
  ∀ (t : Addr) (xs : List Str) (H' : Hp), SqT K H' t (xs.map V.str) → (xs.length : Int) = z → (∀ x ∈ xs, Nm x) → Pen H' p c → Kp p H H' → Q (.ref t) H'
def spRoughT (K : PySem.W.Frag) (k : Nat) : Sp := fun vs H Q _ => ∃ (p c : Addr) (z : Int), vs = [.ref p, .int z] ∧ z ≤ (k : Int) ∧ k ≤ 6 ∧ Pen H p c ∧
  ∀ (v : V) (d : PyData) (H' : Hp), Da K All H' v d → Fit (bT k) (3 * k + 2) d → Tm (k + 1) d → Pen H' p c → Kp p H H' → Q v H'
abbrev few3 : List Str := [Str.ofString "x", Str.ofString "y", Str.ofString "xy"]
theorem nm_of {x : Str} (h : (decide (0 < x.cps.size) && decide (x.cps.size ≤ 8) && x.cps.toList.all fun c => decide (97 ≤ c) && decide (c ≤ 122)) = true) : Nm x := by
  simp only [Bool.and_eq_true, decide_eq_true_eq, List.all_eq_true] at h
  exact ⟨h.1.1, h.1.2, h.2⟩
theorem nm_few : ∀ x ∈ few3, Nm x := by
  intro x h
  simp only [List.mem_cons, List.not_mem_nil, or_false] at h
  rcases h with rfl | rfl | rfl
  · exact nm_of (by decide +kernel)
  · exact nm_of (by decide +kernel)
  · exact nm_of (by decide +kernel)
theorem few_at {y : Str} (hy : Nm y) {n : Int} (h0 : 0 ≤ n) (h1 : n < 4) : ∃ x : Str, atI [V.str "x", .str "y", .str "xy", .str y] n = some (.str x) ∧ Nm x := by
  have : n = 0 ∨ n = 1 ∨ n = 2 ∨ n = 3 := by omega
  rcases this with rfl | rfl | rfl | rfl
  · exact ⟨_, rfl, nm_few _ (by simp)⟩
  · exact ⟨_, rfl, nm_few _ (by simp)⟩
  · exact ⟨_, rfl, nm_few _ (by simp)⟩
  · exact ⟨_, rfl, hy⟩
theorem fit_names : ∀ {xs : List Str}, (∀ x ∈ xs, Nm x) → FitAll (92 * xs.length) 0 (xs.map strD)
  | [], _ => .nil
  | x :: xs, h => by
    have g := fit_names (xs := xs) fun y hy => h y (List.mem_cons_of_mem _ hy)
    refine (FitAll.cons (fit_nm (h x (List.mem_cons_self ..))) g).le ?_ (Nat.le_refl _)
    rw [List.length_cons]
    omega
theorem da_names {K : PySem.W.Frag} {N : Addr → Prop} {H : Hp} : ∀ xs : List Str, DaAll K N H (xs.map V.str) (xs.map strD)
  | [] => .nil
  | x :: xs => .cons (.str x) (da_names xs)
abbrev tri : List V := [.str "!", .str "&", .str "-"]
theorem tri_at {n : Int} (h0 : 0 ≤ n) (h1 : n < 3) : ∃ x : Str, atI tri n = some (.str x) ∧ Fit 4 0 (.str x) ∧ x ∈ [Str.ofString "!", Str.ofString "&", Str.ofString "-"] := by
  have : n = 0 ∨ n = 1 ∨ n = 2 := by omega
  rcases this with rfl | rfl | rfl
  · exact ⟨_, rfl, fit_sign (by decide +kernel), by simp⟩
  · exact ⟨_, rfl, fit_sign (by decide +kernel), by simp⟩
  · exact ⟨_, rfl, fit_sign (by decide +kernel), by simp⟩
abbrev duo : List V := [.str "/", .str "+"]
theorem duo_at {n : Int} (h0 : 0 ≤ n) (h1 : n < 2) : ∃ x : Str, atI duo n = some (.str x) ∧ Fit 4 0 (.str x) ∧ x ∈ [Str.ofString "/", Str.ofString "+"] := by
  have : n = 0 ∨ n = 1 := by omega
  rcases this with rfl | rfl
  · exact ⟨_, rfl, fit_sign (by decide +kernel), by simp⟩
  · exact ⟨_, rfl, fit_sign (by decide +kernel), by simp⟩
end Ow

/-! What stands within a term, in the order of its text. -/
namespace Ow
open PySem PySem.Spec PyProof.Rows L2
abbrev sg (x : String) : Str := Str.ofString x
def nmD : PyData → Str
  | .str x => x
  | _ => sg ""
def itD : PyData → List PyData
  | .tuple ds => ds
  | _ => []
def caseD : PyData → List Str × PyData
  | .tuple [_, ns, u] => ((itD ns).map nmD, u)
  | c => ([], c)
def kids : PyData → List (List Str × PyData)
  | .tuple [.str s, a, b] => if s = sg "#" then (itD b).map (fun t => ([], t)) else if s = sg "?" then ([], a) :: (itD b).map caseD else [([], a), ([], b)]
  | .tuple [.str _, x, _, t] => [([nmD x], t)]
  | .tuple [.str _, t, x, y, u] => [([], t), ([nmD x, nmD y], u)]
  | _ => []
theorem nm_map (xs : List Str) : (xs.map strD).map nmD = xs := by
  induction xs with
  | nil => rfl
  | cons x xs ih =>
    show x :: (xs.map strD).map nmD = _
    rw [ih]
theorem kids_str (x : Str) : kids (.str x) = [] := rfl
theorem kids_at (s : Str) (f : PyData) : kids (.tuple [.str s, f]) = [] := rfl
theorem kids_lam (s x : Str) (k t : PyData) : kids (.tuple [.str s, .str x, k, t]) = [([x], t)] := rfl
theorem kids_five (s x y : Str) (t u : PyData) : kids (.tuple [.str s, t, .str x, .str y, u]) = [([], t), ([x, y], u)] := rfl
theorem kids_three (s : Str) (a b : PyData) : kids (.tuple [.str s, a, b]) = if s = sg "#" then (itD b).map (fun t => ([], t)) else if s = sg "?" then ([], a) :: (itD b).map caseD else [([], a), ([], b)] := rfl
theorem kids_mk (c : PyData) (ts : List PyData) : kids (.tuple [.str (sg "#"), c, .tuple ts]) = ts.map (fun t => ([], t)) := by
  rw [kids_three, if_pos rfl]
  rfl
theorem kids_ch (t : PyData) (cs : List (Str × List Str × PyData)) : kids (.tuple [.str (sg "?"), t, .tuple (cs.map fun c => .tuple [.str c.1, .tuple (c.2.1.map strD), c.2.2])]) = ([], t) :: cs.map (·.2) := by
  rw [kids_three, if_neg (by decide +kernel), if_pos rfl]
  show _ :: (cs.map _).map caseD = _
  rw [List.map_map]
  congr 1
  refine List.map_congr_left fun c _ => ?_
  show ((c.2.1.map strD).map nmD, c.2.2) = c.2
  rw [nm_map]
theorem kids_two {s : Str} (t u : PyData) (h : s ∈ [sg "!", sg "&", sg "-"]) : kids (.tuple [.str s, t, u]) = [([], t), ([], u)] := by
  rw [kids_three]
  simp only [List.mem_cons, List.not_mem_nil, or_false] at h
  rcases h with rfl | rfl | rfl
  all_goals rw [if_neg (by decide +kernel), if_neg (by decide +kernel)]
theorem kids_tm : ∀ {n : Nat} {d : PyData}, Tm (n + 1) d → ∀ k ∈ kids d, Tm n k.2
  | _, _, .name n x, k, h => by cases h
  | _, _, .at n x, k, h => by cases h
  | _, _, .lam x kk t, k, h => by
    rw [kids_lam] at h
    rw [List.mem_singleton.mp h]
    exact t
  | _, _, .two s hs t u, k, h => by
    rw [kids_two _ _ hs] at h
    simp only [List.mem_cons, List.not_mem_nil, or_false] at h
    rcases h with rfl | rfl
    · exact t
    · exact u
  | _, _, .five s x y hs t u, k, h => by
    rw [kids_five] at h
    simp only [List.mem_cons, List.not_mem_nil, or_false] at h
    rcases h with rfl | rfl
    · exact t
    · exact u
  | _, _, .mk c ts ht, k, h => by
    rw [kids_mk] at h
    obtain ⟨t, ht', rfl⟩ := List.mem_map.mp h
    exact ht t ht'
  | _, _, .ch cs t hc, k, h => by
    rw [kids_ch] at h
    rcases List.mem_cons.mp h with rfl | h
    · exact t
    · obtain ⟨c, hc', rfl⟩ := List.mem_map.mp h
      exact hc c hc'
theorem FitAll.unc {n m : Nat} {d : PyData} {ds : List PyData} (f : FitAll n m (d :: ds)) : ∃ a b, a + 2 + b ≤ n ∧ Fit a m d ∧ FitAll b m ds := by
  obtain ⟨a, b, c, h, _, f2, f3⟩ := f.get (i := 0) rfl
  exact ⟨b, c, by omega, f2, f3⟩
theorem FitAll.fmap (f : PyData → PyData) : ∀ {ds : List PyData} {n m : Nat}, (∀ d ∈ ds, ∀ {n m : Nat}, Fit n m d → Fit n m (f d)) → FitAll n m ds → FitAll n m (ds.map f)
  | [], n, m, _, h => h
  | d :: ds, n, m, g, h => by
    obtain ⟨a, b, l, f1, f2⟩ := h.unc
    exact (FitAll.cons (g d (List.mem_cons_self ..) f1) (FitAll.fmap f (fun e he => g e (List.mem_cons_of_mem _ he)) f2)).le l (Nat.le_refl _)
theorem Fit.two {n m : Nat} {s t u : PyData} (f : Fit n m (.tuple [s, t, u])) : FitAll n m [t, u] ∧ Fit n m u ∧ Fit n m t := by
  obtain ⟨m', rfl⟩ := f.deep
  obtain ⟨h4, fa⟩ := f.items
  obtain ⟨a, b, l, f1, f2⟩ := fa.unc
  obtain ⟨a2, b2, l2, f3, f4⟩ := f2.unc
  obtain ⟨a3, b3, l3, f5, f6⟩ := f4.unc
  exact ⟨f2.le (by omega) (by omega), f5.le (by omega) (by omega), f3.le (by omega) (by omega)⟩
theorem Fit.inner {n m : Nat} {ts : List PyData} (f : Fit n m (.tuple ts)) : FitAll n m ts := by
  obtain ⟨m', rfl⟩ := f.deep
  obtain ⟨h4, fa⟩ := f.items
  exact fa.le (by omega) (by omega)
theorem kids_fit : ∀ {n w m : Nat} {d : PyData}, Tm n d → Fit w m d → FitAll w m ((kids d).map (·.2))
  | _, w, m, _, .name n x, f => FitAll.nil.le (Nat.zero_le _) (Nat.le_refl _)
  | _, w, m, _, .at n x, f => FitAll.nil.le (Nat.zero_le _) (Nat.le_refl _)
  | _, w, m, _, .lam x kk t, f => by
    rw [kids_lam]
    obtain ⟨a, b, l, f1, f2⟩ := f.inner.unc
    obtain ⟨a2, b2, l2, f3, f4⟩ := f2.unc
    obtain ⟨a3, b3, l3, f5, f6⟩ := f4.unc
    exact f6.le (by omega) (Nat.le_refl _)
  | _, w, m, _, .two s hs t u, f => by
    rw [kids_two _ _ hs]
    exact f.two.1
  | _, w, m, _, .five s x y hs t u, f => by
    rw [kids_five]
    obtain ⟨a, b, l, f1, f2⟩ := f.inner.unc
    obtain ⟨a2, b2, l2, f3, f4⟩ := f2.unc
    obtain ⟨a3, b3, l3, f5, f6⟩ := f4.unc
    obtain ⟨a4, b4, l4, f7, f8⟩ := f6.unc
    exact (FitAll.cons f3 f8).le (by omega) (Nat.le_refl _)
  | _, w, m, _, .mk c ts ht, f => by
    rw [kids_mk, List.map_map]
    have := f.two.2.1.inner
    rwa [show ts.map ((fun x : List Str × PyData => x.2) ∘ fun t => ([], t)) = ts from List.map_id _]
  | _, w, m, _, .ch cs t hc, f => by
    rw [kids_ch]
    obtain ⟨a, b, l, f1, f2⟩ := f.inner.unc
    obtain ⟨a2, b2, l2, f3, f4⟩ := f2.unc
    obtain ⟨a3, b3, l3, f5, f6⟩ := f4.unc
    have g := f5.inner
    have g2 := FitAll.fmap (fun c => (caseD c).2) (fun d hd => by
      obtain ⟨c, _, rfl⟩ := List.mem_map.mp hd
      intro n m q
      exact q.two.2.1) g
    rw [List.map_map] at g2
    show FitAll w m (_ :: (cs.map (·.2)).map (·.2))
    rw [List.map_map]
    exact (FitAll.cons f3 g2).le (by omega) (Nat.le_refl _)
theorem len_wt2 : ∀ {n m : Nat} {ds : List PyData}, FitAll n m ds → 2 * ds.length ≤ n
  | n, m, [], _ => Nat.zero_le _
  | n, m, d :: ds, f => by
    obtain ⟨a, b, l, f1, f2⟩ := f.unc
    have := len_wt2 f2
    rw [List.length_cons]
    omega
theorem kids_len {n w m : Nat} {d : PyData} (t : Tm n d) (f : Fit w m d) : 2 * (kids d).length ≤ w := by
  have := len_wt2 (kids_fit t f)
  rwa [List.length_map] at this
theorem FitAll.mem {n m : Nat} {ds : List PyData} (f : FitAll n m ds) {d : PyData} (h : d ∈ ds) : Fit n m d := by
  obtain ⟨i, hi⟩ := List.getElem?_of_mem h
  obtain ⟨a, b, c, l, _, f2, _⟩ := f.get hi
  exact f2.le (by omega) (Nat.le_refl _)
theorem kids_names : ∀ {n w m : Nat} {d : PyData}, Tm n d → Fit w m d → 4 ≤ w → ∀ k ∈ kids d, k.1.length ≤ w
  | _, w, m, _, .name n x, f, _, k, h => by cases h
  | _, w, m, _, .at n x, f, _, k, h => by cases h
  | _, w, m, _, .lam x kk t, f, hw, k, h => by
    rw [kids_lam] at h
    rw [List.mem_singleton.mp h]
    show 1 ≤ w
    omega
  | _, w, m, _, .two s hs t u, f, _, k, h => by
    rw [kids_two _ _ hs] at h
    simp only [List.mem_cons, List.not_mem_nil, or_false] at h
    rcases h with rfl | rfl
    · exact Nat.zero_le _
    · exact Nat.zero_le _
  | _, w, m, _, .five s x y hs t u, f, hw, k, h => by
    rw [kids_five] at h
    simp only [List.mem_cons, List.not_mem_nil, or_false] at h
    rcases h with rfl | rfl
    · exact Nat.zero_le _
    · show 2 ≤ w
      omega
  | _, w, m, _, .mk c ts ht, f, _, k, h => by
    rw [kids_mk] at h
    obtain ⟨t, ht', rfl⟩ := List.mem_map.mp h
    exact Nat.zero_le _
  | _, w, m, _, .ch cs t hc, f, _, k, h => by
    rw [kids_ch] at h
    rcases List.mem_cons.mp h with rfl | h
    · exact Nat.zero_le _
    · obtain ⟨c, hc', rfl⟩ := List.mem_map.mp h
      have g := f.two.2.1.inner.mem (List.mem_map.mpr ⟨c, hc', rfl⟩)
      have := len_wt2 g.two.2.2.inner
      rw [List.length_map] at this
      omega
/-- each part, in the order of the text -/
def pre : Nat → PyData → List PyData
  | 0, _ => []
  | n + 1, d => d :: (kids d).flatMap fun k => pre n k.2
/-- each part with the names that are given around it -/
def walkD : Nat → PyData → List Str → List (PyData × List Str)
  | 0, _, _ => []
  | n + 1, d, g => (d, g) :: (kids d).flatMap fun k => walkD n k.2 (g ++ k.1)
theorem map_flat {A B C : Type} (f : A → List B) (g : B → C) : ∀ xs : List A, (xs.flatMap f).map g = xs.flatMap fun x => (f x).map g
  | [] => rfl
  | x :: xs => by
    rw [List.flatMap_cons, List.flatMap_cons, List.map_append, map_flat f g xs]
theorem flat_eq {A B : Type} {f g : A → List B} : ∀ {xs : List A}, (∀ x ∈ xs, f x = g x) → xs.flatMap f = xs.flatMap g
  | [], _ => rfl
  | x :: xs, h => by
    rw [List.flatMap_cons, List.flatMap_cons, h x (List.mem_cons_self ..), flat_eq fun y hy => h y (List.mem_cons_of_mem _ hy)]
theorem walk_pre : ∀ (n : Nat) (d : PyData) (g : List Str), (walkD n d g).map (·.1) = pre n d
  | 0, _, _ => rfl
  | n + 1, d, g => by
    show d :: ((kids d).flatMap fun k => walkD n k.2 (g ++ k.1)).map (·.1) = d :: _
    rw [map_flat]
    congr 1
    exact flat_eq fun k _ => walk_pre n k.2 _
theorem walk_up : ∀ {m : Nat} {d : PyData} {g : List Str}, Tm m d → ∀ {n : Nat}, m ≤ n → walkD n d g = walkD m d g
  | 0, d, g, t, n, h => by cases t
  | m + 1, d, g, t, n, h => by
    obtain ⟨n, rfl⟩ : ∃ k, n = k + 1 := ⟨n - 1, by omega⟩
    show (d, g) :: _ = (d, g) :: _
    congr 1
    exact flat_eq fun k hk => walk_up (kids_tm t k hk) (by omega)
theorem pre_up {m n : Nat} {d : PyData} (t : Tm m d) (h : m ≤ n) : pre n d = pre m d := by
  rw [← walk_pre n d [], ← walk_pre m d [], walk_up t h]
theorem pre_fit : ∀ {n w m : Nat} {d : PyData}, Tm n d → Fit w m d → FitAll (n * (w + 2)) m (pre n d)
  | 0, w, m, d, t, f => by cases t
  | n + 1, w, m, d, t, f => by
    have step : ∀ (ks : List (List Str × PyData)) (b : Nat), (∀ k ∈ ks, Tm n k.2) → FitAll b m (ks.map (·.2)) → FitAll (n * b) m (ks.flatMap fun k => pre n k.2) := by
      intro ks
      induction ks with
      | nil => exact fun b _ h => FitAll.nil.le (Nat.zero_le _) (Nat.le_refl _)
      | cons k ks ih =>
        intro b ht h
        obtain ⟨x, y, l, f1, f2⟩ := FitAll.unc h
        rw [List.flatMap_cons]
        refine ((pre_fit (ht k (List.mem_cons_self ..)) f1).append (ih y (fun e he => ht e (List.mem_cons_of_mem _ he)) f2)).le ?_ (Nat.le_refl _)
        rw [← Nat.mul_add]
        exact Nat.mul_le_mul_left _ l
    refine (FitAll.cons f (step (kids d) w (kids_tm t) (kids_fit t f))).le ?_ (Nat.le_refl _)
    rw [Nat.succ_mul]
    have : n * w ≤ n * (w + 2) := Nat.mul_le_mul_left _ (by omega)
    omega
theorem pre_len {n w m : Nat} {d : PyData} (t : Tm n d) (f : Fit w m d) : 2 * (pre n d).length ≤ n * (w + 2) := len_wt2 (pre_fit t f)
/-- each but the first of its like is left out -/
def dd (acc : List Str) : List Str → List Str
  | [] => acc
  | x :: xs => dd (if x ∈ acc then acc else acc ++ [x]) xs
/-- a name that is not given -/
def outs : List (PyData × List Str) → List Str
  | [] => []
  | (.str x, g) :: ws => if x ∈ g then outs ws else x :: outs ws
  | _ :: ws => outs ws
theorem dd_app (xs ys : List Str) : ∀ acc, dd acc (xs ++ ys) = dd (dd acc xs) ys := by
  induction xs with
  | nil => exact fun _ => rfl
  | cons x xs ih => exact fun acc => ih _
theorem outs_app (ws zs : List (PyData × List Str)) : outs (ws ++ zs) = outs ws ++ outs zs := by
  induction ws with
  | nil => rfl
  | cons q ws ih =>
    obtain ⟨d, g⟩ := q
    cases d with
    | str x =>
      show (if x ∈ g then outs (ws ++ zs) else x :: outs (ws ++ zs)) = (if x ∈ g then outs ws else x :: outs ws) ++ outs zs
      by_cases h : x ∈ g
      · rw [if_pos h, if_pos h, ih]
      · rw [if_neg h, if_neg h, ih]
        rfl
    | _ => exact ih
theorem outs_len (ws : List (PyData × List Str)) : (outs ws).length ≤ ws.length := by
  induction ws with
  | nil => exact Nat.le_refl _
  | cons q ws ih =>
    obtain ⟨d, g⟩ := q
    rw [List.length_cons]
    cases d with
    | str x =>
      show (if x ∈ g then outs ws else x :: outs ws).length ≤ _
      by_cases h : x ∈ g
      · rw [if_pos h]
        omega
      · rw [if_neg h, List.length_cons]
        omega
    | _ => exact Nat.le_trans ih (by omega)
theorem dd_len (xs : List Str) : ∀ acc, (dd acc xs).length ≤ acc.length + xs.length := by
  induction xs with
  | nil => exact fun _ => Nat.le_refl _
  | cons x xs ih =>
    intro acc
    refine Nat.le_trans (ih _) ?_
    rw [List.length_cons]
    by_cases h : x ∈ acc
    · rw [if_pos h]
      omega
    · rw [if_neg h, List.length_append]
      show acc.length + 1 + _ ≤ _
      omega
/-! tuples that stay -/
def Ts (K : PySem.W.Frag) (H H' : Hp) : Prop := ∀ a xs, SqT K H a xs → SqT K H' a xs
section
variable {K : PySem.W.Frag} {H H1 H2 H' : Hp}
theorem Ts.trans (a : Ts K H H1) (b : Ts K H1 H2) : Ts K H H2 := fun c xs h => b c xs (a c xs h)
theorem Ts.of (s : Same H H') : Ts K H H' := fun c xs h => sqT_same s h
theorem Ts.refl : Ts K H H := fun c xs h => h
theorem Ts.kp {p : Addr} (k : Kp p H H') (n : NoTup H p) : Ts K H H' := fun c xs h => sqT_kp k n h
theorem Ts.put {p : Addr} {xs : List V} {o : HO} (h : H p = some (.lst xs)) : Ts K H (upd H p o) := Ts.kp Kp.self fun ys r => by
  rcases r with r | ⟨ob, r⟩
  · rw [h] at r
    cases r
  · rw [h] at r
    cases r
mutual
theorem Da.ts (k : Ts K H H') : ∀ {v : V} {d : PyData}, Da K All H v d → Da K All H' v d
  | _, _, .non => .non
  | _, _, .bl b => .bl b
  | _, _, .int i => .int i
  | _, _, .str x => .str x
  | _, _, .lst e n r => absurd trivial n
  | _, _, .tup h r => .tup (k _ _ h) (r.ts k)
  | _, _, .dct e n r => absurd trivial n
theorem DaAll.ts (k : Ts K H H') : ∀ {vs : List V} {ds : List PyData}, DaAll K All H vs ds → DaAll K All H' vs ds
  | _, _, .nil => .nil
  | _, _, .cons h r => .cons (h.ts k) (r.ts k)
end
end
theorem DaAll.snoc {K : PySem.W.Frag} {N : Addr → Prop} {H : Hp} {ds : List PyData} {d : PyData} : ∀ {vs : List V}, DaAll K N H vs (ds ++ [d]) → ∃ us v, vs = us ++ [v] ∧ DaAll K N H us ds ∧ Da K N H v d := by
  induction ds with
  | nil =>
    intro vs h
    cases h with
    | cons a b =>
      cases b
      exact ⟨[], _, rfl, .nil, a⟩
  | cons e ds ih =>
    intro vs h
    cases h with
    | cons a b =>
      obtain ⟨us, v, rfl, h1, h2⟩ := ih b
      exact ⟨_ :: us, v, rfl, .cons a h1, h2⟩
theorem DaAll.rev {K : PySem.W.Frag} {N : Addr → Prop} {H : Hp} : ∀ {vs : List V} {ds : List PyData}, DaAll K N H vs ds → DaAll K N H vs.reverse ds.reverse
  | _, _, .nil => .nil
  | _, _, .cons a b => by
    rw [List.reverse_cons, List.reverse_cons]
    exact b.rev.append (.cons a .nil)
theorem DaAll.at {K : PySem.W.Frag} {N : Addr → Prop} {H : Hp} {vs : List V} {ds : List PyData} (h : DaAll K N H vs ds) {i : Nat} {d : PyData} (e : ds[i]? = some d) : ∃ v, vs[i]? = some v ∧ Da K N H v d := by
  have hl := h.length
  obtain ⟨hi, _⟩ := List.getElem?_eq_some_iff.mp e
  have hv : vs[i]? = some vs[i] := List.getElem?_eq_getElem (by omega)
  obtain ⟨d', e', hd⟩ := h.get hv
  rw [e] at e'
  cases e'
  exact ⟨_, hv, hd⟩
def kdA (k : List Str × PyData) : PyData := .tuple [.tuple (k.1.map strD), k.2]
def kdB (k : List Str × PyData) : PyData := .tuple [k.2, .tuple (k.1.map strD)]
def spKids (K : PySem.W.Frag) (f : List Str × PyData → PyData) : Sp := fun vs H Q _ => ∃ (v : V) (d : PyData) (n w m : Nat), vs = [v] ∧ Da K All H v d ∧ Tm n d ∧ Fit w m d ∧ w ≤ 16000000 ∧
  ∀ (L : Addr) (us : List V) (H' : Hp), Same H H' → H L = none → H' L = some (.lst us) → DaAll K All H' us ((kids d).map f) → Q (.ref L) H'
def spParts (K : PySem.W.Frag) : Sp := fun vs H Q _ => ∃ (v : V) (d : PyData) (n w m : Nat), vs = [v] ∧ Da K All H v d ∧ Tm n d ∧ Fit w m d ∧ n * (w + 2) ≤ 16000000 ∧
  ∀ (L : Addr) (us : List V) (H' : Hp), Same H H' → H L = none → H' L = some (.lst us) → DaAll K All H' us (pre n d) → Q (.ref L) H'
def spUses (K : PySem.W.Frag) : Sp := fun vs H Q _ => ∃ (v : V) (d : PyData) (n w m : Nat), vs = [v] ∧ Da K All H v d ∧ Tm n d ∧ Fit w m d ∧ 4 ≤ w ∧ n * (w + 2) ≤ 16000000 ∧
  ∀ (L : Addr) (H' : Hp), Same H H' → H L = none → H' L = some (.lst ((dd [] (outs (walkD n d []))).map V.str)) → Q (.ref L) H'
def spFirst : Sp := fun vs H Q _ => ∃ (a : Addr) (xs : List Str), vs = [.ref a] ∧ H a = some (.lst (xs.map V.str)) ∧ xs.length ≤ 16000000 ∧
  ∀ (L : Addr) (H' : Hp), Same H H' → H L = none → H' L = some (.lst ((dd [] xs).map V.str)) → Q (.ref L) H'
/-- a row of a part with a list of the names given around it -/
def Wk (K : PySem.W.Frag) (H : Hp) (u : V) (q : PyData × List Str) : Prop := ∃ (t : Addr) (v : V) (h : Addr), u = .ref t ∧ SqT K H t [v, .ref h] ∧ Da K All H v q.1 ∧ H h = some (.lst (q.2.map V.str))
theorem Wk.same {K : PySem.W.Frag} {H H' : Hp} {u : V} {q : PyData × List Str} (s : Same H H') (h : Wk K H u q) : Wk K H' u q := by
  obtain ⟨t, v, a, rfl, h1, h2, h3⟩ := h
  exact ⟨t, v, a, rfl, sqT_same s h1, h2.same s, s _ _ h3⟩
inductive WkAll (K : PySem.W.Frag) (H : Hp) : List V → List (PyData × List Str) → Prop
  | nil : WkAll K H [] []
  | cons {u : V} {us : List V} {q : PyData × List Str} {qs : List (PyData × List Str)} : Wk K H u q → WkAll K H us qs → WkAll K H (u :: us) (q :: qs)
theorem WkAll.same {K : PySem.W.Frag} {H H' : Hp} (s : Same H H') : ∀ {us : List V} {qs : List (PyData × List Str)}, WkAll K H us qs → WkAll K H' us qs
  | _, _, .nil => .nil
  | _, _, .cons a b => .cons (a.same s) (b.same s)
theorem WkAll.append {K : PySem.W.Frag} {H : Hp} : ∀ {us vs : List V} {qs rs : List (PyData × List Str)}, WkAll K H us qs → WkAll K H vs rs → WkAll K H (us ++ vs) (qs ++ rs)
  | _, _, _, _, .nil, h => h
  | _, _, _, _, .cons a b, h => .cons a (b.append h)
theorem WkAll.length {K : PySem.W.Frag} {H : Hp} : ∀ {us : List V} {qs : List (PyData × List Str)}, WkAll K H us qs → us.length = qs.length
  | _, _, .nil => rfl
  | _, _, .cons a b => by rw [List.length_cons, List.length_cons, b.length]
theorem WkAll.get {K : PySem.W.Frag} {H : Hp} : ∀ {us : List V} {qs : List (PyData × List Str)}, WkAll K H us qs → ∀ {i : Nat} {u : V}, us[i]? = some u → ∃ q, qs[i]? = some q ∧ Wk K H u q
  | _, _, .nil, i, u, e => by cases e
  | _, _, .cons a b, 0, u, e => by
    cases e
    exact ⟨_, rfl, a⟩
  | _, _, .cons a b, i + 1, u, e => b.get (i := i) e
def spWalk (K : PySem.W.Frag) (n : Nat) : Sp := fun vs H Q _ => ∃ (v : V) (d : PyData) (h : Addr) (g : List Str) (w m : Nat), vs = [v, .ref h] ∧ Da K All H v d ∧ Tm n d ∧ Fit w m d ∧ 4 ≤ w ∧ H h = some (.lst (g.map V.str)) ∧ n * (w + 2) ≤ 16000000 ∧ g.length + n * w ≤ 16000000 ∧
  ∀ (L : Addr) (us : List V) (H' : Hp), Same H H' → H L = none → H' L = some (.lst us) → WkAll K H' us (walkD n d g) → Q (.ref L) H'
section
variable {K : PySem.W.Frag} {N : Addr → Prop} {H H' : Hp}
theorem DaAll.unc {vs : List V} {d : PyData} {ds : List PyData} (h : DaAll K N H vs (d :: ds)) : ∃ v us, vs = v :: us ∧ Da K N H v d ∧ DaAll K N H us ds := by
  cases h with
  | cons a b => exact ⟨_, _, rfl, a, b⟩
theorem DaAll.un0 {vs : List V} (h : DaAll K N H vs []) : vs = [] := by
  cases h
  rfl
theorem Da.tup2 {v : V} {a b : PyData} (h : Da K N H v (.tuple [a, b])) : ∃ t x y, v = .ref t ∧ SqT K H t [x, y] ∧ Da K N H x a ∧ Da K N H y b := by
  obtain ⟨t, xs, rfl, hT, hA⟩ := h.tupInv
  obtain ⟨x, us, rfl, hx, hA⟩ := hA.unc
  obtain ⟨y, us, rfl, hy, hA⟩ := hA.unc
  obtain rfl := hA.un0
  exact ⟨t, x, y, rfl, hT, hx, hy⟩
theorem Da.tup4 {v : V} {a b c d : PyData} (h : Da K N H v (.tuple [a, b, c, d])) : ∃ t x y z w, v = .ref t ∧ SqT K H t [x, y, z, w] ∧ Da K N H x a ∧ Da K N H y b ∧ Da K N H z c ∧ Da K N H w d := by
  obtain ⟨t, xs, rfl, hT, hA⟩ := h.tupInv
  obtain ⟨x, us, rfl, hx, hA⟩ := hA.unc
  obtain ⟨y, us, rfl, hy, hA⟩ := hA.unc
  obtain ⟨z, us, rfl, hz, hA⟩ := hA.unc
  obtain ⟨w, us, rfl, hw, hA⟩ := hA.unc
  obtain rfl := hA.un0
  exact ⟨t, x, y, z, w, rfl, hT, hx, hy, hz, hw⟩
theorem Da.tup5 {v : V} {a b c d e : PyData} (h : Da K N H v (.tuple [a, b, c, d, e])) : ∃ t x y z w u, v = .ref t ∧ SqT K H t [x, y, z, w, u] ∧ Da K N H x a ∧ Da K N H y b ∧ Da K N H z c ∧ Da K N H w d ∧ Da K N H u e := by
  obtain ⟨t, xs, rfl, hT, hA⟩ := h.tupInv
  obtain ⟨x, us, rfl, hx, hA⟩ := hA.unc
  obtain ⟨y, us, rfl, hy, hA⟩ := hA.unc
  obtain ⟨z, us, rfl, hz, hA⟩ := hA.unc
  obtain ⟨w, us, rfl, hw, hA⟩ := hA.unc
  obtain ⟨u, us, rfl, hu, hA⟩ := hA.unc
  obtain rfl := hA.un0
  exact ⟨t, x, y, z, w, u, rfl, hT, hx, hy, hz, hw, hu⟩
theorem da_strs : ∀ {vs : List V} {xs : List Str}, DaAll K N H vs (xs.map strD) → vs = xs.map V.str
  | vs, [], h => h.un0
  | vs, x :: xs, h => by
    obtain ⟨v, us, rfl, hv, hA⟩ := DaAll.unc h
    rw [hv.strInv, da_strs hA]
    rfl
theorem Da.names {v : V} {xs : List Str} (h : Da K N H v (.tuple (xs.map strD))) : ∃ t, v = .ref t ∧ SqT K H t (xs.map V.str) := by
  obtain ⟨t, vs, rfl, hT, hA⟩ := h.tupInv
  rw [da_strs hA] at hT
  exact ⟨t, rfl, hT⟩
theorem row_a {t n : Addr} {v : V} {d : PyData} {xs : List Str} (h : SqT K H t [.ref n, v]) (h1 : SqT K H n (xs.map V.str)) (h2 : Da K All H v d) : Da K All H (.ref t) (kdA (xs, d)) :=
  .tup h (.cons (.tup h1 (da_names xs)) (.cons h2 .nil))
theorem row_b {t n : Addr} {v : V} {d : PyData} {xs : List Str} (h : SqT K H t [v, .ref n]) (h1 : SqT K H n (xs.map V.str)) (h2 : Da K All H v d) : Da K All H (.ref t) (kdB (xs, d)) :=
  .tup h (.cons h2 (.cons (.tup h1 (da_names xs)) .nil))
theorem acc_da {D : Addr} {us : List V} {ds : List PyData} {y : V} {d : PyData} (e : H D = some (.lst us)) (h : DaAll K All H us ds) (g : Da K All H y d) : DaAll K All (upd H D (.lst (us ++ [y]))) (us ++ [y]) (ds ++ [d]) :=
  (h.append (.cons g .nil)).ts (Ts.put e)
theorem in_strs (s : Str) (xs : List Str) : inV (.str s) (xs.map V.str) = decide (s ∈ xs) := by
  induction xs with
  | nil => rfl
  | cons x xs ih =>
    show ((x == s) || inV (.str s) (xs.map V.str)) = _
    rw [ih]
    by_cases h : x = s
    · subst h
      simp
    · rw [show (x == s) = false from beq_eq_false_iff_ne.mpr h, Bool.false_or]
      have : ¬ s = x := fun e => h e.symm
      simp [this]
theorem flat_strs (xs : List Str) : (xs.map V.str).all flatV = true := by simp [flatV]
end
theorem iteSF {A B : Prop} {a b : Str} (h : a ≠ b) (hb : B) : if decide (V.str a = V.str b) = true then A else B := by
  rw [decide_eq_false (fun e => h (by injection e))]
  exact iteF hb
theorem iteST {A B : Prop} {a b : Str} (h : a = b) (ha : A) : if decide (V.str a = V.str b) = true then A else B := by
  rw [decide_eq_true (congrArg V.str h)]
  exact iteT ha
theorem iteInF {A B : Prop} {x : Str} {xs : List Str} (h : x ∉ xs) (hb : B) : if (if false = true then !inV (.str x) (xs.map V.str) else inV (.str x) (xs.map V.str)) = true then A else B := by
  rw [if_neg Bool.false_ne_true, in_strs, decide_eq_false h]
  exact iteF hb
theorem iteInT {A B : Prop} {x : Str} {xs : List Str} (h : x ∈ xs) (ha : A) : if (if false = true then !inV (.str x) (xs.map V.str) else inV (.str x) (xs.map V.str)) = true then A else B := by
  rw [if_neg Bool.false_ne_true, in_strs, decide_eq_true h]
  exact iteT ha
abbrev m2 : List Str := [Str.ofString "/", Str.ofString "+"]
abbrev m3 : List Str := [Str.ofString "!", Str.ofString "&", Str.ofString "-"]
theorem ne_mem {s z : Str} {l : List Str} (h : s ∈ l) (g : z ∉ l) : s ≠ z := fun e => g (e ▸ h)
theorem none_same {H H' : Hp} {L : Addr} (s : Same H H') (h : H' L = none) : H L = none := by
  cases e : H L with
  | none => rfl
  | some o => exact absurd (s _ _ e) (by rw [h]; nofun)
theorem ix_tupK {X : Cx} {K : PySem.W.Frag} (h : X.K = K) : IxR X (rIxT K) := h ▸ ix_tup
theorem ix_listK {X : Cx} {K : PySem.W.Frag} (h : X.K = K) : IxR X (rIxL K) := h ▸ ix_list
theorem notIn_seqK {X : Cx} {K : PySem.W.Frag} (h : X.K = K) : OpR X (compareOp .NotIn) (rIn K true) := h ▸ op_notIn_seq
theorem isDK {X : Cx} {K : PySem.W.Frag} (h : X.K = K) : CallR X (.builtin "isinstance") (rIsD K) := h ▸ call_isD
theorem tm_pos {n : Nat} {d : PyData} (t : Tm n d) : ∃ m, n = m + 1 := by
  cases n with
  | zero => cases t
  | succ m => exact ⟨m, rfl⟩
theorem kids_tmn {n : Nat} {d : PyData} (t : Tm n d) : ∀ k ∈ kids d, Tm n k.2 := by
  obtain ⟨m, rfl⟩ := tm_pos t
  exact fun k hk => (kids_tm t k hk).up (by omega)
theorem walk_step {n : Nat} {d : PyData} (t : Tm n d) (g : List Str) : walkD n d g = (d, g) :: (kids d).flatMap fun k => walkD n k.2 (g ++ k.1) := by
  obtain ⟨m, rfl⟩ := tm_pos t
  show (d, g) :: _ = (d, g) :: _
  congr 1
  exact flat_eq fun k hk => (walk_up (kids_tm t k hk) (by omega)).symm
theorem flat_map {A B C : Type} (f : A → B) (g : B → List C) : ∀ xs : List A, (xs.map f).flatMap g = xs.flatMap fun x => g (f x)
  | [] => rfl
  | x :: xs => by rw [List.map_cons, List.flatMap_cons, List.flatMap_cons, flat_map f g xs]
theorem pre_step {n : Nat} {d : PyData} (t : Tm n d) : pre n d = d :: ((kids d).map (·.2)).flatMap (pre n) := by
  obtain ⟨m, rfl⟩ := tm_pos t
  show d :: _ = d :: _
  rw [flat_map]
  congr 1
  exact flat_eq fun k hk => (pre_up (kids_tm t k hk) (by omega)).symm
theorem pre_pos {n : Nat} {d : PyData} (t : Tm n d) : 1 ≤ (pre n d).length := by
  rw [pre_step t, List.length_cons]
  omega
theorem flat_ge {n : Nat} : ∀ {ds : List PyData}, (∀ e ∈ ds, Tm n e) → ds.length ≤ (ds.flatMap (pre n)).length
  | [], _ => Nat.le_refl _
  | d :: ds, h => by
    have := flat_ge (ds := ds) fun e he => h e (List.mem_cons_of_mem _ he)
    have := pre_pos (h d (List.mem_cons_self ..))
    rw [List.flatMap_cons, List.length_append, List.length_cons]
    omega
theorem walk_len {n : Nat} {d : PyData} {g : List Str} : (walkD n d g).length = (pre n d).length := by
  rw [← walk_pre n d g, List.length_map]
theorem opAddK {X : Cx} {K : PySem.W.Frag} (h : X.K = K) : OpR X (binaryOp .Add) (rAddAny K) := h ▸ opAdd
theorem outs_no {d : PyData} {g : List Str} {ws : List (PyData × List Str)} (h : tyD d ≠ "str") : outs ((d, g) :: ws) = outs ws := by
  cases d with
  | str x => exact absurd rfl h
  | _ => rfl
theorem outs_str (x : Str) (g : List Str) : outs [(.str x, g)] = if x ∈ g then [] else [x] := rfl
theorem outs_cons (q : PyData × List Str) (ws : List (PyData × List Str)) : outs (q :: ws) = outs [q] ++ outs ws := outs_app [q] ws
theorem dd_one (t : List Str) (x : Str) : dd t [x] = if x ∈ t then t else t ++ [x] := rfl
theorem walk_ge {n : Nat} : ∀ {qs : List (List Str × PyData)}, (∀ q ∈ qs, Tm n q.2) → qs.length ≤ (qs.flatMap fun q => walkD n q.2 q.1).length
  | [], _ => Nat.le_refl _
  | q :: qs, h => by
    have := walk_ge (qs := qs) fun e he => h e (List.mem_cons_of_mem _ he)
    have h1 := pre_pos (h q (List.mem_cons_self ..))
    rw [← walk_len (g := q.1)] at h1
    rw [List.flatMap_cons, List.length_append, List.length_cons]
    omega
theorem FitAll.sub {m : Nat} {es ds : List PyData} (h : es.Sublist ds) : ∀ {n : Nat}, FitAll n m ds → FitAll n m es := by
  induction h with
  | slnil => exact fun f => f
  | cons a h ih =>
    intro n f
    obtain ⟨x, y, l, _, f2⟩ := f.unc
    exact (ih f2).le (by omega) (Nat.le_refl _)
  | cons_cons a h ih =>
    intro n f
    obtain ⟨x, y, l, f1, f2⟩ := f.unc
    exact (FitAll.cons f1 (ih f2)).le l (Nat.le_refl _)
theorem outs_sub : ∀ ws : List (PyData × List Str), ((outs ws).map strD).Sublist (ws.map (·.1))
  | [] => .slnil
  | (d, g) :: ws => by
    have ih := outs_sub ws
    by_cases hs : tyD d = "str"
    · obtain ⟨x, rfl⟩ := ty_str hs
      show ((if x ∈ g then outs ws else x :: outs ws).map strD).Sublist (.str x :: ws.map (·.1))
      by_cases h : x ∈ g
      · rw [if_pos h]
        exact ih.cons _
      · rw [if_neg h]
        exact ih.cons_cons _
    · rw [outs_no hs]
      exact ih.cons _
theorem dd_sub : ∀ (xs acc : List Str), ∃ ys, dd acc xs = acc ++ ys ∧ ys.Sublist xs
  | [], acc => ⟨[], (List.append_nil _).symm, .slnil⟩
  | x :: xs, acc => by
    by_cases h : x ∈ acc
    · obtain ⟨ys, e, l⟩ := dd_sub xs acc
      refine ⟨ys, ?_, l.cons _⟩
      show dd (if x ∈ acc then acc else acc ++ [x]) xs = _
      rw [if_pos h, e]
    · obtain ⟨ys, e, l⟩ := dd_sub xs (acc ++ [x])
      refine ⟨x :: ys, ?_, l.cons_cons _⟩
      show dd (if x ∈ acc then acc else acc ++ [x]) xs = _
      rw [if_neg h, e, List.append_assoc]
      rfl
/-- the names of a term, as a list that is shown -/
theorem free_fit {n w m : Nat} {d : PyData} (t : Tm n d) (f : Fit w m d) : FitAll (n * (w + 2)) m ((dd [] (outs (walkD n d []))).map strD) := by
  obtain ⟨ys, e, l⟩ := dd_sub (outs (walkD n d [])) []
  rw [e, List.nil_append]
  refine FitAll.sub (l.map strD) (FitAll.sub (outs_sub _) ?_)
  rw [walk_pre]
  exact pre_fit t f
abbrev No : Addr → Prop := fun _ => False
theorem da_lst {K : PySem.W.Frag} {H : Hp} {L : Addr} {us : List V} {ds : List PyData} (e : H L = some (.lst us)) (g : DaAll K All H us ds) : Da K No H (.ref L) (.list ds) := .lst e (fun z => z) (g.less fun _ z => z.elim)
theorem da_frees {K : PySem.W.Frag} {H : Hp} {L : Addr} {xs : List Str} (e : H L = some (.lst (xs.map V.str))) : Da K No H (.ref L) (.list (xs.map strD)) := .lst e (fun z => z) (da_names xs)
end Ow

/-! How many texts of a tuple are unlike: len(set(..)). -/
namespace Ow
open PySem PySem.Spec PyProof.Rows
def Dn (g : Nat → Str) (i : Nat) : List Str := dd [] ((List.range i).map g)
theorem Dn_succ (g : Nat → Str) (i : Nat) : Dn g (i + 1) = if g i ∈ Dn g i then Dn g i else Dn g i ++ [g i] := by
  show dd [] ((List.range (i + 1)).map g) = _
  rw [List.range_succ, List.map_append, dd_app]
  rfl
theorem Dn_le (g : Nat → Str) (i : Nat) : (Dn g i).length ≤ i := by
  have := dd_len ((List.range i).map g) []
  rw [List.length_map, List.length_range] at this
  exact Nat.le_trans this (by show 0 + i ≤ i; omega)
theorem setOf_eq {prog : Program} {w : World} {h : Heap} {a : Addr} {S T : Str → Bool} {n m : Nat} (z : h.SetOf (strKind prog w) a S n) (e : S = T) (f : n = m) : h.SetOf (strKind prog w) a T m := e ▸ f ▸ z
section
variable {prog : Program} {w : World} {A : Around} {R : Result → Shared → Prop} {it : Addr} {fp wr : List Addr} {G : Array GenState → Array GenState → Prop} {n : Nat} {P : Nat → Value → Prop} {St : Nat → Shared → Prop}
theorem fill_loop (W : WalksS prog w A.in1 it fp wr G n P St) {C : Addr} (out : C ∉ fp) (g : Nat → Str) (isG : ∀ i v, P i v → ∃ t, v = Value.str (g i) t) (room : n + 1 < scanBound) (left : Nat) :
    ∀ (i : Nat) (z : Shared), i + left = n → St i z → z.heap.SetOf (strKind prog w) C (fun q => decide (q ∈ Dn g i)) (Dn g i).length →
      (∀ z', Moved (C :: wr) G z z' → z'.heap.SetOf (strKind prog w) C (fun q => decide (q ∈ Dn g n)) (Dn g n).length → R (.ok (.ret .none)) z') →
      codeAny (model prog w) A (.builtin "set.update.loop" ⟨[.ref C, .ref it], []⟩) R z := by
  have outW : C ∉ wr := fun c => out (W.sub _ c)
  have wider : ∀ {a b : Shared}, Moved wr G a b → Moved (C :: wr) G a b := fun mv => mv.mono fun c hc => List.mem_cons_of_mem _ hc
  have moved : ∀ {a b : Shared} {S : Str → Bool} {k : Nat}, Moved wr G a b → a.heap.SetOf (strKind prog w) C S k → b.heap.SetOf (strKind prog w) C S k := fun mv hs => by
    obtain ⟨ob, x1, x2, x3, at_, more⟩ := hs
    exact ⟨ob, x1, x2, x3, mv.heap C _ outW at_, more⟩
  induction left with
  | zero =>
    intro i z hi st hs fin
    obtain rfl : i = n := by omega
    refine codeAny_builtin F.entry_set_update_loop ?_
    rw [Around.under_plainId F.plain_set_update_loop _]
    exact wpAny_bind (W.done z _ _ st fun z' mv => wpAny_pure (fin z' (wider mv) (moved mv hs)))
  | succ left ih =>
    intro i z hi st hs fin
    refine codeAny_builtin F.entry_set_update_loop ?_
    rw [Around.under_plainId F.plain_set_update_loop _]
    refine wpAny_bind (W.item i z _ _ (by omega) st fun v z1 pv st1 mv => ?_)
    obtain ⟨t, rfl⟩ := isG i v pv
    show wpAny _ A.in1 (holding [Value.str (g i) t] (setAdd C (.str (g i) t)) >>= _) _ _ z1
    refine wpAny_bind (wpAny_holding ?_)
    unfold setAdd
    refine wpAny_holding (wpAny_bind ((strKind prog w).pyHash (k := g i) (strKind_is _ _ _ _) ?_))
    refine wpAny_setAddHashed_of (knd := strKind prog w) (s := { z1 with toks := z1.toks + 1 }) (strKind_is _ _ _ _) rfl (moved (b := z1) mv hs) (by have := Dn_le g i; omega) fun h2 same hs2 => ?_
    have next : h2.SetOf (strKind prog w) C (fun q => decide (q ∈ Dn g (i + 1))) (Dn g (i + 1)).length := by
      refine setOf_eq hs2 (funext fun q => ?_) ?_
      · rw [Dn_succ]
        by_cases c : g i ∈ Dn g i
        · rw [if_pos c]
          by_cases e : q = g i
          · subst e
            simp [c]
          · simp [e]
        · rw [if_neg c]
          simp
      · rw [Dn_succ]
        by_cases c : g i ∈ Dn g i
        · rw [if_pos c, if_pos (decide_eq_true c)]
        · rw [if_neg c, if_neg (by simpa using c), List.length_append]
          rfl
    have still : ∀ b, b ≠ C → ∀ o, z1.heap.get? b = some o → h2.get? b = some o := fun b hb o e => by
      rw [same.2 b hb]
      exact e
    refine wpAny_pure ⟨plainId_quiet F.plain_set_update_loop _, ih (i + 1) _ (by omega) (W.frame _ z1 _ _ st1 (Nat.le_succ _) fun b hb o e => still b (fun c => out (c ▸ hb)) o e) next fun z3 mv3 hs3 => ?_⟩
    exact fin z3 (Moved.trans W.gtrans ((wider mv).then_heap (Nat.le_succ _) fun b o hb e => still b (fun c => hb (c ▸ List.mem_cons_self ..)) o e) mv3) hs3
end
abbrev freshSet (led : Bool) : Obj := ⟨.type "set", none, .set #[] 0 (.fresh 0 0 led), #[]⟩
theorem strs_get : ∀ {us : List Value} {xs : List Str}, StrsAre us xs → ∀ {i : Nat} {v : Value}, us[i]? = some v → ∃ t, v = .str (xs.getD i Str.empty) t
  | _, _, .nil, i, v, e => by cases e
  | _, _, .cons x t r, 0, v, e => by
    cases e
    exact ⟨t, rfl⟩
  | _, _, .cons x t r, i + 1, v, e => strs_get r (i := i) e
theorem strs_len : ∀ {us : List Value} {xs : List Str}, StrsAre us xs → us.length = xs.length
  | _, _, .nil => rfl
  | _, _, .cons x t r => by rw [List.length_cons, List.length_cons, strs_len r]
theorem range_getD (xs : List Str) : (List.range xs.length).map (fun i => xs.getD i Str.empty) = xs := by
  refine List.ext_getElem (by simp) fun i h1 h2 => ?_
  rw [List.getElem_map, List.getElem_range, List.getD_eq_getElem?_getD, List.getElem?_eq_getElem h2]
  rfl
section
variable {prog : Program} {w : World} {A : Around} {E : Value → Shared → Prop} {s : Shared}
theorem init_setTx {l : Addr} {items : Array Value} {xs : List Str} (led : Bool) (free : A.handled = none) (tup : s.heap.IsTuple l items) (texts : StrsAre items.toList xs) (small : xs.length + 1 < scanBound) {F : PySem.Fin → Shared → Prop}
    (k : ∀ (h' : Heap) (tk : Nat), h'.SetOf (strKind prog w) s.heap.objs.size (fun q => decide (q ∈ dd [] xs)) (dd [] xs).length →
      (∀ b o, b < s.heap.objs.size → s.heap.get? b = some o → h'.get? b = some o) → wpAny (model prog w) A (ret Value.none) F E { s with heap := h', toks := tk }) :
    wpAny (model prog w) A (Builtin.«set.__init__» ⟨[.ref s.heap.objs.size, .ref l], []⟩) F E { s with heap := s.heap.push (freshSet led) } := by
  obtain ⟨⟨_, dl, _, sl⟩, at_, rfl, nl, rfl⟩ := tup
  have atS : (s.heap.push (freshSet led)).get? s.heap.objs.size = some (freshSet led) := Heap.get?_push_size _ rfl
  have at1 := Heap.get?_push_of_some (freshSet led) at_
  have low := Heap.lt_size at_
  have tup1 : (s.heap.push (freshSet led)).IsTuple l items := ⟨_, at1, rfl, nl, rfl⟩
  have n1 := PySem.F.sub_tuple_set
  have n2 := PySem.F.sub_tuple_frozenset
  have n3 : (Value.type "tuple" == .type "dict") = false := by decide
  have hT : Shared.TypeIs { s with heap := s.heap.push (freshSet led) } (.ref s.heap.objs.size) "set" := ⟨_, atS, rfl⟩
  unfold Builtin.«set.__init__» noKeywords Builtin.Frozenset.updateFrom; generalize hPI : pyIter = PI
  wp_walk
  rw [← hPI]
  refine wpAny_pyIter_tuple tup1 (wpAny_bind (wpAny_runValue ?_))
  have sz : (s.heap.push (freshSet led)).objs.size = s.heap.objs.size + 1 := Heap.size_push _ _
  have apart : l ≠ (s.heap.push (freshSet led)).objs.size := fun e => absurd (e.trans sz) (Nat.ne_of_lt (Nat.lt_succ_of_lt low))
  have len : xs.length = items.size := by rw [← strs_len texts, Array.length_toList]
  have dn : Dn (fun i => xs.getD i Str.empty) items.size = dd [] xs := by
    unfold Dn
    rw [← len, range_getD]
  refine fill_loop ((Walks.tuple (by simp [free]) _ l apart items).toS) (C := s.heap.objs.size) ?_ (fun i => xs.getD i Str.empty) (fun i v e => strs_get texts (by rw [Array.getElem?_toList]; exact e)) (by omega) items.size 0 _ (Nat.zero_add _)
    ⟨⟨_, Heap.get?_push_size _ rfl, rfl, rfl⟩, tup1.push _⟩ ?_ ?_
  · rw [sz]
    intro c
    simp only [List.mem_cons, List.not_mem_nil, or_false] at c
    rcases c with c | c
    · exact absurd c (Nat.ne_of_lt (Nat.lt_succ_self _))
    · exact absurd c.symm (Nat.ne_of_lt low)
  · refine setOf_eq ((setObjOf_fresh (knd := strKind prog w) led).setOf (Heap.get?_push_of_some _ atS) (by unfold scanBound; omega)) (funext fun q => ?_) rfl
    rfl
  · rintro ⟨h2, g2, d2, tk2, os2⟩ mv hs
    obtain rfl : g2 = s.gens := mv.gens
    obtain rfl : d2 = s.drawn := mv.drawn
    obtain rfl : os2 = s.os := mv.os
    rw [dn] at hs
    refine wpAny_pure (k h2 tk2 hs fun b o hb e => mv.heap b o ?_ (Heap.get?_push_of_some _ (Heap.get?_push_of_some _ e)))
    rw [sz]
    simp only [List.mem_cons, List.not_mem_nil, or_false, not_or]
    exact ⟨Nat.ne_of_lt hb, Nat.ne_of_lt (Nat.lt_succ_of_lt hb)⟩
theorem call_setTx {l : Addr} {items : Array Value} {xs : List Str} {Q : Value → Shared → Prop} (free : A.handled = none) (tup : s.heap.IsTuple l items) (texts : StrsAre items.toList xs) (small : xs.length + 1 < scanBound)
    (k : ∀ (h' : Heap) (tk : Nat), h'.SetOf (strKind prog w) s.heap.objs.size (fun q => decide (q ∈ dd [] xs)) (dd [] xs).length →
      (∀ b o, b < s.heap.objs.size → s.heap.get? b = some o → h'.get? b = some o) → Q (.ref s.heap.objs.size) { s with heap := h', toks := tk }) : wpAny (model prog w) A (call (.type "set") [.ref l]) Q E s := by
  have ⟨cc, tl, mro⟩ := PySem.F.called_set.mro
  have a1 := PySem.F.called_set.made; have a2 := PySem.F.called_set.sub
  have a3 := PySem.F.called_set.notType; have a4 := PySem.F.called_set.canCreate; have a5 := PySem.F.typeCall_set_1 (.ref l)
  refine wpAny_call (codeAny_of_tree (show wpAny _ _ (callAny (.type "set") _) _ _ _ from wpAny_pure ⟨Code.quiet_builtin _ (by decide +kernel), codeAny_builtin PySem.F.entry_type_call ?_⟩))
  rw [Around.under_plain (weight_type_call_type "set" [.ref l] []) rfl]
  repeat any_goals first | assumption | wp_step
  refine codeAny_mono (code_set_new_1 (.ref l) (E := E) (Q₁ := fun ob z => ∃ led : Bool, ob = .ref s.heap.objs.size ∧ z = { s with heap := s.heap.push (freshSet led) }) fun led => ⟨led, rfl, rfl⟩) fun r z hr => ?_
  match r, hr with
  | .ok (.ret ob), hr =>
    obtain ⟨led, rfl, rfl⟩ := hr
    have atS : (s.heap.push (freshSet led)).get? s.heap.objs.size = some (freshSet led) := Heap.get?_push_size _ rfl
    have hT : Shared.TypeIs { s with heap := s.heap.push (freshSet led) } (.ref s.heap.objs.size) "set" := ⟨_, atS, rfl⟩
    have b1 := PySem.F.called_set.init.lookup; have b2 := PySem.F.called_set.init.bind (.ref s.heap.objs.size)
    repeat any_goals first | assumption | wp_step
    refine codeAny_mono (codeAny_call_builtin (R := wants (fun r z => r = .none ∧ ∃ (h' : Heap) (tk : Nat), z = { s with heap := h', toks := tk } ∧ h'.SetOf (strKind prog w) s.heap.objs.size (fun q => decide (q ∈ dd [] xs)) (dd [] xs).length ∧
      ∀ b o, b < s.heap.objs.size → s.heap.get? b = some o → h'.get? b = some o) E) PySem.F.called_set.init.plain PySem.F.entry_set_init (check_set_init_1 hT ?_)) fun r2 z2 hr2 => ?_
    · exact init_setTx led (by simp [free]) tup texts small fun h2 tk hs keep => wpAny_pure ⟨rfl, h2, tk, rfl, hs, keep⟩
    · match r2, hr2 with
      | .ok (.ret v), hr2 =>
        obtain ⟨rfl, h2, tk, rfl, hs, keep⟩ := hr2
        repeat any_goals first | assumption | wp_step
        exact k h2 tk hs keep
      | .error e, hr2 => exact hr2
  | .error e, hr => exact hr
theorem init_setLx {l : Addr} {items : Array Value} {xs : List Str} (led : Bool) (free : A.handled = none) (tup : s.heap.IsList l items) (texts : StrsAre items.toList xs) (small : xs.length + 1 < scanBound) {F : PySem.Fin → Shared → Prop}
    (k : ∀ (h' : Heap) (tk : Nat), h'.SetOf (strKind prog w) s.heap.objs.size (fun q => decide (q ∈ dd [] xs)) (dd [] xs).length →
      (∀ b o, b < s.heap.objs.size → s.heap.get? b = some o → h'.get? b = some o) → wpAny (model prog w) A (ret Value.none) F E { s with heap := h', toks := tk }) :
    wpAny (model prog w) A (Builtin.«set.__init__» ⟨[.ref s.heap.objs.size, .ref l], []⟩) F E { s with heap := s.heap.push (freshSet led) } := by
  obtain ⟨⟨_, dl, _, sl⟩, at_, rfl, nl, rfl⟩ := tup
  have atS : (s.heap.push (freshSet led)).get? s.heap.objs.size = some (freshSet led) := Heap.get?_push_size _ rfl
  have at1 := Heap.get?_push_of_some (freshSet led) at_
  have low := Heap.lt_size at_
  have tup1 : (s.heap.push (freshSet led)).IsList l items := ⟨_, at1, rfl, nl, rfl⟩
  have n1 := PySem.F.sub_list_set
  have n2 := PySem.F.sub_list_frozenset
  have n3 : (Value.type "list" == .type "dict") = false := by decide
  have hT : Shared.TypeIs { s with heap := s.heap.push (freshSet led) } (.ref s.heap.objs.size) "set" := ⟨_, atS, rfl⟩
  unfold Builtin.«set.__init__» noKeywords Builtin.Frozenset.updateFrom; generalize hPI : pyIter = PI
  wp_walk
  rw [← hPI]
  refine wpAny_pyIter_list tup1 (wpAny_bind (wpAny_runValue ?_))
  have sz : (s.heap.push (freshSet led)).objs.size = s.heap.objs.size + 1 := Heap.size_push _ _
  have apart : l ≠ (s.heap.push (freshSet led)).objs.size := fun e => absurd (e.trans sz) (Nat.ne_of_lt (Nat.lt_succ_of_lt low))
  have len : xs.length = items.size := by rw [← strs_len texts, Array.length_toList]
  have dn : Dn (fun i => xs.getD i Str.empty) items.size = dd [] xs := by
    unfold Dn
    rw [← len, range_getD]
  refine fill_loop ((Walks.list (by simp [free]) _ l apart items).toS) (C := s.heap.objs.size) ?_ (fun i => xs.getD i Str.empty) (fun i v e => strs_get texts (by rw [Array.getElem?_toList]; exact e)) (by omega) items.size 0 _ (Nat.zero_add _)
    ⟨⟨_, Heap.get?_push_size _ rfl, rfl, rfl⟩, tup1.push _⟩ ?_ ?_
  · rw [sz]
    intro c
    simp only [List.mem_cons, List.not_mem_nil, or_false] at c
    rcases c with c | c
    · exact absurd c (Nat.ne_of_lt (Nat.lt_succ_self _))
    · exact absurd c.symm (Nat.ne_of_lt low)
  · refine setOf_eq ((setObjOf_fresh (knd := strKind prog w) led).setOf (Heap.get?_push_of_some _ atS) (by unfold scanBound; omega)) (funext fun q => ?_) rfl
    rfl
  · rintro ⟨h2, g2, d2, tk2, os2⟩ mv hs
    obtain rfl : g2 = s.gens := mv.gens
    obtain rfl : d2 = s.drawn := mv.drawn
    obtain rfl : os2 = s.os := mv.os
    rw [dn] at hs
    refine wpAny_pure (k h2 tk2 hs fun b o hb e => mv.heap b o ?_ (Heap.get?_push_of_some _ (Heap.get?_push_of_some _ e)))
    rw [sz]
    simp only [List.mem_cons, List.not_mem_nil, or_false, not_or]
    exact ⟨Nat.ne_of_lt hb, Nat.ne_of_lt (Nat.lt_succ_of_lt hb)⟩
theorem call_setLx {l : Addr} {items : Array Value} {xs : List Str} {Q : Value → Shared → Prop} (free : A.handled = none) (tup : s.heap.IsList l items) (texts : StrsAre items.toList xs) (small : xs.length + 1 < scanBound)
    (k : ∀ (h' : Heap) (tk : Nat), h'.SetOf (strKind prog w) s.heap.objs.size (fun q => decide (q ∈ dd [] xs)) (dd [] xs).length →
      (∀ b o, b < s.heap.objs.size → s.heap.get? b = some o → h'.get? b = some o) → Q (.ref s.heap.objs.size) { s with heap := h', toks := tk }) : wpAny (model prog w) A (call (.type "set") [.ref l]) Q E s := by
  have ⟨cc, tl, mro⟩ := PySem.F.called_set.mro
  have a1 := PySem.F.called_set.made; have a2 := PySem.F.called_set.sub
  have a3 := PySem.F.called_set.notType; have a4 := PySem.F.called_set.canCreate; have a5 := PySem.F.typeCall_set_1 (.ref l)
  refine wpAny_call (codeAny_of_tree (show wpAny _ _ (callAny (.type "set") _) _ _ _ from wpAny_pure ⟨Code.quiet_builtin _ (by decide +kernel), codeAny_builtin PySem.F.entry_type_call ?_⟩))
  rw [Around.under_plain (weight_type_call_type "set" [.ref l] []) rfl]
  repeat any_goals first | assumption | wp_step
  refine codeAny_mono (code_set_new_1 (.ref l) (E := E) (Q₁ := fun ob z => ∃ led : Bool, ob = .ref s.heap.objs.size ∧ z = { s with heap := s.heap.push (freshSet led) }) fun led => ⟨led, rfl, rfl⟩) fun r z hr => ?_
  match r, hr with
  | .ok (.ret ob), hr =>
    obtain ⟨led, rfl, rfl⟩ := hr
    have atS : (s.heap.push (freshSet led)).get? s.heap.objs.size = some (freshSet led) := Heap.get?_push_size _ rfl
    have hT : Shared.TypeIs { s with heap := s.heap.push (freshSet led) } (.ref s.heap.objs.size) "set" := ⟨_, atS, rfl⟩
    have b1 := PySem.F.called_set.init.lookup; have b2 := PySem.F.called_set.init.bind (.ref s.heap.objs.size)
    repeat any_goals first | assumption | wp_step
    refine codeAny_mono (codeAny_call_builtin (R := wants (fun r z => r = .none ∧ ∃ (h' : Heap) (tk : Nat), z = { s with heap := h', toks := tk } ∧ h'.SetOf (strKind prog w) s.heap.objs.size (fun q => decide (q ∈ dd [] xs)) (dd [] xs).length ∧
      ∀ b o, b < s.heap.objs.size → s.heap.get? b = some o → h'.get? b = some o) E) PySem.F.called_set.init.plain PySem.F.entry_set_init (check_set_init_1 hT ?_)) fun r2 z2 hr2 => ?_
    · exact init_setLx led (by simp [free]) tup texts small fun h2 tk hs keep => wpAny_pure ⟨rfl, h2, tk, rfl, hs, keep⟩
    · match r2, hr2 with
      | .ok (.ret v), hr2 =>
        obtain ⟨rfl, h2, tk, rfl, hs, keep⟩ := hr2
        repeat any_goals first | assumption | wp_step
        exact k h2 tk hs keep
      | .error e, hr2 => exact hr2
  | .error e, hr => exact hr
end
end Ow
namespace Ow
open PySem PySem.Spec PyProof.Rows L2
def tLenSetT (K : PySem.W.Frag) (ta : TE) : TE := fun σ H Q => ta σ H fun x H1 => ∃ (l : Addr) (xs : List Str), x = .ref l ∧ (SqT K H1 l (xs.map V.str) ∨ SqL K H1 l (xs.map V.str)) ∧ xs.length ≤ 1000 ∧ Q (.int (dd [] xs).length) H1
theorem strs_are : ∀ {xs : List Str} {us : List Value}, Vals (xs.map V.str) us → StrsAre us xs
  | [], _, .nil => .nil
  | x :: xs, _, .cons ⟨k, e⟩ t => e ▸ .cons x k (strs_are t)
theorem pe_lenSetT {X : Cx} {a : Expr} {ta : TE} {p p2 q pos : Pos} (calm : X.calm = true) (g1 : Gl X "len") (n1 : X.mg "len" = none) (g2 : Gl X "set") (n2 : X.mg "set" = none) (ha : PE X a ta)
    (na : starEach [a] X.env = (false, eval a X.env) :: starEach [] X.env := by rfl) : PE X (.Call (.Name "len" p) [.Call (.Name "set" p2) [a] [] q] [] pos) (tLenSetT X.K ta) := by
  refine ⟨fun pins s σ H Q I h => Call_ (ld_blt I g1 n1 boot_len (callWith_builtin1 (args_cons (Call_ (ld_blt I g2 n2 boot_set (callWith_type1 (args_cons (thn (ha.run pins s σ H _ I h) fun v s1 z => args_nil ?_) na) na rfl))) rfl) rfl rfl))⟩
  obtain ⟨x, H1, I1, r1, l, xs, rfl, hT, small, done⟩ := z
  cases r1
  have fin : ∀ (h2 : Heap) (tk : Nat), h2.SetOf (strKind X.prog X.w) s1.heap.objs.size (fun q => decide (q ∈ dd [] xs)) (dd [] xs).length → (∀ b o, b < s1.heap.objs.size → s1.heap.get? b = some o → h2.get? b = some o) →
      wpAny (model X.prog X.w) X.A (spliced (backTo pos (starEach [] X.env))) (fun vs s₂ => wpAny (model X.prog X.w) X.A (call (.builtin "len") (Value.ref s1.heap.objs.size :: vs)) (EP X pins σ Q) X.xe s₂) X.xe { s1 with heap := h2, toks := tk } := fun h2 tk hs keep => by
    refine args_nil ?_
    obtain ⟨ob, x1, x2, x3, at_, y1, y2, _, _, _, y3, y4⟩ := hs
    have I2 : Inv X pins σ H1 { s1 with heap := h2, toks := tk } := I1.kept fun b o e => keep b o (Heap.lt_size e) e
    have short := dd_len xs []
    have nn : ([] : List Str).length = 0 := rfl
    exact call_len_set at_ y1 y2 y3 (by rw [y4]; omega) ⟨.int (dd [] xs).length, H1, I2.tok _, ⟨_, by rw [y4]⟩, done⟩
  rcases hT with hT | hT
  · obtain ⟨us, r, tup, _⟩ := I1.tuple hT
    exact call_setTx (I1.ok.hd calm) tup (by simpa using strs_are r) (by unfold scanBound; omega) fin
  · obtain ⟨us, r, lst, _⟩ := I1.list hT
    exact call_setLx (I1.ok.hd calm) lst.isList (by simpa using strs_are r) (by unfold scanBound; omega) fin
end Ow

/-! What is a term, over any data. -/
namespace Ow
open PySem PySem.Spec PyProof.Rows L2
def unlikeN (xs : List Str) : Bool := decide ((dd [] xs).length = xs.length)
def caseOk : PyData → Bool
  | .tuple [m, .tuple ns, _] => isNameD m && decide (ns.length ≤ 4) && ns.all isNameD && unlikeN (ns.map nmD)
  | _ => false
def slotOk (s : Str) (d : PyData) : Bool :=
  if s = sg "name" then isNameD d else if s = sg "kind" then kindW 6 d else if s = sg "terms" then isRowD d 0 4 else if s = sg "cases" then isRowD d 1 6 && (itD d).all caseOk else true
def formsL : List (Str × List Str) := [(sg "@", [sg "name"]), (sg "^", [sg "name", sg "kind", sg "term"]), (sg "!", [sg "term", sg "term"]), (sg "&", [sg "term", sg "term"]), (sg "/", [sg "term", sg "name", sg "name", sg "term"]),
  (sg "#", [sg "name", sg "terms"]), (sg "?", [sg "term", sg "cases"]), (sg "+", [sg "term", sg "name", sg "name", sg "term"]), (sg "-", [sg "term", sg "term"])]
def formOf (s : Str) : Option (List Str) := (formsL.find? fun p => decide (p.1 = s)).map (·.2)
def sameN (a b : Option PyData) : Bool := decide (a.map nmD = b.map nmD)
def formedD : PyData → Bool
  | .str x => isNameD (.str x)
  | .tuple (.str s :: r) => match formOf s with
    | none => false
    | some sl => decide (r.length = sl.length) && (sl.zip r).all (fun p => slotOk p.1 p.2) && (!decide (s ∈ m2) || !sameN r[1]? r[2]?)
  | _ => false
/-- the shape of what is formed, what is within it left aside -/
inductive Sh : PyData → Prop
  | name (x : Str) : isNameD (.str x) = true → Sh (.str x)
  | at (x : Str) : isNameD (.str x) = true → Sh (.tuple [.str (Str.ofString "@"), .str x])
  | lam (x : Str) (k t : PyData) : isNameD (.str x) = true → kindW 6 k = true → Sh (.tuple [.str (Str.ofString "^"), .str x, k, t])
  | two (s : Str) (t u : PyData) : s ∈ [Str.ofString "!", Str.ofString "&", Str.ofString "-"] → Sh (.tuple [.str s, t, u])
  | five (s x y : Str) (t u : PyData) : s ∈ [Str.ofString "/", Str.ofString "+"] → isNameD (.str x) = true → isNameD (.str y) = true → x ≠ y → Sh (.tuple [.str s, t, .str x, .str y, u])
  | mk (c : Str) (ts : List PyData) : isNameD (.str c) = true → ts.length ≤ 4 → Sh (.tuple [.str (Str.ofString "#"), .str c, .tuple ts])
  | ch (t : PyData) (cs : List (Str × List Str × PyData)) : 1 ≤ cs.length → cs.length ≤ 6 → (∀ c ∈ cs, isNameD (.str c.1) = true ∧ c.2.1.length ≤ 4 ∧ (∀ x ∈ c.2.1, isNameD (.str x) = true) ∧ unlikeN c.2.1 = true) →
      Sh (.tuple [.str (Str.ofString "?"), t, .tuple (cs.map fun c => .tuple [.str c.1, .tuple (c.2.1.map strD), c.2.2])])
theorem name_str {d : PyData} (h : isNameD d = true) : ∃ x, d = .str x := by
  cases d with
  | str x => exact ⟨x, rfl⟩
  | _ => cases h
theorem names_of : ∀ {ns : List PyData}, ns.all isNameD = true → ∃ xs : List Str, ns = xs.map strD ∧ ∀ x ∈ xs, isNameD (.str x) = true
  | [], _ => ⟨[], rfl, fun _ z => nomatch z⟩
  | d :: ns, h => by
    rw [List.all_cons, Bool.and_eq_true] at h
    obtain ⟨x, rfl⟩ := name_str h.1
    obtain ⟨xs, rfl, hx⟩ := names_of h.2
    refine ⟨x :: xs, rfl, fun y hy => ?_⟩
    rcases List.mem_cons.mp hy with rfl | hy
    · exact h.1
    · exact hx y hy
theorem case_of {d : PyData} (h : caseOk d = true) : ∃ c : Str × List Str × PyData, d = .tuple [.str c.1, .tuple (c.2.1.map strD), c.2.2] ∧ isNameD (.str c.1) = true ∧ c.2.1.length ≤ 4 ∧ (∀ x ∈ c.2.1, isNameD (.str x) = true) ∧ unlikeN c.2.1 = true := by
  unfold caseOk at h
  split at h
  · rename_i m ns u
    simp only [Bool.and_eq_true, decide_eq_true_eq] at h
    obtain ⟨⟨⟨h1, h2⟩, h3⟩, h4⟩ := h
    obtain ⟨x, rfl⟩ := name_str h1
    obtain ⟨xs, rfl, hx⟩ := names_of h3
    rw [nm_map] at h4
    rw [List.length_map] at h2
    exact ⟨(x, xs, u), rfl, h1, h2, hx, h4⟩
  · cases h
theorem cases_of : ∀ {ds : List PyData}, ds.all caseOk = true → ∃ cs : List (Str × List Str × PyData), ds = cs.map (fun c => .tuple [.str c.1, .tuple (c.2.1.map strD), c.2.2]) ∧ ∀ c ∈ cs, isNameD (.str c.1) = true ∧ c.2.1.length ≤ 4 ∧ (∀ x ∈ c.2.1, isNameD (.str x) = true) ∧ unlikeN c.2.1 = true
  | [], _ => ⟨[], rfl, fun _ z => nomatch z⟩
  | d :: ds, h => by
    rw [List.all_cons, Bool.and_eq_true] at h
    obtain ⟨c, rfl, hc⟩ := case_of h.1
    obtain ⟨cs, rfl, hcs⟩ := cases_of h.2
    refine ⟨c :: cs, rfl, fun e he => ?_⟩
    rcases List.mem_cons.mp he with rfl | he
    · exact hc
    · exact hcs e he
theorem slot_name (d : PyData) : slotOk (sg "name") d = isNameD d := if_pos rfl
theorem slot_kind (d : PyData) : slotOk (sg "kind") d = kindW 6 d := (if_neg (by decide +kernel)).trans (if_pos rfl)
theorem slot_terms (d : PyData) : slotOk (sg "terms") d = isRowD d 0 4 := (if_neg (by decide +kernel)).trans ((if_neg (by decide +kernel)).trans (if_pos rfl))
theorem slot_cases (d : PyData) : slotOk (sg "cases") d = (isRowD d 1 6 && (itD d).all caseOk) := (if_neg (by decide +kernel)).trans ((if_neg (by decide +kernel)).trans ((if_neg (by decide +kernel)).trans (if_pos rfl)))
theorem slot_term (d : PyData) : slotOk (sg "term") d = true := (if_neg (by decide +kernel)).trans ((if_neg (by decide +kernel)).trans ((if_neg (by decide +kernel)).trans (if_neg (by decide +kernel))))
theorem form_cases {s : Str} {sl : List Str} (h : formOf s = some sl) : (s, sl) ∈ formsL := by
  unfold formOf at h
  obtain ⟨p, hp, rfl⟩ := Option.map_eq_some_iff.mp h
  have e := List.find?_some hp
  rw [← of_decide_eq_true e]
  exact List.mem_of_find?_eq_some hp
theorem row_tup {d : PyData} {a b : Int} (h : isRowD d a b = true) : ∃ ds, d = .tuple ds ∧ a ≤ (ds.length : Int) ∧ (ds.length : Int) ≤ b := by
  cases d with
  | tuple ds =>
    refine ⟨ds, rfl, ?_⟩
    simpa [isRowD] using h
  | _ => cases h
theorem form_eq {s : Str} {r : List PyData} : formedD (.tuple (.str s :: r)) = match formOf s with
    | none => false
    | some sl => decide (r.length = sl.length) && (sl.zip r).all (fun p => slotOk p.1 p.2) && (!decide (s ∈ m2) || !sameN r[1]? r[2]?) := rfl
theorem len1 {α : Type} {r : List α} (h : r.length = 1) : ∃ a, r = [a] := by
  match r, h with
  | [a], _ => exact ⟨a, rfl⟩
theorem len2 {α : Type} {r : List α} (h : r.length = 2) : ∃ a b, r = [a, b] := by
  match r, h with
  | [a, b], _ => exact ⟨a, b, rfl⟩
theorem len3 {α : Type} {r : List α} (h : r.length = 3) : ∃ a b c, r = [a, b, c] := by
  match r, h with
  | [a, b, c], _ => exact ⟨a, b, c, rfl⟩
theorem len4 {α : Type} {r : List α} (h : r.length = 4) : ∃ a b c d, r = [a, b, c, d] := by
  match r, h with
  | [a, b, c, d], _ => exact ⟨a, b, c, d, rfl⟩
theorem formed_sh {d : PyData} (h : formedD d = true) : Sh d := by
  unfold formedD at h
  split at h
  · exact .name _ h
  · rename_i s r
    split at h
    · cases h
    · rename_i sl hs
      simp only [Bool.and_eq_true, decide_eq_true_eq] at h
      obtain ⟨⟨hl, ha⟩, hm⟩ := h
      have hf := form_cases hs
      simp only [formsL, List.mem_cons, List.not_mem_nil, or_false, Prod.mk.injEq] at hf
      rcases hf with ⟨rfl, rfl⟩ | ⟨rfl, rfl⟩ | ⟨rfl, rfl⟩ | ⟨rfl, rfl⟩ | ⟨rfl, rfl⟩ | ⟨rfl, rfl⟩ | ⟨rfl, rfl⟩ | ⟨rfl, rfl⟩ | ⟨rfl, rfl⟩
      · obtain ⟨a, rfl⟩ := len1 hl
        simp only [List.zip_cons_cons, List.zip_nil_left, List.all_cons, List.all_nil, slot_name, Bool.and_true] at ha
        obtain ⟨x, rfl⟩ := name_str ha
        exact .at x ha
      · obtain ⟨a, b, c, rfl⟩ := len3 hl
        simp only [List.zip_cons_cons, List.zip_nil_left, List.all_cons, List.all_nil, slot_name, slot_kind, slot_term, Bool.and_true, Bool.and_eq_true] at ha
        obtain ⟨x, rfl⟩ := name_str ha.1
        exact .lam x b c ha.1 ha.2
      · obtain ⟨a, b, rfl⟩ := len2 hl
        exact .two _ a b (by simp)
      · obtain ⟨a, b, rfl⟩ := len2 hl
        exact .two _ a b (by simp)
      · obtain ⟨a, b, c, e, rfl⟩ := len4 hl
        simp only [List.zip_cons_cons, List.zip_nil_left, List.all_cons, List.all_nil, slot_name, slot_term, Bool.and_true, Bool.true_and, Bool.and_eq_true] at ha
        obtain ⟨x, rfl⟩ := name_str ha.1
        obtain ⟨y, rfl⟩ := name_str ha.2
        refine .five _ x y a e (by simp) ha.1 ha.2 fun hxy => ?_
        subst hxy
        simp [sameN] at hm
      · obtain ⟨a, b, rfl⟩ := len2 hl
        simp only [List.zip_cons_cons, List.zip_nil_left, List.all_cons, List.all_nil, slot_name, slot_terms, Bool.and_true, Bool.and_eq_true] at ha
        obtain ⟨x, rfl⟩ := name_str ha.1
        obtain ⟨ts, rfl, _, h4⟩ := row_tup ha.2
        exact .mk x ts ha.1 (by omega)
      · obtain ⟨a, b, rfl⟩ := len2 hl
        simp only [List.zip_cons_cons, List.zip_nil_left, List.all_cons, List.all_nil, slot_term, slot_cases, Bool.and_true, Bool.true_and, Bool.and_eq_true] at ha
        obtain ⟨ts, rfl, h1, h6⟩ := row_tup ha.1
        obtain ⟨cs, rfl, hcs⟩ := cases_of (ds := ts) ha.2
        rw [List.length_map] at h1 h6
        exact .ch a cs (by omega) (by omega) hcs
      · obtain ⟨a, b, c, e, rfl⟩ := len4 hl
        simp only [List.zip_cons_cons, List.zip_nil_left, List.all_cons, List.all_nil, slot_name, slot_term, Bool.and_true, Bool.true_and, Bool.and_eq_true] at ha
        obtain ⟨x, rfl⟩ := name_str ha.1
        obtain ⟨y, rfl⟩ := name_str ha.2
        refine .five _ x y a e (by simp) ha.1 ha.2 fun hxy => ?_
        subst hxy
        simp [sameN] at hm
      · obtain ⟨a, b, rfl⟩ := len2 hl
        exact .two _ a b (by simp)
  · cases h
end Ow

/-! How large a term is; rows of what stands within. -/
namespace Ow
open PySem PySem.Spec PyProof.Rows L2
theorem kidsS_fit {d : PyData} (h : Sh d) : ∀ {w m : Nat}, Fit w m d → FitAll w m ((kids d).map (·.2)) := by
  intro w m f
  cases h with
  | name x _ => exact FitAll.nil.le (Nat.zero_le _) (Nat.le_refl _)
  | «at» x _ => exact FitAll.nil.le (Nat.zero_le _) (Nat.le_refl _)
  | lam x kk t _ _ =>
    obtain ⟨a, b, l, f1, f2⟩ := f.inner.unc
    obtain ⟨a2, b2, l2, f3, f4⟩ := f2.unc
    obtain ⟨a3, b3, l3, f5, f6⟩ := f4.unc
    exact f6.le (by omega) (Nat.le_refl _)
  | two s t u hs =>
    rw [kids_two _ _ hs]
    exact f.two.1
  | five s x y t u hs _ _ _ =>
    obtain ⟨a, b, l, f1, f2⟩ := f.inner.unc
    obtain ⟨a2, b2, l2, f3, f4⟩ := f2.unc
    obtain ⟨a3, b3, l3, f5, f6⟩ := f4.unc
    obtain ⟨a4, b4, l4, f7, f8⟩ := f6.unc
    exact (FitAll.cons f3 f8).le (by omega) (Nat.le_refl _)
  | mk c ts _ _ =>
    rw [kids_mk, List.map_map]
    have := f.two.2.1.inner
    rwa [show ts.map ((fun x : List Str × PyData => x.2) ∘ fun t => ([], t)) = ts from List.map_id _]
  | ch t cs _ _ _ =>
    rw [kids_ch]
    obtain ⟨a, b, l, f1, f2⟩ := f.inner.unc
    obtain ⟨a2, b2, l2, f3, f4⟩ := f2.unc
    obtain ⟨a3, b3, l3, f5, f6⟩ := f4.unc
    have g2 := FitAll.fmap (fun c => (caseD c).2) (fun d hd => by
      obtain ⟨c, _, rfl⟩ := List.mem_map.mp hd
      intro n m q
      exact q.two.2.1) f5.inner
    rw [List.map_map] at g2
    show FitAll w m (_ :: (cs.map (·.2)).map (·.2))
    rw [List.map_map]
    exact (FitAll.cons f3 g2).le (by omega) (Nat.le_refl _)
theorem kidsS_len {d : PyData} (h : Sh d) : (kids d).length ≤ 7 := by
  cases h with
  | name x _ => exact Nat.zero_le _
  | «at» x _ => exact Nat.zero_le _
  | lam x kk t _ _ => show 1 ≤ 7; omega
  | two s t u hs => rw [kids_two _ _ hs]; show 2 ≤ 7; omega
  | five s x y t u hs _ _ _ => show 2 ≤ 7; omega
  | mk c ts _ h4 => rw [kids_mk, List.length_map]; omega
  | ch t cs _ h6 _ => rw [kids_ch, List.length_cons, List.length_map]; omega
def addO : Option Nat → Option Nat → Option Nat
  | some a, some b => some (a + b)
  | _, _ => none
def sumO : List (Option Nat) → Option Nat
  | [] => some 0
  | x :: xs => addO x (sumO xs)
theorem addO_assoc (a b c : Option Nat) : addO (addO a b) c = addO a (addO b c) := by
  cases a <;> cases b <;> cases c <;> simp [addO, Nat.add_assoc]
theorem addO_zero (a : Option Nat) : addO (some 0) a = a := by cases a <;> simp [addO]
theorem addO_none (a : Option Nat) : addO a none = none := by cases a <;> rfl
theorem sumO_app (xs ys : List (Option Nat)) : sumO (xs ++ ys) = addO (sumO xs) (sumO ys) := by
  induction xs with
  | nil => exact (addO_zero _).symm
  | cons x xs ih =>
    show addO x (sumO (xs ++ ys)) = addO (addO x (sumO xs)) (sumO ys)
    rw [ih, addO_assoc]
def sizedD : Nat → PyData → Option Nat
  | 0, _ => none
  | n + 1, d => if formedD d = true then addO (some 1) (sumO ((kids d).map fun k => sizedD n k.2)) else none
def upTo (n : Nat) : Option Nat → Bool
  | some k => decide (k ≤ n)
  | none => false
def termD (d : PyData) : Bool := upTo 200 (sizedD 30 d)
theorem sized_pos : ∀ {n : Nat} {d : PyData} {k : Nat}, sizedD n d = some k → 1 ≤ k
  | n + 1, d, k, h => by
    rw [sizedD] at h
    split at h
    · cases e : sumO ((kids d).map fun k => sizedD n k.2) with
      | none =>
        rw [e] at h
        cases h
      | some j =>
        rw [e] at h
        cases h
        omega
    · cases h
/-! rows that answer to a list, one by one -/
inductive AP {α : Type} (R : V → α → Prop) : List V → List α → Prop
  | nil : AP R [] []
  | cons {u : V} {us : List V} {q : α} {qs : List α} : R u q → AP R us qs → AP R (u :: us) (q :: qs)
section
variable {α : Type} {R S : V → α → Prop}
theorem AP.mono (h : ∀ u q, R u q → S u q) : ∀ {us : List V} {qs : List α}, AP R us qs → AP S us qs
  | _, _, .nil => .nil
  | _, _, .cons a b => .cons (h _ _ a) (b.mono h)
theorem AP.append : ∀ {us vs : List V} {qs rs : List α}, AP R us qs → AP R vs rs → AP R (us ++ vs) (qs ++ rs)
  | _, _, _, _, .nil, h => h
  | _, _, _, _, .cons a b, h => .cons a (b.append h)
theorem AP.length : ∀ {us : List V} {qs : List α}, AP R us qs → us.length = qs.length
  | _, _, .nil => rfl
  | _, _, .cons a b => by rw [List.length_cons, List.length_cons, b.length]
theorem AP.get : ∀ {us : List V} {qs : List α}, AP R us qs → ∀ {i : Nat} {u : V}, us[i]? = some u → ∃ q, qs[i]? = some q ∧ R u q
  | _, _, .nil, i, u, e => by cases e
  | _, _, .cons a b, 0, u, e => by
    cases e
    exact ⟨_, rfl, a⟩
  | _, _, .cons a b, i + 1, u, e => b.get (i := i) e
theorem AP.nil_of {us : List V} (h : AP R us []) : us = [] := by
  cases h
  rfl
theorem AP.snoc {qs : List α} {q : α} : ∀ {us : List V}, AP R us (qs ++ [q]) → ∃ vs u, us = vs ++ [u] ∧ AP R vs qs ∧ R u q := by
  induction qs with
  | nil =>
    intro us h
    cases h with
    | cons a b =>
      cases b
      exact ⟨[], _, rfl, .nil, a⟩
  | cons e qs ih =>
    intro us h
    cases h with
    | cons a b =>
      obtain ⟨vs, u, rfl, h1, h2⟩ := ih b
      exact ⟨_ :: vs, u, rfl, .cons a h1, h2⟩
end
/-- a row of the names that are given and of what stands within: this is read in the heap H0 -/
def KRow (K : PySem.W.Frag) (N : Addr → Prop) (H0 H : Hp) (u : V) (k : List Str × PyData) : Prop := ∃ (t n : Addr) (v : V), u = .ref t ∧ SqT K H t [.ref n, v] ∧ SqT K H n (k.1.map V.str) ∧ Da K N H0 v k.2
theorem KRow.ts {K : PySem.W.Frag} {N : Addr → Prop} {H0 H H' : Hp} (s : Ts K H H') (u : V) (k : List Str × PyData) (h : KRow K N H0 H u k) : KRow K N H0 H' u k := by
  obtain ⟨t, n, v, rfl, h1, h2, h3⟩ := h
  exact ⟨t, n, v, rfl, s _ _ h1, s _ _ h2, h3⟩
def spKidsS (K : PySem.W.Frag) : Sp := fun vs H Q _ => ∃ (N : Addr → Prop) (H0 : Hp) (v : V) (d : PyData), vs = [v] ∧ Same H0 H ∧ Da K N H0 v d ∧ Sh d ∧
  ∀ (L : Addr) (us : List V) (H' : Hp), Same H H' → H L = none → H' L = some (.lst us) → AP (KRow K N H0 H') us (kids d) → Q (.ref L) H'
def spUnlike (K : PySem.W.Frag) : Sp := fun vs H Q _ => ∃ (t : Addr) (xs : List Str), vs = [.ref t] ∧ (SqT K H t (xs.map V.str) ∨ SqL K H t (xs.map V.str)) ∧ xs.length ≤ 1000 ∧ Q (.bl (unlikeN xs)) H
def spOf (K : PySem.W.Frag) (f : PyData → Bool) : Sp := fun vs H Q _ => ∃ (N : Addr → Prop) (v : V) (d : PyData) (n m : Nat), vs = [v] ∧ Da K N H v d ∧ Fit n m d ∧ n ≤ 16000000 ∧ ∀ H', Same H H' → Q (.bl (f d)) H'
def spSlot (K : PySem.W.Frag) : Sp := fun vs H Q _ => ∃ (N : Addr → Prop) (s : Str) (v : V) (d : PyData) (n m : Nat), vs = [.str s, v] ∧ Da K N H v d ∧ Fit n m d ∧ n ≤ 16000000 ∧ ∀ H', Same H H' → Q (.bl (slotOk s d)) H'
/-- the table of forms, as the module keeps it -/
structure Forms (K : PySem.W.Frag) (w : World) (d : Addr) : Prop where
  dict : ∃ es n, KDict K w d es n
  no : ∀ z, formOf z = none → PySem.W.nsIn K d z = some none
  yes : ∀ z sl, formOf z = some sl → ∃ a, PySem.W.nsIn K d z = some (some (.ref a)) ∧ ∀ H, SqT K H a (sl.map V.str)
theorem acc_ap {K : PySem.W.Frag} {N : Addr → Prop} {H0 H : Hp} {D : Addr} {us : List V} {ks : List (List Str × PyData)} {y : V} {k : List Str × PyData} (e : H D = some (.lst us)) (h : AP (KRow K N H0 H) us ks) (g : KRow K N H0 H y k) :
    AP (KRow K N H0 (upd H D (.lst (us ++ [y])))) (us ++ [y]) (ks ++ [k]) := (h.append (.cons g .nil)).mono (KRow.ts (Ts.put e))
theorem AP.same {K : PySem.W.Frag} {N : Addr → Prop} {H0 H H' : Hp} {us : List V} {ks : List (List Str × PyData)} (h : AP (KRow K N H0 H) us ks) (s : Same H H') : AP (KRow K N H0 H') us ks := h.mono (KRow.ts (Ts.of s))
theorem KRow.same {K : PySem.W.Frag} {N : Addr → Prop} {H0 H H' : Hp} {u : V} {k : List Str × PyData} (h : KRow K N H0 H u k) (s : Same H H') : KRow K N H0 H' u k := h.ts (Ts.of s)
theorem krow {K : PySem.W.Frag} {N : Addr → Prop} {H0 H : Hp} {t n : Addr} {v : V} {d : PyData} {xs : List Str} (h : SqT K H t [.ref n, v]) (h1 : SqT K H n (xs.map V.str)) (h2 : Da K N H0 v d) : KRow K N H0 H (.ref t) (xs, d) := ⟨t, n, v, rfl, h, h1, h2⟩
theorem case_no {d : PyData} (h : isRowD d 3 3 = false) : caseOk d = false := by
  unfold caseOk
  split
  · simp [isRowD] at h
  · rfl
theorem case_yes (a b c : PyData) : caseOk (.tuple [a, b, c]) = (isNameD a && (isRowD b 0 4 && ((itD b).all isNameD && unlikeN ((itD b).map nmD)))) := by
  cases b with
  | tuple ns =>
    show (isNameD a && decide (ns.length ≤ 4) && ns.all isNameD && unlikeN (ns.map nmD)) = (isNameD a && (isRowD (.tuple ns) 0 4 && (ns.all isNameD && unlikeN (ns.map nmD))))
    have e : isRowD (.tuple ns) 0 4 = decide (ns.length ≤ 4) := by
      simp only [isRowD]
      by_cases h : ns.length ≤ 4
      · simp [h]; omega
      · simp [h]; omega
    rw [e]
    cases isNameD a <;> cases decide (ns.length ≤ 4) <;> cases ns.all isNameD <;> cases unlikeN (ns.map nmD) <;> rfl
  | _ => simp [caseOk, isRowD]
/-- a comprehension over a zip of two tuples of one length -/
theorem lc_zip2 {K : PySem.W.Frag} {a b : Addr} {xs ys : List V} {g : TG} {tt : TT} {te : TE} {vs : List Nat} {σ : L2.St} {H1 : Hp} {D : Addr} {Qd : Hp → Prop} (hl : xs.length = ys.length) (Pv : Nat → Hp → Prop) (h0 : Pv 0 (upd H1 D (.lst [])))
    (hq : ∀ i H, Pv i H → SqT K H a xs ∧ SqT K H b ys)
    (hs : ∀ i x y T H, xs[i]? = some x → ys[i]? = some y → Pv i H → H T = none → g (.ref T) (wipe σ vs) (upd H T (.tup [x, y])) fun σ2 H2 => wipe σ2 vs = wipe σ vs ∧ tt σ2 H2 fun b H3 =>
      if b = true then te σ2 H3 fun y H4 => ∃ acc, H4 D = some (.lst acc) ∧ acc.length < sizeLine ∧ Pv (i + 1) (upd H4 D (.lst (acc ++ [y]))) else Pv (i + 1) H3) (hd : ∀ H, Pv xs.length H → Qd H) : LcG (RZ.ItzT K a b) g tt te vs σ H1 D Qd := by
  refine ⟨fun i m H => m = xs.length - i ∧ i ≤ xs.length ∧ Pv i H, ⟨_, rfl, Nat.zero_le _, h0⟩, ?_⟩
  rintro i m H ⟨rfl, hi, p⟩
  obtain ⟨qx, qy⟩ := hq i H p
  by_cases lt : i < xs.length
  · refine .inr ⟨⟨xs, ys, xs[i], ys[i]'(hl ▸ lt), qx, qy, List.getElem?_eq_getElem lt, List.getElem?_eq_getElem (hl ▸ lt)⟩, Pv (i + 1), fun H' p' => ⟨xs.length - (i + 1), by omega, rfl, lt, p'⟩, fun v H' y => ?_⟩
    obtain ⟨T, x, z, rfl, hT, rfl, f1, f2⟩ := y
    exact hs i x z T H (f1 xs qx) (f2 ys qy) p hT
  · obtain rfl : i = xs.length := by omega
    exact .inl ⟨⟨xs, ys, qx, qy, .inl (Nat.le_refl _)⟩, hd H p⟩
theorem formed_no {d : PyData} (h1 : tyD d ≠ "str") (h2 : tyD d ≠ "tuple") : formedD d = false := by
  cases d with
  | str x => exact absurd rfl h1
  | tuple ds => exact absurd rfl h2
  | _ => rfl
theorem formed_nos {d : PyData} {r : List PyData} (h1 : tyD d ≠ "str") : formedD (.tuple (d :: r)) = false := by
  cases d with
  | str x => exact absurd rfl h1
  | _ => rfl
theorem formed_none {z : Str} {r : List PyData} (h : formOf z = none) : formedD (.tuple (.str z :: r)) = false := by rw [form_eq, h]
theorem formed_some {z : Str} {r : List PyData} {sl : List Str} (h : formOf z = some sl) : formedD (.tuple (.str z :: r)) = (decide (r.length = sl.length) && (sl.zip r).all (fun p => slotOk p.1 p.2) && (!decide (z ∈ m2) || !sameN r[1]? r[2]?)) := by rw [form_eq, h]
theorem form_len {z : Str} {sl : List Str} (h : formOf z = some sl) : sl.length ≤ 4 := by
  have hf := form_cases h
  simp only [formsL, List.mem_cons, List.not_mem_nil, or_false, Prod.mk.injEq] at hf
  rcases hf with ⟨rfl, rfl⟩ | ⟨rfl, rfl⟩ | ⟨rfl, rfl⟩ | ⟨rfl, rfl⟩ | ⟨rfl, rfl⟩ | ⟨rfl, rfl⟩ | ⟨rfl, rfl⟩ | ⟨rfl, rfl⟩ | ⟨rfl, rfl⟩ <;> decide
theorem form_m2 {z : Str} {sl : List Str} (h : formOf z = some sl) (hz : z ∈ m2) : sl = [sg "term", sg "name", sg "name", sg "term"] := by
  simp only [List.mem_cons, List.not_mem_nil, or_false] at hz
  rcases hz with rfl | rfl
  · have e : formOf (Str.ofString "/") = some [sg "term", sg "name", sg "name", sg "term"] := by decide +kernel
    rw [e] at h
    exact (Option.some.inj h).symm
  · have e : formOf (Str.ofString "+") = some [sg "term", sg "name", sg "name", sg "term"] := by decide +kernel
    rw [e] at h
    exact (Option.some.inj h).symm
theorem dec_intN {a b : Nat} : decide (V.int (a : Int) = V.int (b : Int)) = decide (a = b) := decide_eq_decide.mpr ⟨fun z => by
  injection z with z
  exact Int.ofNat.inj z, fun z => by rw [z]⟩
theorem at_zero {x : V} {xs : List V} : atI (x :: xs) 0 = some x := by
  have e : ixN (x :: xs).length 0 = some 0 := by
    unfold ixN
    rw [if_pos (by omega), if_pos (by rw [List.length_cons]; omega)]
    rfl
  show (ixN (x :: xs).length 0).bind _ = _
  rw [e]
  rfl
theorem cut_one (x : V) (xs : List V) : cutV (x :: xs) (some 1) none = xs := cut_drop (x :: xs) 1
theorem iteNF {c A B : Prop} [Decidable c] (hc : ¬ c) (h : A) : if (!decide c) = true then A else B := by
  rw [decide_eq_false hc]
  exact iteT h
theorem same_str {x y : Str} {r : List PyData} {d e : PyData} : sameN (d :: .str x :: .str y :: r)[1]? (d :: .str x :: .str y :: r)[2]? = decide (x = y) := by
  show decide (some x = some y) = _
  exact decide_eq_decide.mpr ⟨fun z => Option.some.inj z, fun z => by rw [z]⟩
theorem all_zip {sl : List Str} {r : List PyData} : ((sl.zip r).map fun p => slotOk p.1 p.2).all id = (sl.zip r).all fun p => slotOk p.1 p.2 := by
  rw [List.all_map]
  rfl
def okSum (many : Nat) (qs : List (PyData × Nat)) : Bool := upTo 200 (addO (some many) (sumO (qs.map fun q => sizedD (31 - q.2) q.1)))
theorem okSum_nil {many : Nat} (h : many ≤ 200) : okSum many [] = true := by
  show decide (many + 0 ≤ 200) = true
  exact decide_eq_true h
theorem okSum_one (d : PyData) : okSum 0 [(d, 1)] = termD d := by
  show upTo 200 (addO (some 0) (addO (sizedD 30 d) (some 0))) = upTo 200 (sizedD 30 d)
  rw [addO_zero]
  cases sizedD 30 d <;> rfl
theorem okSum_snoc (many : Nat) (qs : List (PyData × Nat)) (q : PyData × Nat) : okSum many (qs ++ [q]) = upTo 200 (addO (some many) (addO (sumO (qs.map fun q => sizedD (31 - q.2) q.1)) (sizedD (31 - q.2) q.1))) := by
  unfold okSum
  rw [List.map_append, sumO_app]
  show upTo 200 (addO _ (addO _ (addO (sizedD (31 - q.2) q.1) (some 0)))) = _
  have e : addO (sizedD (31 - q.2) q.1) (some 0) = sizedD (31 - q.2) q.1 := by cases sizedD (31 - q.2) q.1 <;> rfl
  rw [e]
theorem okSum_none {many : Nat} {qs : List (PyData × Nat)} {q : PyData × Nat} (h : sizedD (31 - q.2) q.1 = none) : okSum many (qs ++ [q]) = false := by
  rw [okSum_snoc, h, addO_none, addO_none]
  rfl
theorem okSum_full {many : Nat} {qs : List (PyData × Nat)} {q : PyData × Nat} (hm : 200 ≤ many) : okSum many (qs ++ [q]) = false := by
  cases h : sizedD (31 - q.2) q.1 with
  | none => exact okSum_none h
  | some k =>
    have := sized_pos h
    rw [okSum_snoc, h]
    cases sumO (qs.map fun q => sizedD (31 - q.2) q.1) with
    | none => rfl
    | some s =>
      show decide (many + (s + k) ≤ 200) = false
      exact decide_eq_false (by omega)
theorem okSum_step {many : Nat} {qs : List (PyData × Nat)} {q : PyData × Nat} (hf : formedD q.1 = true) (h30 : q.2 ≤ 30) : okSum (many + 1) (qs ++ (kids q.1).map fun k => (k.2, q.2 + 1)) = okSum many (qs ++ [q]) := by
  rw [okSum_snoc]
  have e : 31 - q.2 = (30 - q.2) + 1 := by omega
  rw [e, sizedD, if_pos hf]
  unfold okSum
  rw [List.map_append, sumO_app, List.map_map]
  have e2 : ((fun q : PyData × Nat => sizedD (31 - q.2) q.1) ∘ fun k : List Str × PyData => (k.2, q.2 + 1)) = fun k => sizedD (30 - q.2) k.2 := by
    funext k
    show sizedD (31 - (q.2 + 1)) k.2 = _
    rw [show 31 - (q.2 + 1) = 30 - q.2 by omega]
  rw [e2]
  cases sumO (qs.map fun q => sizedD (31 - q.2) q.1) with
  | none => rfl
  | some a =>
    cases sumO ((kids q.1).map fun k => sizedD (30 - q.2) k.2) with
    | none => rfl
    | some b =>
      show decide (many + 1 + (a + b) ≤ 200) = decide (many + (a + (1 + b)) ≤ 200)
      exact decide_eq_decide.mpr (by omega)
def RT (K : PySem.W.Frag) (N : Addr → Prop) (H0 H : Hp) (u : V) (q : PyData × Nat) : Prop := ∃ (t : Addr) (v : V), u = .ref t ∧ SqT K H t [v, .int (q.2 : Int)] ∧ Da K N H0 v q.1
theorem RT.ts {K : PySem.W.Frag} {N : Addr → Prop} {H0 H H' : Hp} (s : Ts K H H') (u : V) (q : PyData × Nat) (h : RT K N H0 H u q) : RT K N H0 H' u q := by
  obtain ⟨t, v, rfl, h1, h2⟩ := h
  exact ⟨t, v, rfl, s _ _ h1, h2⟩
def lunl (o : Int) : PyData → Bool
  | .tuple ds => decide ((ds.length : Int) ≤ o) && (ds.all isNameD && unlikeN (ds.map nmD))
  | _ => false
theorem lunl_no {o : Int} {d : PyData} (h : tyD d ≠ "tuple") : lunl o d = false := by
  cases d with
  | tuple ds => exact absurd rfl h
  | _ => rfl
def spLUnlike (K : PySem.W.Frag) : Sp := fun vs H Q _ => ∃ (N : Addr → Prop) (v : V) (d : PyData) (n m : Nat) (o : Int), vs = [v, .int o] ∧ Da K N H v d ∧ Fit n m d ∧ n ≤ 16000000 ∧ o ≤ 100 ∧ ∀ H', Same H H' → Q (.bl (lunl o d)) H'
def oV : Option Nat → V
  | none => .non
  | some k => .int k
def spSizes : Sp := fun vs H Q _ => ∃ (a : Addr) (os : List (Option Nat)), vs = [.ref a] ∧ H a = some (.lst (os.map oV)) ∧ os.length ≤ 1000 ∧ Q (oV (sumO os)) H
def spSized (K : PySem.W.Frag) (k : Nat) : Sp := fun vs H Q _ => ∃ (N : Addr → Prop) (v : V) (d : PyData) (n m : Nat) (z : Int), vs = [v, .int z] ∧ z = (k : Int) ∧ Da K N H v d ∧ Fit n m d ∧ n ≤ 8000000 ∧ ∀ H', Same H H' → Q (oV (sizedD k d)) H'
theorem sizes_in (os : List (Option Nat)) : (inV .non (os.map oV) = true ∧ sumO os = none) ∨ (inV .non (os.map oV) = false ∧ ∃ ns : List Nat, os.map oV = (ns.map Int.ofNat).map V.int ∧ sumO os = some ns.sum) := by
  induction os with
  | nil => exact .inr ⟨rfl, [], rfl, rfl⟩
  | cons o os ih =>
    cases o with
    | none => exact .inl ⟨rfl, rfl⟩
    | some k =>
      rcases ih with ⟨h1, h2⟩ | ⟨h1, ns, h2, h3⟩
      · refine .inl ⟨?_, ?_⟩
        · show (false || inV .non (os.map oV)) = true
          rw [h1]
          rfl
        · show addO (some k) (sumO os) = none
          rw [h2]
          rfl
      · refine .inr ⟨?_, k :: ns, ?_, ?_⟩
        · show (false || inV .non (os.map oV)) = false
          rw [h1]
          rfl
        · rw [List.map_cons, h2]
          rfl
        · show addO (some k) (sumO os) = _
          rw [h3, List.sum_cons]
          rfl
theorem flat_oV (os : List (Option Nat)) : (os.map oV).all flatV = true := by
  rw [List.all_map, List.all_eq_true]
  intro o _
  cases o <;> rfl
theorem sum_cast (ns : List Nat) : (ns.map Int.ofNat).sum = (ns.sum : Int) := by
  induction ns with
  | nil => rfl
  | cons n ns ih =>
    rw [List.map_cons, List.sum_cons, List.sum_cons, ih]
    exact (Int.natCast_add n ns.sum).symm
def rLenS (K : PySem.W.Frag) : List V → Hp → VK → Prop := fun xs H Q => ∃ p ys, xs = [V.ref p] ∧ (SqL K H p ys ∨ SqT K H p ys) ∧ Q (.int ys.length) H
theorem lenK {X : Cx} {K : PySem.W.Frag} (h : X.K = K) : CallR X (.builtin "len") (rLenS K) := h ▸ call_len_seq
end Ow

/-! Forms, sign by sign. -/
namespace Ow
open PySem PySem.Spec PyProof.Rows L2
theorem fd_len {s : Str} {r : List PyData} {sl : List Str} (h : formOf s = some sl) (hl : r.length ≠ sl.length) : formedD (.tuple (.str s :: r)) = false := by
  rw [formed_some h, decide_eq_false hl]
  rfl
theorem f_at : formOf (Str.ofString "@") = some [sg "name"] := by decide +kernel
theorem f_lam : formOf (Str.ofString "^") = some [sg "name", sg "kind", sg "term"] := by decide +kernel
theorem f_mk : formOf (Str.ofString "#") = some [sg "name", sg "terms"] := by decide +kernel
theorem f_ch : formOf (Str.ofString "?") = some [sg "term", sg "cases"] := by decide +kernel
theorem f_two {s : Str} (h : s ∈ m3) : formOf s = some [sg "term", sg "term"] := by
  simp only [List.mem_cons, List.not_mem_nil, or_false] at h
  rcases h with rfl | rfl | rfl <;> decide +kernel
theorem f_five {s : Str} (h : s ∈ m2) : formOf s = some [sg "term", sg "name", sg "name", sg "term"] := by
  simp only [List.mem_cons, List.not_mem_nil, or_false] at h
  rcases h with rfl | rfl <;> decide +kernel
theorem fd_at (a : PyData) : formedD (.tuple [.str (Str.ofString "@"), a]) = isNameD a := by
  rw [formed_some f_at, decide_eq_true (by rfl), decide_eq_false (by decide +kernel)]
  simp only [List.zip_cons_cons, List.zip_nil_left, List.all_cons, List.all_nil, slot_name, Bool.and_true, Bool.true_and, Bool.not_false, Bool.true_or]
theorem fd_lam (x k t : PyData) : formedD (.tuple [.str (Str.ofString "^"), x, k, t]) = (isNameD x && kindW 6 k) := by
  rw [formed_some f_lam, decide_eq_true (by rfl), decide_eq_false (by decide +kernel)]
  simp only [List.zip_cons_cons, List.zip_nil_left, List.all_cons, List.all_nil, slot_name, slot_kind, slot_term, Bool.and_true, Bool.true_and, Bool.not_false, Bool.true_or]
theorem fd_two {s : Str} (h : s ∈ m3) (t u : PyData) : formedD (.tuple [.str s, t, u]) = true := by
  have g : s ∉ m2 := by
    simp only [List.mem_cons, List.not_mem_nil, or_false] at h
    rcases h with rfl | rfl | rfl <;> decide +kernel
  rw [formed_some (f_two h), decide_eq_true (by rfl), decide_eq_false g]
  simp only [List.zip_cons_cons, List.zip_nil_left, List.all_cons, List.all_nil, slot_term, Bool.and_true, Bool.true_and, Bool.not_false, Bool.true_or]
theorem fd_mk (c ts : PyData) : formedD (.tuple [.str (Str.ofString "#"), c, ts]) = (isNameD c && isRowD ts 0 4) := by
  rw [formed_some f_mk, decide_eq_true (by rfl), decide_eq_false (by decide +kernel)]
  simp only [List.zip_cons_cons, List.zip_nil_left, List.all_cons, List.all_nil, slot_name, slot_terms, Bool.and_true, Bool.true_and, Bool.not_false, Bool.true_or]
theorem fd_ch (t cs : PyData) : formedD (.tuple [.str (Str.ofString "?"), t, cs]) = (isRowD cs 1 6 && (itD cs).all caseOk) := by
  rw [formed_some f_ch, decide_eq_true (by rfl), decide_eq_false (by decide +kernel)]
  simp only [List.zip_cons_cons, List.zip_nil_left, List.all_cons, List.all_nil, slot_cases, slot_term, Bool.and_true, Bool.true_and, Bool.not_false, Bool.true_or]
theorem unlike2 (a b : Str) : unlikeN [a, b] = !decide (a = b) := by
  unfold unlikeN
  show decide ((if b ∈ [a] then [a] else [a] ++ [b]).length = 2) = _
  by_cases h : a = b
  · subst h
    rw [if_pos (by simp), decide_eq_true (rfl : a = a)]
    rfl
  · rw [if_neg (by simp; exact fun e => h e.symm), decide_eq_false h]
    rfl
theorem fd_five {s : Str} (h : s ∈ m2) (t x y u : PyData) : formedD (.tuple [.str s, t, x, y, u]) = lunl 2 (.tuple [x, y]) := by
  rw [formed_some (f_five h), decide_eq_true (by rfl), decide_eq_true h]
  simp only [List.zip_cons_cons, List.zip_nil_left, List.all_cons, List.all_nil, slot_name, slot_term, Bool.and_true, Bool.true_and, Bool.not_true, Bool.false_or]
  show _ = (decide ((([x, y] : List PyData).length : Int) ≤ 2) && ((isNameD x && (isNameD y && true)) && unlikeN [nmD x, nmD y]))
  rw [decide_eq_true (show (([x, y] : List PyData).length : Int) ≤ 2 from Int.le_refl _), Bool.true_and, unlike2, Bool.and_true]
  show (isNameD x && isNameD y && !decide (some (nmD x) = some (nmD y))) = _
  congr 2
  exact decide_eq_decide.mpr ⟨fun z => Option.some.inj z, fun z => by rw [z]⟩
abbrev S6 : List Str := [Str.ofString "?", Str.ofString "#", Str.ofString "/", Str.ofString "+", Str.ofString "!", Str.ofString "&", Str.ofString "-", Str.ofString "^", Str.ofString "@"]
theorem form_not {s : Str} (h : s ∉ S6) : formOf s = none := by
  cases e : formOf s with
  | none => rfl
  | some sl =>
    have hf := form_cases e
    simp only [formsL, List.mem_cons, List.not_mem_nil, or_false, Prod.mk.injEq] at hf
    refine absurd ?_ h
    simp only [S6, List.mem_cons, List.not_mem_nil, or_false]
    rcases hf with ⟨rfl, _⟩ | ⟨rfl, _⟩ | ⟨rfl, _⟩ | ⟨rfl, _⟩ | ⟨rfl, _⟩ | ⟨rfl, _⟩ | ⟨rfl, _⟩ | ⟨rfl, _⟩ | ⟨rfl, _⟩ <;> simp
theorem sized_no {n : Nat} {d : PyData} (h : formedD d = false) : sizedD n d = none := by
  cases n with
  | zero => rfl
  | succ n =>
    rw [sizedD, if_neg (by rw [h]; exact Bool.false_ne_true)]
theorem sized_name {n : Nat} {d : PyData} (h : isNameD d = true) : sizedD (n + 1) d = some 1 := by
  obtain ⟨x, rfl⟩ := name_str h
  rw [sizedD, if_pos (show formedD (.str x) = true from h)]
  rfl
/-- what stands within, as the law's list of it, or None -/
def Res (K : PySem.W.Frag) (N : Addr → Prop) (d : PyData) (H' : Hp) (vi : V) : Prop := (formedD d = false ∧ vi = .non) ∨ (formedD d = true ∧ ∃ (L : Addr) (us : List V), vi = .ref L ∧ H' L = some (.lst us) ∧ DaAll K N H' us ((kids d).map (·.2)))
def MidS (K : PySem.W.Frag) (N : Addr → Prop) (H : Hp) (S : List Str) (v : V) (z : Int) (s : Str) (o : Nat) (d : PyData) (σ : L2.St) (H' : Hp) : Prop :=
  ∃ (vi : V) (v5 v6 : Option V), σ = [some v, some (.int z), some (.str s), some (.int o), some vi, v5, v6, none] ∧ Same H H' ∧ (s ∈ S → Res K N d H' vi) ∧ (s ∉ S → vi = .non)
theorem Res.same {K : PySem.W.Frag} {N : Addr → Prop} {d : PyData} {H H' : Hp} {vi : V} (s : Same H H') (h : Res K N d H vi) : Res K N d H' vi := by
  rcases h with h | ⟨h, L, us, rfl, e1, e2⟩
  · exact .inl h
  · exact .inr ⟨h, L, us, rfl, s _ _ e1, e2.same s⟩
theorem MidS.skip {K : PySem.W.Frag} {N : Addr → Prop} {H : Hp} {S S' : List Str} {v : V} {z : Int} {s : Str} {o : Nat} {d : PyData} {H' H'' : Hp} {vi : V} {v5 v6 : Option V} (sH : Same H H') (hin : s ∈ S → Res K N d H' vi) (hout : s ∉ S → vi = .non) (sm : Same H' H'') (g : s ∈ S' → s ∈ S) (g' : s ∈ S → s ∈ S') :
    MidS K N H S' v z s o d [some v, some (.int z), some (.str s), some (.int o), some vi, v5, v6, none] H'' :=
  ⟨vi, v5, v6, rfl, sH.trans sm, fun h => (hin (g h)).same sm, fun h => hout fun z => h (g' z)⟩
theorem MidS.no {K : PySem.W.Frag} {N : Addr → Prop} {H : Hp} {S' : List Str} {v : V} {z : Int} {s : Str} {o : Nat} {d : PyData} {H'' : Hp} {vi : V} {v5 v6 : Option V} (sH : Same H H'') (hv : vi = .non) (hf : formedD d = false) :
    MidS K N H S' v z s o d [some v, some (.int z), some (.str s), some (.int o), some vi, v5, v6, none] H'' :=
  ⟨vi, v5, v6, rfl, sH, fun _ => .inl ⟨hf, hv⟩, fun _ => hv⟩
theorem MidS.yes {K : PySem.W.Frag} {N : Addr → Prop} {H : Hp} {S' : List Str} {v : V} {z : Int} {s : Str} {o : Nat} {d : PyData} {H'' : Hp} {L : Addr} {us : List V} {v5 v6 : Option V} (sH : Same H H'') (hs : s ∈ S') (hf : formedD d = true) (e : H'' L = some (.lst us)) (g : DaAll K N H'' us ((kids d).map (·.2))) :
    MidS K N H S' v z s o d [some v, some (.int z), some (.str s), some (.int o), some (.ref L), v5, v6, none] H'' :=
  ⟨.ref L, v5, v6, rfl, sH, fun _ => .inr ⟨hf, L, us, rfl, e, g⟩, fun h => absurd hs h⟩
theorem iteD {c A B : Prop} [Decidable c] (hc : c) (h : A) : if decide c = true then A else B := by
  rw [decide_eq_true hc]
  exact iteT h
theorem iteDN {c A B : Prop} [Decidable c] (hc : ¬ c) (h : B) : if decide c = true then A else B := by
  rw [decide_eq_false hc]
  exact iteF h
theorem len_ne {x : V} {ys : List V} {r : List PyData} {k j : Nat} (hl : ys.length = r.length) (hr : r.length ≠ k) (e : j = k + 1) : ¬ V.int (((x :: ys).length : Nat) : Int) = V.int (j : Int) := fun z => by
  injection z with z
  rw [List.length_cons] at z
  omega
theorem row_no {d : PyData} {a b : Int} (h : tyD d ≠ "tuple") : isRowD d a b = false := by
  cases d with
  | tuple ds => exact absurd rfl h
  | _ => rfl
theorem row_is (ts : List PyData) (a b : Int) : isRowD (.tuple ts) a b = decide (a ≤ (ts.length : Int) ∧ (ts.length : Int) ≤ b) := by
  simp [isRowD]
theorem row_big {ts : List PyData} {a b : Int} (h : ¬ ((ts.length : Int) ≤ b)) : isRowD (.tuple ts) a b = false := by
  rw [row_is]
  exact decide_eq_false fun z => h z.2
theorem row_ok {ts : List PyData} {a b : Int} (h : a ≤ (ts.length : Int)) (h2 : (ts.length : Int) ≤ b) : isRowD (.tuple ts) a b = true := by
  rw [row_is]
  exact decide_eq_true ⟨h, h2⟩
theorem case_lunl (a b c : PyData) : caseOk (.tuple [a, b, c]) = (isNameD a && lunl 4 b) := by
  rw [case_yes]
  cases b with
  | tuple ns =>
    rw [row_is]
    show _ = (isNameD a && (decide ((ns.length : Int) ≤ 4) && (ns.all isNameD && unlikeN (ns.map nmD))))
    rw [show decide ((0 : Int) ≤ (ns.length : Int) ∧ (ns.length : Int) ≤ 4) = decide ((ns.length : Int) ≤ 4) from decide_eq_decide.mpr ⟨fun z => z.2, fun z => ⟨by omega, z⟩⟩]
    rfl
  | _ => rfl
theorem rows_no {ts : List PyData} (h : ts.all (fun d => isRowD d 3 3) = false) : ts.all caseOk = false := by
  cases e : ts.all caseOk with
  | false => rfl
  | true =>
    rw [List.all_eq_true] at e
    have : ts.all (fun d => isRowD d 3 3) = true := by
      rw [List.all_eq_true]
      intro d hd
      cases hr : isRowD d 3 3 with
      | true => rfl
      | false =>
        have := e d hd
        rw [case_no hr] at this
        exact this
    rw [this] at h
    exact h
theorem row_len (ys : List PyData) : decide (V.int ((ys.length : Nat) : Int) = V.int 3) = isRowD (.tuple ys) 3 3 := by
  rw [row_is]
  exact decide_eq_decide.mpr ⟨fun z => by
    injection z with z
    omega, fun z => by
    have : (ys.length : Int) = 3 := by omega
    rw [this]⟩
theorem kids_all {t : PyData} {ts : List PyData} (h : ts.all caseOk = true) : (kids (.tuple [.str (Str.ofString "?"), t, .tuple ts])).map (·.2) = t :: ts.map fun c => (caseD c).2 := by
  obtain ⟨cs, rfl, _⟩ := cases_of h
  rw [kids_ch, List.map_cons, List.map_map, List.map_map]
  rfl
/-- drawn data: at most so large for each of so many -/
def spWide (K : PySem.W.Frag) (n : Nat) : Sp := fun vs H Q _ => ∃ (p c : Addr) (z : Nat), vs = [.ref p, .int z] ∧ 1 ≤ z ∧ z < 2 ^ n ∧ z ≤ 201 ∧ Pen H p c ∧
  ∀ (v : V) (d : PyData) (H' : Hp), Da K All H' v d → Fit (400 * z) (4 * n) d → Pen H' p c → Kp p H H' → Q v H'
def spDeep (K : PySem.W.Frag) : Sp := fun vs H Q _ => ∃ (p c : Addr) (z : Int), vs = [.ref p, .int z] ∧ 1 ≤ z ∧ z ≤ 31 ∧ Pen H p c ∧
  ∀ (v : V) (d : PyData) (H' : Hp), Da K All H' v d → Fit 20000 95 d → Pen H' p c → Kp p H H' → Q v H'
def spOf8 (K : PySem.W.Frag) (f : PyData → Bool) : Sp := fun vs H Q _ => ∃ (N : Addr → Prop) (v : V) (d : PyData) (n m : Nat), vs = [v] ∧ Da K N H v d ∧ Fit n m d ∧ n ≤ 8000000 ∧ ∀ H', Same H H' → Q (.bl (f d)) H'
def EntAt (K : PySem.W.Frag) (e : DictEntry) (p : Str × List Str) : Prop := (∃ t, e.key = .str p.1 t) ∧ ∃ (a : Addr) (o : Obj) (its : Array Value) (n : Nat), e.val = .ref a ∧ K.lookup a = some o ∧ o.cls = .type "tuple" ∧ o.data = .seq its n ∧ its.size ≤ sizeLine ∧ Vals (p.2.map V.str) its.toList
def EntsAt (K : PySem.W.Frag) : List DictEntry → List (Str × List Str) → Prop
  | [], [] => True
  | e :: es, p :: ps => EntAt' K e p (EntsAt K es ps)
  | _, _ => False
where EntAt' (K : PySem.W.Frag) (e : DictEntry) (p : Str × List Str) (R : Prop) : Prop := (∃ t, e.key = .str p.1 t) ∧ (∃ (a : Addr) (o : Obj) (its : Array Value) (n : Nat), e.val = .ref a ∧ K.lookup a = some o ∧ o.cls = .type "tuple" ∧ o.data = .seq its n ∧ its.size ≤ sizeLine ∧ Vals (p.2.map V.str) its.toList) ∧ R
theorem ents_find {K : PySem.W.Frag} (z : Str) : ∀ {es : List DictEntry} {ps : List (Str × List Str)}, EntsAt K es ps → es.any (·.refKey) = false ∧
    ((ps.find? (fun p => decide (p.1 = z)) = none ∧ es.find? (·.key.isStr z) = none) ∨ ∃ p e, ps.find? (fun p => decide (p.1 = z)) = some p ∧ es.find? (·.key.isStr z) = some e ∧ EntAt K e p)
  | [], [], _ => ⟨rfl, .inl ⟨rfl, rfl⟩⟩
  | e :: es, p :: ps, ⟨⟨t, hk⟩, hv, hr⟩ => by
    obtain ⟨h1, h2⟩ := ents_find z hr
    have rk : e.refKey = false := by simp [DictEntry.refKey, hk]
    have ks : e.key.isStr z = decide (p.1 = z) := by
      rw [hk]
      show (p.1 == z) = decide (p.1 = z)
      by_cases c : p.1 = z
      · rw [decide_eq_true c, c]
        exact beq_self_eq_true z
      · rw [decide_eq_false c]
        exact beq_eq_false_iff_ne.mpr c
    refine ⟨by rw [List.any_cons, rk, h1]; rfl, ?_⟩
    by_cases c : p.1 = z
    · refine .inr ⟨p, e, ?_, ?_, ⟨t, hk⟩, hv⟩
      · rw [List.find?_cons, decide_eq_true c]
      · rw [List.find?_cons, ks, decide_eq_true c]
    · rw [List.find?_cons, decide_eq_false c, List.find?_cons, ks, decide_eq_false c]
      exact h2
theorem forms_mk {K : PySem.W.Frag} {w : World} {d : Addr} {es : Array DictEntry} {n : Nat} (at_ : K.lookup d = some ⟨.type "dict", none, .dict es n, #[]⟩) (lit : PySem.W.KeysLit w.params es.toList) (low : (d == sysModules) = false) (ents : EntsAt K es.toList formsL) : Forms K w d where
  dict := ⟨es, n, at_, lit, low⟩
  no z h := by
    obtain ⟨h1, h2 | ⟨p, e, h2, _⟩⟩ := ents_find z ents
    · unfold PySem.W.nsIn
      rw [at_]
      dsimp only
      rw [h2.2, h1]
      rfl
    · unfold formOf at h
      rw [h2] at h
      cases h
  yes z sl h := by
    obtain ⟨h1, h2 | ⟨p, e, h2, h3, _, a, o, its, m, hv, hl, hc, hd, hs, hV⟩⟩ := ents_find z ents
    · unfold formOf at h
      rw [h2.1] at h
      cases h
    · unfold formOf at h
      rw [h2] at h
      obtain rfl := Option.some.inj h
      refine ⟨a, ?_, fun H => .inr ⟨o, its, m, hl, hc, hd, hs, hV⟩⟩
      unfold PySem.W.nsIn
      rw [at_]
      dsimp only
      rw [h3]
      dsimp only
      rw [hv]
theorem ent_mk {K : PySem.W.Frag} {v : Value} {a : Addr} {its : Array Value} {n : Nat} {dd : Option Addr} {sl : Array (Option Value)} {xs : List Str} (hv : v = .ref a) (hl : K.lookup a = some ⟨.type "tuple", dd, .seq its n, sl⟩) (hs : its.size ≤ sizeLine) (hV : Vals (xs.map V.str) its.toList) :
    ∃ (a : Addr) (o : Obj) (its : Array Value) (n : Nat), v = .ref a ∧ K.lookup a = some o ∧ o.cls = .type "tuple" ∧ o.data = .seq its n ∧ its.size ≤ sizeLine ∧ Vals (xs.map V.str) its.toList := ⟨a, _, its, n, hv, hl, rfl, rfl, hs, hV⟩
end Ow

/-! What a program's rows are, over any data. -/
namespace Ow
open PySem PySem.Spec PyProof.Rows L2
def makerOk : PyData → Bool
  | .tuple [m, fs] => isNameD m && (isRowD fs 0 4 && (itD fs).all isNameD)
  | _ => false
def dataOk : PyData → Bool
  | .tuple [s, ms] => isNameD s && (isRowD ms 1 6 && (itD ms).all makerOk)
  | _ => false
def defOk : PyData → Bool
  | .tuple [n, k, t] => isNameD n && (kindW 6 k && termD t)
  | _ => false
def defName : PyData → Str
  | .tuple [n, _, _] => nmD n
  | _ => sg ""
def defsOk (d : PyData) : Bool := isRowD d 0 16 && ((itD d).all defOk && unlikeN ((itD d).map defName))
theorem row2 {d : PyData} (h : isRowD d 2 2 = true) : ∃ a b, d = .tuple [a, b] := by
  obtain ⟨ds, rfl, h1, h2⟩ := row_tup h
  obtain ⟨a, b, rfl⟩ := len2 (r := ds) (by omega)
  exact ⟨a, b, rfl⟩
theorem maker_no {d : PyData} (h : isRowD d 2 2 = false) : makerOk d = false := by
  unfold makerOk
  split
  · simp [isRowD] at h
  · rfl
theorem data_no {d : PyData} (h : isRowD d 2 2 = false) : dataOk d = false := by
  unfold dataOk
  split
  · simp [isRowD] at h
  · rfl
theorem def_no {d : PyData} (h : isRowD d 3 3 = false) : defOk d = false := by
  unfold defOk
  split
  · simp [isRowD] at h
  · rfl
theorem fit2 {n m : Nat} {a b : PyData} (f : Fit n m (.tuple [a, b])) : Fit n m a ∧ Fit n m b := ⟨f.inner.mem (by simp), f.inner.mem (by simp)⟩
theorem fit3' {n m : Nat} {a b c : PyData} (f : Fit n m (.tuple [a, b, c])) : Fit n m a ∧ Fit n m b ∧ Fit n m c := ⟨f.inner.mem (by simp), f.inner.mem (by simp), f.inner.mem (by simp)⟩
theorem all_id (g : PyData → Bool) (ns : List PyData) : (ns.map g).all id = ns.all g := by
  rw [List.all_map]
  rfl
end Ow

/-! Comprehensions of any number of clauses. -/
namespace Ow
open PySem PySem.Spec PyProof.Rows L2
/-- a clause, as its rules see it; its names, those of the later ones among them -/
structure Cls where
  tg : Expr
  iter : Expr
  ifs : List Expr
  wi : TI
  g : TG
  tt : TT
  vs : List Nat
def Cls.syn (c : Cls) : Comprehension := ⟨c.tg, c.iter, c.ifs, 0⟩
structure Cls.Ok (Y : Cx) (c : Cls) : Prop where
  pi : PI Y c.tg c.iter c.wi
  pg : PG Y c.tg c.g
  pt : PTs Y c.ifs c.tt
  fold : ∀ env x, foldedSetIterable c.iter env x = pure x
def topVs : List Cls → List Nat
  | [] => []
  | c :: _ => c.vs
def NestVs : List Cls → Prop
  | [] => True
  | c :: cs => (∀ i ∈ topVs cs, i ∈ c.vs) ∧ NestVs cs
/-- behind a turn's tests: the clauses that are left, then the element, put behind what the list at D has -/
def tDeep (D : Addr) (te : TE) : List Cls → L2.St → Hp → (Hp → Prop) → Prop
  | [], σ, H, Z => te σ H fun y H1 => ∃ acc, H1 D = some (.lst acc) ∧ acc.length < sizeLine ∧ Z (upd H1 D (.lst (acc ++ [y])))
  | c :: cs, σ, H, Z => c.wi σ H fun J H1 => ∃ W : Nat → Nat → Hp → Prop, (∃ m, W 0 m H1) ∧ ∀ j m H, W j m H →
      (J.stop j H ∧ Z H) ∨ (J.go j H ∧ ∃ Y : Hp → Prop, (∀ H', Y H' → ∃ m', m' < m ∧ W (j + 1) m' H') ∧ ∀ x H', J.yld j H x H' →
        c.g x (wipe σ c.vs) H' fun σ2 H2 => wipe σ2 c.vs = wipe σ c.vs ∧ c.tt σ2 H2 fun b H3 => if b = true then tDeep D te cs σ2 H3 Y else Y H3)
section
variable {prog : Program} {w : World} {A : Around} {R : Result → Shared → Prop} {s : Shared} {elt : Expr} {gens : List Comprehension} {scope : Scope} {pos : Pos} {it acc : Value} {env : Env}
/-- what is asked behind the tests of the clause ahead of d -/
def Bhd (prog : Program) (w : World) (A : Around) (elt : Expr) (gens : List Comprehension) (scope : Scope) (pos : Pos) (acc : Value) (env : Env) (d : Nat) (post : Shared → Prop) (s : Shared) : Prop :=
  match gens[d]? with
  | none => wpAny (model prog w) A (eval elt env) (fun x z => wpAny (model prog w) A (call (.builtin "list.append") [acc, x]) (fun _ z' => post z') (fun _ _ => False) z) (fun _ _ => False) s
  | some c => c.is_async = 0 ∧ (∀ x, foldedSetIterable c.iter env x = pure x) ∧ wpAny (model prog w) A (eval c.iter env) (fun x z => wpAny (model prog w) A (pyIter x) (fun i z' =>
      codeAny (model prog w) A (.compStart (.ListComp elt gens scope pos) d i acc env) (fun r y => match r with | .ok _ => post y | .error _ => False) z') (fun _ _ => False) z) (fun _ _ => False) s
/-- a turn's tests -/
def tests (ifs : List Expr) (env : Env) : Sem Bool := forIn ifs true fun c r => if r = true then do let ok ← isTrue c env (eval c env); pure (ForInStep.yield ok) else pure (ForInStep.yield r)
theorem loop_at {d : Nat} {t i : Expr} {ifs : List Expr} (hg : gens[d]? = some ⟨t, i, ifs, 0⟩) (I : Nat → Shared → Prop)
    (turn : ∀ n z, I n z → wpAny (model prog w) A (pyNext it) (fun r z1 => match r with
      | none => R (.ok .next) z1
      | some v => wpAny (model prog w) A (letOwnedTupleGo t it v) (fun _ z2 => wpAny (model prog w) A (assign t env v) (fun _ z3 => wpAny (model prog w) A (tests ifs env) (fun ok z4 =>
          if ok = true then Bhd prog w A elt gens scope pos acc env (d + 1) (fun z5 => ∃ m, m < n ∧ I m z5) z4 else ∃ m, m < n ∧ I m z4) (fun _ _ => False) z3) (fun _ _ => False) z2) (fun _ _ => False) z1) (fun _ _ => False) z)
    (n : Nat) (h : I n s) : codeAny (model prog w) A (.compLoop (.ListComp elt gens scope pos) d it acc env) R s := by
  refine codeAny_loop rfl I (fun n z hI => ?_) n h
  show wpAny _ A ((compTurn (.ListComp elt gens scope pos) d it acc env).onRaise (fun x => do noteFrame x env; theTreesLotGoes x)) _ _ z
  refine wpAny_noted ?_
  have no : ∀ {α : Type} {t : Sem α} {Q : α → Shared → Prop} {E : Value → Shared → Prop} {z : Shared}, wpAny (model prog w) A t Q (fun _ _ => False) z → wpAny (model prog w) A t Q E z := fun h => wpAny_mono h (fun _ _ q => q) fun _ _ q => q.elim
  unfold compTurn
  simp only [hg]
  refine wpAny_bind (wpAny_standAt (wpAny_bind (wpAny_mono (turn n z hI) (fun r z1 h1 => ?_) fun _ _ q => q.elim)))
  cases r with
  | none => exact wpAny_pure h1
  | some v =>
    refine wpAny_bind (wpAny_mono h1 (fun _ z2 h2 => ?_) fun _ _ q => q.elim)
    refine wpAny_bind (wpAny_mono h2 (fun _ z3 h3 => wpAny_bind (wpAny_mono h3 (fun ok z4 h4 => ?_) fun _ _ q => q.elim)) fun _ _ q => q.elim)
    cases ok with
    | false => exact wpAny_pure ⟨rfl, h4⟩
    | true =>
      have h4 : Bhd prog w A elt gens scope pos acc env (d + 1) (fun z5 => ∃ m, m < n ∧ I m z5) z4 := h4
      unfold Bhd at h4
      simp only [if_true]
      cases hn : gens[d + 1]? with
      | none =>
        rw [hn] at h4
        simp only
        exact wpAny_bind (wpAny_bind (wpAny_mono h4 (fun x z5 h5 => wpAny_bind (wpAny_mono h5 (fun _ z6 h6 => wpAny_pure (wpAny_pure ⟨rfl, h6⟩)) fun _ _ q => q.elim)) fun _ _ q => q.elim))
      | some c =>
        rw [hn] at h4
        obtain ⟨ha, hf, h4⟩ := h4
        simp only [ha]
        refine wpAny_bind (wpAny_mono h4 (fun x z5 h5 => ?_) fun _ _ q => q.elim)
        refine wpAny_bind (wpAny_standAt (wpAny_bind (wpAny_of_eq (hf x) (wpAny_bind (wpAny_holding (wpAny_mono h5 (fun i1 z6 h6 => ?_) fun _ _ q => q.elim))))))
        refine wpAny_bind (wpAny_runOwn ?_)
        rw [Around.mark_none]
        refine codeAny_mono h6 fun r y hr => ?_
        cases r with
        | ok f => exact wpAny_pure ⟨rfl, hr⟩
        | error e => exact hr.elim
/-- a clause's start -/
theorem start_at {d : Nat} {c : Comprehension} (hg : gens[d]? = some c) (ha : c.is_async = 0) (h0 : codeAny (model prog w) A (.compLoop (.ListComp elt gens scope pos) d it acc env) R s)
    (h : wpAny (model prog w) A (pyIter it) (fun i z => codeAny (model prog w) A (.compLoop (.ListComp elt gens scope pos) d i acc env) R z) (fun _ _ => False) s) :
    codeAny (model prog w) A (.compStart (.ListComp elt gens scope pos) d it acc env) R s := by
  refine codeAny_of_tree ?_
  show wpAny _ _ ((compStart (.ListComp elt gens scope pos) d it acc env).onRaise (fun x => do noteFrame x env; standAt theWindowsPlace)) _ _ s
  refine wpAny_notedAt ?_
  unfold compStart
  have hcl : (clausesOf (.ListComp elt gens scope pos))[d]? = some c := hg
  simp only [hcl, Option.elim, ha]
  rw [if_neg (by decide)]
  show wpAny _ _ (ask >>= _) _ _ s
  refine wpAny_bind (wpAny_askSetting (wpAny_ite ?_))
  have go : ∀ z (b : Value) (A' : Around) (E' : Value → Shared → Prop), codeAny (model prog w) A (.compLoop (.ListComp elt gens scope pos) d b acc env) R z → wpAny (model prog w) A' (again (.compLoop (.ListComp elt gens scope pos) d b acc env)) (fun fin s' => match fin with
      | Fin.done f => R (Except.ok f) s'
      | Fin.again c' => c'.quiet = true ∧ codeAny (model prog w) A c' R s') E' z := fun z b A' E' h => wpAny_pure ⟨rfl, h⟩
  split
  · exact go _ _ _ _ h0
  · exact wpAny_bind (wpAny_rule (wpAny_bind (wpAny_standAt (wpAny_bind (wpAny_mono h (fun i z h' => go _ _ _ _ h') fun _ _ q => q.elim)))))
end
section
variable {Y : Cx}
theorem wipe_nil (σ : L2.St) : wipe σ [] = σ := rfl
theorem wipe_sub {σ : L2.St} {vs us : List Nat} (h : ∀ i ∈ us, i ∈ vs) {j : Nat} {v : V} (e : (wipe σ vs)[j]? = some (some v)) : (wipe σ us)[j]? = some (some v) := by
  obtain ⟨e1, e2⟩ := wipe_some e
  rw [wipe_out fun z => e2 (h j z)]
  exact e1
/-- what is known behind it is as ahead, but for the clause's names -/
def Knows (σ τ : L2.St) (vs : List Nat) : Prop := τ.length = σ.length ∧ ∀ (j : Nat) v, (wipe σ vs)[j]? = some (some v) → τ[j]? = some (some v)
theorem drop_one {α : Type} {l cs : List α} {c : α} {d : Nat} (h : l.drop d = c :: cs) : l[d]? = some c ∧ l.drop (d + 1) = cs := by
  refine ⟨?_, ?_⟩
  · have e : (l.drop d)[0]? = some c := by rw [h]; rfl
    rw [List.getElem?_drop] at e
    exact e
  · rw [← List.drop_drop, h]
    rfl
theorem deep_ok (hc : Y.calm = true) {elt : Expr} {te : TE} (pe : PE Y elt te) {gens : List Comprehension} {scope : Scope} {pos : Pos} {D : Addr} : ∀ (cs : List Cls) (d : Nat), (∀ c ∈ cs, c.Ok Y) → NestVs cs → gens.drop d = cs.map Cls.syn →
    ∀ (pins : List (Addr × Obj)) (σ : L2.St) (H : Hp) (s : Shared) (Z : Hp → Prop) (post : Shared → Prop), Inv Y pins σ H s → tDeep D te cs σ H Z →
      (∀ τ H' s', Inv Y pins τ H' s' → Knows σ τ (topVs cs) → Z H' → post s') → Y.xe = (fun _ _ => False) → Bhd Y.prog Y.w Y.A elt gens scope pos (.ref D) Y.env d post s
  | [], d, _, _, hd, pins, σ, H, s, Z, post, I, h, fin, hx => by
    have e : gens[d]? = none := List.getElem?_eq_none (by simpa using hd)
    unfold Bhd
    rw [e]
    have r := pe.run pins s σ H _ I h
    rw [hx] at r
    refine thn r fun x z q => ?_
    obtain ⟨y, H1, I1, ry, acc, e1, hl, q⟩ := q
    exact app_ok I1 e1 hl ry fun z' I2 => fin σ _ z' I2 ⟨rfl, fun j v e => e⟩ q
  | c :: cs, d, ok, hn, hd, pins, σ, H, s, Z, post, I, h, fin, hx => by
    obtain ⟨e, hd1⟩ := drop_one (c := c.syn) (cs := cs.map Cls.syn) hd
    have oc := ok c (List.mem_cons_self ..)
    unfold Bhd
    rw [e]
    refine ⟨rfl, oc.fold _, ?_⟩
    have r := oc.pi.run pins s σ H _ I h
    rw [hx] at r
    refine thn r fun xv s1 q => thn q fun itv s2 q => ?_
    obtain ⟨it, fp, tn, J, H1, rfl, I1, T, st, fok, W, ⟨m0, w0⟩, turn⟩ := q
    have fo : ∀ {H' : Hp}, (∀ b ∈ fp, H' b = none) → ∀ b ∈ fp, FpOk Y pins H' b := fun hn b hb => ⟨hn b hb, (fok b hb).2⟩
    have lp : codeAny (model Y.prog Y.w) Y.A (.compLoop (.ListComp elt gens scope pos) d (.ref it) (.ref D) Y.env) (fun r y => match r with | .ok _ => post y | .error _ => False) s2 := by
      refine loop_at e (fun k z => ∃ j H', Inv Y pins (wipe σ c.vs) H' z ∧ tn j z.heap ∧ (∀ b ∈ fp, H' b = none) ∧ W j k H') ?_ m0 ⟨0, H1, I1.weak (wipe_length _ _) (fun j v q => (wipe_some q).1), st, fun b hb => (fok b hb).1, w0⟩
      rintro k z ⟨j, Hj, Ij, stj, nj, wj⟩
      rcases turn j k Hj wj with ⟨stop, hz⟩ | ⟨go, Nx, hNx, step⟩
      · refine thnF (T.done Y rfl rfl rfl hc j pins z _ Hj (fun _ _ => False) Ij (fo nj) stj stop) fun r z1 q => ?_
        obtain ⟨rfl, I3⟩ := q
        exact fin _ _ _ I3 ⟨wipe_length _ _, fun j v q => q⟩ hz
      · refine thnF (T.item Y rfl rfl rfl hc j pins z _ Hj (fun _ _ => False) Ij (fo nj) stj go) fun r z1 q => ?_
        obtain ⟨u, rfl, q⟩ := q
        refine thnF q fun _ z2 q => ?_
        obtain ⟨x, H2, I2, r2, y2, st2, n2⟩ := q
        have I2' := I2.pinned (fo n2) (T.obj _ _ st2)
        have rg := oc.pg.run _ z2 _ H2 x u _ I2' r2 (step x H2 y2)
        rw [hx] at rg
        refine thnF rg fun _ z3 q => ?_
        obtain ⟨σ3, H3, I3, hw, q3⟩ := q
        have rt := oc.pt.run _ z3 σ3 H3 _ I3 q3
        rw [hx] at rt
        refine thnF rt fun b z4 q => ?_
        obtain ⟨H4, I4, q4⟩ := q
        have back : ∀ τ H' z', Inv Y (pins ++ pinsAt fp z2.heap) τ H' z' → Knows σ3 τ (topVs cs) → Nx H' → ∃ m, m < k ∧ ∃ j H', Inv Y pins (wipe σ c.vs) H' z' ∧ tn j z'.heap ∧ (∀ b ∈ fp, H' b = none) ∧ W j m H' := fun τ H' z' I' kn nx => by
          obtain ⟨m', hm, w'⟩ := hNx H' nx
          have pn : ∀ b ∈ fp, ∀ o, z2.heap.get? b = some o → z'.heap.get? b = some o ∧ H' b = none := fun b hb o e =>
            let t := I'.pin (b, o) (List.mem_append_right _ (List.mem_append_right _ (mem_pinsAt hb e)))
            ⟨t.1, t.2.1⟩
          refine ⟨m', hm, j + 1, H', I'.unpinned.weak ?_ (fun i v q => ?_), T.keep _ _ _ st2 fun b hb o e => (pn b hb o e).1, fun b hb => ?_, w'⟩
          · rw [kn.1, ← hw, wipe_length]
          · rw [← hw] at q
            exact kn.2 i v (wipe_sub hn.1 q)
          · obtain ⟨o, e, _⟩ := T.obj _ _ st2 b hb
            exact (pn b hb o e).2
        cases b with
        | false =>
          simp only [Bool.false_eq_true, if_false] at q4 ⊢
          exact back σ3 H4 z4 I4 ⟨rfl, fun i v q => (wipe_some q).1⟩ q4
        | true =>
          simp only [if_true] at q4 ⊢
          exact deep_ok hc pe cs (d + 1) (fun c' h' => ok c' (List.mem_cons_of_mem _ h')) hn.2 hd1 _ σ3 H4 z4 Nx _ I4 q4 back hx
    exact start_at e rfl lp (T.self Y.A 0 _ _ _ st lp)
end
/-- a list comprehension of any number of clauses; the first one's names are all of the block's -/
def tLcN (c : Cls) (cs : List Cls) (te : TE) : TE := fun σ H Q => c.wi σ H fun J H1 => ∀ D, H1 D = none → ∃ W : Nat → Nat → Hp → Prop, (∃ m, W 0 m (upd H1 D (.lst []))) ∧ ∀ j m H, W j m H →
  (J.stop j H ∧ Q (.ref D) H) ∨ (J.go j H ∧ ∃ Y : Hp → Prop, (∀ H', Y H' → ∃ m', m' < m ∧ W (j + 1) m' H') ∧ ∀ x H', J.yld j H x H' →
    c.g x (wipe σ c.vs) H' fun σ2 H2 => wipe σ2 c.vs = wipe σ c.vs ∧ c.tt σ2 H2 fun b H3 => if b = true then tDeep D te cs σ2 H3 Y else Y H3)
section
variable {X : Cx}
/-- the context of a comprehension's block -/
abbrev inBlk (X : Cx) (scope : Scope) (s : Shared) (H : Hp) (C : Addr) (cl : List (Str × Addr)) (fp : List Addr) : Cx := X.blk s H scope (compEnvC scope cl C X.env) fp
abbrev theCells (X : Cx) (scope : Scope) (n : Nat) : List (Str × Addr) := cellsFrom (n + 1) scope.names (cloFrom X.env.cells scope.names [])
theorem core_n {pins : List (Addr × Obj)} {s : Shared} {σ : L2.St} {H : Hp} {Q : VK} {elt : Expr} {c : Cls} {cs : List Cls} {scope : Scope} {own : List (Str × Nat)} {pos pos' : Pos} {te : TE} {use : Option (Value → Sem Unit)} {Qf : Value → Shared → Prop}
    (calm : X.calm = true) (nd : X.N.Nodup) (I : Inv X pins σ H s) (first : PI X c.tg c.iter c.wi) (blk : BlkOk X.N X.env.scope scope own) (hv : c.vs = own.map (·.2)) (nest : NestVs (c :: cs))
    (hg : ∀ s H C cl fp, PG (inBlk X scope s H C cl fp) c.tg c.g) (ht : ∀ s H C cl fp, PTs (inBlk X scope s H C cl fp) c.ifs c.tt) (rest : ∀ s H C cl fp, ∀ k ∈ cs, k.Ok (inBlk X scope s H C cl fp))
    (he : ∀ s H C cl fp, PE (inBlk X scope s H C cl fp) elt te) (fold : ∀ x, foldedSetIterable c.iter X.env x = pure x) (h : tLcN c cs te σ H Q)
    (done : ∀ D C z m H', Inv X pins σ H' z → Q (.ref D) H' → z.heap.Ns C m → FpOk X pins H' C → compPost (model X.prog X.w) X.A X.xe use Qf (.ref D) C (.ok .next) z) :
    wpAny (model X.prog X.w) X.A (comprehension (.ListComp elt (c.syn :: cs.map Cls.syn) scope pos) scope X.env pos' (newList []) false (eval c.iter X.env) use) Qf X.xe s := by
  have free : ∀ y ∈ scope.names, y.2 = .free → ∃ a, X.env.cells.lookup y.1 = some a := fun y hy e => (blk.free y hy e).elim (fun k => I.ok.has _ (.inl k)) fun k => I.ok.has _ (.inr k)
  have r0 := first.run pins s σ H _ I h
  refine wpAny_comprehension_free (g := c.syn) (gs := cs.map Cls.syn) (use := use) rfl fold (closure_ok free) blk.kind (fun y hy e => by rw [blk.uniq y hy, e]) (thn r0 fun xv s1 q => thn q fun itv s2 q => ?_)
  obtain ⟨it, fp, tn, J, H2, rfl, I2, T, st2, fok, q⟩ := q
  refine wpAny_newObj_type (newEnv_comp ?_) (by show 0 ≤ sizeLine; decide)
  generalize eD : s2.heap.objs.size = D
  obtain ⟨W, ⟨m0, w0⟩, turn⟩ := q D (I2.hok.fresh (Nat.le_of_eq eD))
  generalize eL : ({ cls := .type "list", data := .seq ([] : List Value).toArray } : Obj) = oL
  generalize e3 : ({ s2 with heap := s2.heap.push oL } : Shared) = s3
  have hp3 : s3.heap = s2.heap.push oL := by rw [← e3]
  have I3 : Inv X pins σ (upd H2 D (.lst [])) s3 := by
    rw [← e3]
    refine I2.laid (t' := s2.toks) (fun b o e => Heap.get?_push_of_some _ e) (Nat.le_of_eq eD) ⟨Nat.zero_le _, [], 0, .nil, ?_⟩
    rw [← eD, ← eL]
    exact Heap.get?_push_size _ rfl
  have lay : ∀ b o, s2.heap.get? b = some o → s3.heap.get? b = some o := fun b o e => by
    rw [hp3]
    exact Heap.get?_push_of_some _ e
  have below : ∀ b ∈ fp, b < s2.heap.objs.size := fun b hb => let ⟨o, e, _⟩ := T.obj _ _ st2 b hb; Heap.lt_size e
  have fok3 : ∀ b ∈ fp, FpOk X pins (upd H2 D (.lst [])) b ∧ b < s3.heap.objs.size := fun b hb => by
    have lt := below b hb
    refine ⟨⟨?_, (fok b hb).2⟩, ?_⟩
    · rw [upd_ne (show b ≠ D by rw [← eD]; exact Nat.ne_of_lt lt)]
      exact (fok b hb).1
    · rw [hp3, Heap.size_push]
      exact Nat.lt_succ_of_lt lt
  have st3 : tn 0 s3.heap := T.keep _ _ _ st2 fun b _ o e => lay b o e
  have I4 := block_start I3 blk nd fok3
  rw [← hv] at I4
  have pg := hg s3 (upd H2 D (.lst [])) s3.heap.objs.size (theCells X scope s3.heap.objs.size) fp
  have pt := ht s3 (upd H2 D (.lst [])) s3.heap.objs.size (theCells X scope s3.heap.objs.size) fp
  have pr := rest s3 (upd H2 D (.lst [])) s3.heap.objs.size (theCells X scope s3.heap.objs.size) fp
  have pe := he s3 (upd H2 D (.lst [])) s3.heap.objs.size (theCells X scope s3.heap.objs.size) fp
  dsimp only [inBlk] at pg pt pr pe
  have nfp : ∀ b ∈ fp, (upd H2 D (.lst [])) b = none := fun b hb => (fok3 b hb).1.1
  show codeAny _ _ (.compStart (.ListComp elt (c.syn :: cs.map Cls.syn) scope pos) 0 (.ref it) (.ref D) (compEnvC scope (theCells X scope s3.heap.objs.size) s3.heap.objs.size X.env)) (compPost (model X.prog X.w) X.A X.xe use Qf (.ref D) s3.heap.objs.size)
    { s3 with heap := pushCells (s3.heap.push { cls := .type "dict", data := .dict #[] }) scope.names }
  have cL : (compEnvC scope (theCells X scope s3.heap.objs.size) s3.heap.objs.size X.env).locals = s3.heap.objs.size := rfl
  generalize compEnvC scope (theCells X scope s3.heap.objs.size) s3.heap.objs.size X.env = ce at I4 pg pt pe pr cL ⊢
  generalize upd H2 D (.lst []) = H3 at I3 I4 pg pt pe pr w0 nfp fok3
  have lay4 : ∀ b o, s3.heap.get? b = some o → (pushCells (s3.heap.push { cls := .type "dict", data := .dict #[] }) scope.names).get? b = some o := fun b o e => pushCells_keeps _ _ _ _ (Heap.get?_push_of_some _ e)
  have st4 : tn 0 (pushCells (s3.heap.push { cls := .type "dict", data := .dict #[] }) scope.names) := T.keep _ _ _ st3 fun b _ o e => lay4 b o e
  generalize e4 : ({ s3 with heap := pushCells (s3.heap.push { cls := .type "dict", data := .dict #[] }) scope.names } : Shared) = s4 at I4 ⊢
  have st4 : tn 0 s4.heap := by
    rw [← e4]
    exact st4
  generalize eY : X.blk s3 H3 scope ce fp = Y at I4 pg pt pe pr
  have yx : Y.xe = (fun _ _ => False) := by rw [← eY]
  have yP : X.prog = Y.prog := by rw [← eY]
  have yw : X.w = Y.w := by rw [← eY]
  have yA : X.A = Y.A := by rw [← eY]
  have yK : X.K = Y.K := by rw [← eY]
  have ye : ce = Y.env := by rw [← eY]
  have yc : Y.calm = true := by
    rw [← eY]
    exact calm
  have fo : ∀ {τ : L2.St} {H' : Hp} {z : Shared}, Inv Y [] τ H' z → (∀ b ∈ fp, H' b = none) → ∀ b ∈ fp, FpOk Y [] H' b := fun {τ H' z} I' hn b hb => by
    subst eY
    exact ⟨hn b hb, (I'.ok.exf b hb).1, I'.ok.exfs b hb, .inl hb, fun x a e => (I'.ok.exf b hb).2 x a e, fun p hp => absurd (show p ∈ ([] : List (Addr × Obj)) ++ [] from hp) (by simp)⟩
  have lp : codeAny (model X.prog X.w) X.A (.compLoop (.ListComp elt (c.syn :: cs.map Cls.syn) scope pos) 0 (.ref it) (.ref D) ce) (compPost (model X.prog X.w) X.A X.xe use Qf (.ref D) s3.heap.objs.size) s4 := by
    refine loop_at (d := 0) (gens := c.syn :: cs.map Cls.syn) rfl (fun k z => ∃ j H', Inv Y [] (wipe σ c.vs) H' z ∧ tn j z.heap ∧ (∀ b ∈ fp, H' b = none) ∧ W j k H') ?_ m0 ⟨0, H3, I4, st4, nfp, w0⟩
    rintro k z ⟨j, Hj, Ij, stj, nj, wj⟩
    rcases turn j k Hj wj with ⟨stop, hz⟩ | ⟨go, Nx, hNx, step⟩
    · have td := T.done Y yP.symm yw.symm yK.symm yc j [] z _ Hj (fun _ _ => False) Ij (fo Ij nj) stj stop
      rw [← yA] at td
      refine thnF td fun r z1 q => ?_
      obtain ⟨rfl, J1⟩ := q
      have out : Inv X pins σ Hj z1 := by
        subst eY
        exact I3.call' (ch := fp) J1.os J1.base J1.hok J1.bare fun b hb => let f := (fok3 b hb).1; ⟨f.2.2.2.1, f.2.1, f.2.2.2.2.1, f.2.2.2.2.2⟩
      have nC : Hj s3.heap.objs.size = none := by
        have e : Hj Y.env.locals = none := J1.free
        rw [← ye, cL] at e
        exact e
      obtain ⟨m, hm, _⟩ := J1.loc
      rw [← ye, cL] at hm
      exact done D s3.heap.objs.size z1 m Hj out hz hm (I3.fpOk (Nat.le_refl _) nC)
    · have ti := T.item Y yP.symm yw.symm yK.symm yc j [] z _ Hj (fun _ _ => False) Ij (fo Ij nj) stj go
      rw [← yA] at ti
      refine thnF ti fun r z1 q => ?_
      obtain ⟨u, rfl, q⟩ := q
      refine thnF q fun _ z2 q => ?_
      obtain ⟨x, H5, I5, r5, y5, st5, n5⟩ := q
      have rg := pg.run _ z2 _ H5 x u _ (I5.pinned (fo I5 n5) (T.obj _ _ st5)) r5 (step x H5 y5)
      rw [yx, ← yA, ← yP, ← yw, ← ye] at rg
      refine thnF rg fun _ z3 q => ?_
      obtain ⟨σ3, H6, I6, hw, q3⟩ := q
      have rt := pt.run _ z3 σ3 H6 _ I6 q3
      rw [yx, ← yA, ← yP, ← yw, ← ye] at rt
      refine thnF rt fun b z4 q => ?_
      obtain ⟨H7, I7, q4⟩ := q
      have back : ∀ τ H' z', Inv Y ([] ++ pinsAt fp z2.heap) τ H' z' → Knows σ3 τ (topVs cs) → Nx H' → ∃ m, m < k ∧ ∃ j H', Inv Y [] (wipe σ c.vs) H' z' ∧ tn j z'.heap ∧ (∀ b ∈ fp, H' b = none) ∧ W j m H' := fun τ H' z' I' kn nx => by
        obtain ⟨m', hm, w'⟩ := hNx H' nx
        have pn : ∀ b ∈ fp, ∀ o, z2.heap.get? b = some o → z'.heap.get? b = some o ∧ H' b = none := fun b hb o e =>
          let t := I'.pin (b, o) (List.mem_append_right _ (List.mem_append_right _ (mem_pinsAt hb e)))
          ⟨t.1, t.2.1⟩
        refine ⟨m', hm, j + 1, H', (I'.unpinned (pins := [])).weak ?_ (fun i v q => ?_), T.keep _ _ _ st5 fun b hb o e => (pn b hb o e).1, fun b hb => ?_, w'⟩
        · rw [kn.1, ← hw, wipe_length]
        · rw [← hw] at q
          exact kn.2 i v (wipe_sub nest.1 q)
        · obtain ⟨o, e, _⟩ := T.obj _ _ st5 b hb
          exact (pn b hb o e).2
      cases b with
      | false =>
        simp only [Bool.false_eq_true, if_false] at q4 ⊢
        exact back σ3 H7 z4 I7 ⟨rfl, fun i v q => (wipe_some q).1⟩ q4
      | true =>
        simp only [if_true] at q4 ⊢
        have r := deep_ok yc pe (gens := c.syn :: cs.map Cls.syn) (scope := scope) (pos := pos) cs 1 pr nest.2 rfl _ σ3 H7 z4 Nx _ I7 q4 back yx
        rw [← yA, ← yP, ← yw, ← ye] at r
        exact r
  exact start_at (d := 0) (gens := c.syn :: cs.map Cls.syn) rfl rfl lp (T.self X.A 0 _ _ _ st4 lp)
/-- as a value -/
theorem pe_lcN {elt : Expr} {c : Cls} {cs : List Cls} {scope : Scope} {own : List (Str × Nat)} {pos : Pos} {te : TE} (calm : X.calm = true) (nd : X.N.Nodup) (first : PI X c.tg c.iter c.wi) (blk : BlkOk X.N X.env.scope scope own) (hv : c.vs = own.map (·.2)) (nest : NestVs (c :: cs))
    (hg : ∀ s H C cl fp, PG (inBlk X scope s H C cl fp) c.tg c.g) (ht : ∀ s H C cl fp, PTs (inBlk X scope s H C cl fp) c.ifs c.tt) (rest : ∀ s H C cl fp, ∀ k ∈ cs, k.Ok (inBlk X scope s H C cl fp))
    (he : ∀ s H C cl fp, PE (inBlk X scope s H C cl fp) elt te) (fold : ∀ x, foldedSetIterable c.iter X.env x = pure x := by intro _; rfl) : PE X (.ListComp elt (c.syn :: cs.map Cls.syn) scope pos) (tLcN c cs te) := by
  refine ⟨fun pins s σ H Q I h => ?_⟩
  rw [eval_ListComp]
  refine core_n calm nd I first blk hv nest hg ht rest he fold h fun D C z m H' I' q hn f => ⟨m, hn, fun h2 sb => ?_⟩
  obtain ⟨f0, f1, f2, f3, f4, f5⟩ := f
  exact ⟨.ref D, H', I'.turned (t' := z.toks) (fun b o hb e => (sb.2 b hb).trans e) f0 f1 f3 f4 f5, rfl, q⟩
/-- x = [..] on one line, x a local name -/
theorem ps_setLcN {i : Nat} {y : Str} {py : Pos} {elt : Expr} {c : Cls} {cs : List Cls} {scope : Scope} {own : List (Str × Nat)} {pos spos : Pos} {te : TE} (calm : X.calm = true) (nd : X.N.Nodup) (hy : X.N[i]? = some y) (loc : X.env.scope.names.lookup y = some .local)
    (sw : swapsWith (.ListComp elt (c.syn :: cs.map Cls.syn) scope pos) (some (.Name y py)) spos.line X.env = pure true) (first : PI X c.tg c.iter c.wi) (blk : BlkOk X.N X.env.scope scope own) (hv : c.vs = own.map (·.2)) (nest : NestVs (c :: cs))
    (hg : ∀ s H C cl fp, PG (inBlk X scope s H C cl fp) c.tg c.g) (ht : ∀ s H C cl fp, PTs (inBlk X scope s H C cl fp) c.ifs c.tt) (rest : ∀ s H C cl fp, ∀ k ∈ cs, k.Ok (inBlk X scope s H C cl fp))
    (he : ∀ s H C cl fp, PE (inBlk X scope s H C cl fp) elt te) (fold : ∀ x, foldedSetIterable c.iter X.env x = pure x := by intro _; rfl) : PS X (.Assign [.Name y py] (.ListComp elt (c.syn :: cs.map Cls.syn) scope pos) spos) (tAsg (tLcN c cs te) (gName i)) := by
  refine ⟨fun pins s σ H D I h => ?_⟩
  rw [exec_Assign_Name_used _ _ _ _ sw]
  refine wpAny_bind (wpAny_standAt (wpAny_bind ?_))
  show wpAny _ X.A (do let _ ← comprehension (.ListComp elt (c.syn :: cs.map Cls.syn) scope pos) scope X.env _ (newList []) false (eval c.iter X.env) (some (assign (.Name y py) X.env))) _ _ s
  have h : tLcN c cs te σ H (fun x H1 => gName i x σ H1 D.nx) := h
  refine wpAny_bind (thn (core_n (Qf := fun _ z => SP X pins D .next z) calm nd I first blk hv nest hg ht rest he fold h fun L C z m H' I' q hn f => ?_) fun _ z hq => wpAny_pure (wpAny_pure hq))
  show wpAny _ _ (assign (.Name y py) X.env (.ref L)) _ _ _
  refine wpAny_assign_Name (store_ok2 (v := V.ref L) I' nd hy (.inl loc) rfl (fun z2 I2 q2 => ?_) (.inr loc))
  obtain ⟨a, sb, ha⟩ := q2
  obtain ⟨f0, f1, f2, f3, f4, f5⟩ := f
  have ne : C ≠ a := ha.elim (fun e => by rw [e]; exact f1) fun e => fun e' => f4 y a e e'.symm
  refine ⟨m, hn.sameBut sb ne, fun h3 sb3 => ?_⟩
  exact ⟨_, H', I2.turned (t' := z2.toks) (fun b o hb e => (sb3.2 b hb).trans e) f0 f1 f3 f4 f5, q⟩
end
end Ow

/-! sum(rows, []) of a list of lists; no tuple times a number. -/
namespace Ow
open PySem PySem.Spec PyProof.Rows L2
/-- the rows from i on, one behind the other -/
def onward (rows : Nat → List Value) (i k : Nat) : List Value := (List.range' i k).flatMap rows
theorem onward_succ (rows : Nat → List Value) (i k : Nat) : onward rows i (k + 1) = rows i ++ onward rows (i + 1) k := by
  unfold onward
  rw [List.range'_succ, List.flatMap_cons]
abbrev LstAt (h : Heap) (a : Addr) (vs : List Value) : Prop := ∃ c, h.get? a = some ({ cls := .type "list", dict := none, data := .seq vs.toArray c, slots := #[] } : Obj)
section
variable {prog : Program} {w : World} {A : Around} {R : Result → Shared → Prop}
theorem lists_loop (hh : A.handled = none) {I S l z : Addr} {items : Array Value} {base : Heap} (hlI : l ≠ I) (hSI : S ≠ I) (hSl : S ≠ l) (hIb : base.objs.size ≤ I) (hSb : base.objs.size ≤ S) (rows : Nat → List Value) (adr : Nat → Addr)
    (hit : ∀ (i : Nat) (v : Value), items[i]? = some v → v = .ref (adr i)) (hb : ∀ i, i < items.size → LstAt base (adr i) (rows i)) :
    ∀ (k i : Nat) (s : Shared) (T : Addr) (tot : List Value) (c : Nat), items.size - i = k → i ≤ items.size → s.heap.IsListIter I l i → s.heap.IsList l items →
      s.heap.get? S = some { cls := .type "list", dict := none, data := .seq #[.ref T] c, slots := #[] } → LstAt s.heap T tot → ((T = z ∧ i = 0 ∧ z < base.objs.size) ∨ base.objs.size ≤ T) → T ≠ I → T ≠ S →
      (∀ b o, base.get? b = some o → s.heap.get? b = some o) → tot.length + (onward rows i k).length ≤ sizeLine →
      (∀ (h' : Heap) (tk : Nat) (T' : Addr), (∀ b o, base.get? b = some o → h'.get? b = some o) → LstAt h' T' (tot ++ onward rows i k) → ((T' = z ∧ items.size = 0) ∨ base.objs.size ≤ T') → R (.ok (.ret (.ref T'))) { s with heap := h', toks := tk }) →
      codeAny (model prog w) A (.builtin "sum.loop" ⟨[.ref I, .ref S, rawInt 2, rawInt 0], []⟩) R s := by
  have ltI : ∀ {b : Addr} {o : Obj}, base.get? b = some o → b ≠ I ∧ b ≠ S := fun e => ⟨fun q => Nat.lt_irrefl _ (Nat.lt_of_lt_of_le (Heap.lt_size e) (q ▸ hIb)), fun q => Nat.lt_irrefl _ (Nat.lt_of_lt_of_le (Heap.lt_size e) (q ▸ hSb))⟩
  intro k
  induction k with
  | zero =>
    intro i s T tot c hk hi hI hl hS hT hw nI nS hbase hsz fin
    obtain rfl : i = items.size := by omega
    refine codeAny_builtin F.entry_sum_loop ?_
    rw [Around.under_plainId F.plain_sum_loop _]
    refine wpAny_bind (wpAny_seqItems hS rfl ?_)
    refine wpAny_bind (wpAny_tryCatch ((Walks.list (A := A.in1) hh I l hlI items).done s _ _ ⟨hI, hl⟩ fun h' tk keep => ?_))
    obtain ⟨cT, eT⟩ := hT
    refine wpAny_pure (fin h' tk T (fun b o e => keep b o (by simp only [List.mem_cons, List.not_mem_nil, or_false]; exact (ltI e).1) (hbase b o e)) ⟨cT, ?_⟩ ?_)
    · have e : onward rows items.size 0 = [] := rfl
      rw [e, List.append_nil]
      exact keep _ _ (by simpa using nI) eT
    · rcases hw with ⟨a, b, _⟩ | a
      · exact .inl ⟨a, b⟩
      · exact .inr a
  | succ k ih =>
    intro i s T tot c hk hi hI hl hS hT hw nI nS hbase hsz fin
    have lt : i < items.size := by omega
    refine codeAny_builtin F.entry_sum_loop ?_
    rw [Around.under_plainId F.plain_sum_loop _]
    refine wpAny_bind (wpAny_seqItems hS rfl ?_)
    refine wpAny_bind (wpAny_tryCatch ((Walks.list (A := A.in1) hh I l hlI items).item i s _ _ lt ⟨hI, hl⟩ fun v h' tk hv st keep => ?_))
    obtain rfl := hit i v hv
    have kp : ∀ {b : Addr} {o : Obj}, b ≠ I → s.heap.get? b = some o → h'.get? b = some o := fun n e => keep _ _ (by simpa using n) e
    obtain ⟨cT, eT⟩ := hT
    obtain ⟨cR, eR⟩ := hb i lt
    have eR' := kp (ltI eR).1 (hbase _ _ eR)
    have eT' := kp nI eT
    have hS' := kp hSI hS
    show wpAny _ A.in1 ((holding [Value.ref (adr i)] (binaryOp .Add (.ref T) (.ref (adr i)))).attempt >>= _) _ _ _
    rw [onward_succ, List.length_append] at hsz
    refine wpAny_bind (wpAny_attempt (wpAny_holding (PySem.P.add_list eT' eR' ?_ (by rw [List.size_toArray, List.size_toArray]; omega))))
    generalize en : h'.objs.size = n
    have atN : (h'.push { cls := .type "list", data := .seq (tot.toArray ++ (rows i).toArray) }).get? n = some { cls := .type "list", data := .seq (tot ++ rows i).toArray } := by
      rw [← en]
      have e := Heap.get?_push_size h' (o := ({ cls := .type "list", data := .seq (tot.toArray ++ (rows i).toArray) } : Obj)) rfl
      rw [e, List.append_toArray]
    have nS' : n ≠ S := Nat.ne_of_gt (en ▸ Heap.lt_size hS')
    obtain ⟨oI, eI, _⟩ := st.1
    have nI' : n ≠ I := Nat.ne_of_gt (en ▸ Heap.lt_size eI)
    have push : ∀ {b : Addr} {o : Obj}, h'.get? b = some o → (h'.push { cls := .type "list", data := .seq (tot.toArray ++ (rows i).toArray) }).get? b = some o := fun e => Heap.get?_push_of_some _ e
    have hS2 := push hS'
    refine wpAny_bind (wpAny_updateSeq hS2 rfl ?_)
    have hS3 := Heap.get?_update_self (Obj.mapSeq fun _ => #[Value.ref n]) hS2 rfl
    refine wpAny_bind (wpAny_letGo ?_)
    refine wpAny_bind (wpAny_updateSeq hS3 rfl (wpAny_pure ⟨plainId_quiet F.plain_sum_loop _, ?_⟩))
    have up : ∀ {b : Addr} {o : Obj}, b ≠ S → h'.get? b = some o → (((h'.push { cls := .type "list", data := .seq (tot.toArray ++ (rows i).toArray) }).update S (Obj.mapSeq fun _ => #[Value.ref n])).update S (Obj.mapSeq fun _ => #[Value.ref n])).get? b = some o := fun {b o} nb e =>
      (Heap.get?_update_other _ _ (Ne.symm nb)).trans ((Heap.get?_update_other _ _ (Ne.symm nb)).trans (push e))
    obtain ⟨ol, el, rl⟩ := st.2
    refine ih (i + 1) _ n (tot ++ rows i) _ (by omega) lt ?_ ?_ (Heap.get?_update_self _ hS3 rfl) ⟨0, ?_⟩ (.inr ?_) nI' nS' ?_ ?_ fun h2 tk2 T2 k2 e2 w2 => ?_
    · obtain ⟨o, e, r⟩ := st.1
      exact ⟨o, up (Ne.symm hSI) e, r⟩
    · exact ⟨ol, up (Ne.symm hSl) el, rl⟩
    · exact (Heap.get?_update_other _ _ (Ne.symm nS')).trans ((Heap.get?_update_other _ _ (Ne.symm nS')).trans atN)
    · exact Nat.le_of_lt (Nat.lt_of_le_of_lt hIb (en ▸ Heap.lt_size eI))
    · intro b o e
      exact up (ltI e).2 (kp (ltI e).1 (hbase b o e))
    · rw [List.length_append]
      omega
    · refine fin h2 tk2 T2 k2 ?_ w2
      rw [onward_succ, ← List.append_assoc]
      exact e2
theorem args_sum2 (a b : Value) : argsOk "sum" ⟨[a, b], []⟩ := by unfold argsOk; kernel_rfl
theorem list_no_bytearray : isSubtype (.type "list") (.type "bytearray") = pure false := by rw [isSubtype_type]; kernel_rfl
theorem sum_lists {s : Shared} {E : Value → Shared → Prop} {l z : Addr} {items : Array Value} {Q : Value → Shared → Prop} (hh : A.handled = none) (hl : s.heap.IsList l items) (hz : LstAt s.heap z []) (rows : Nat → List Value) (adr : Nat → Addr)
    (hit : ∀ (i : Nat) (v : Value), items[i]? = some v → v = .ref (adr i)) (hb : ∀ i, i < items.size → LstAt s.heap (adr i) (rows i)) (hsz : (onward rows 0 items.size).length ≤ sizeLine)
    (fin : ∀ (h' : Heap) (tk : Nat) (T' : Addr), (∀ b o, s.heap.get? b = some o → h'.get? b = some o) → LstAt h' T' (onward rows 0 items.size) → ((T' = z ∧ items.size = 0) ∨ s.heap.objs.size ≤ T') → Q (.ref T') { s with heap := h', toks := tk }) :
    wpAny (model prog w) A (call (.builtin "sum") [.ref l, .ref z]) Q E s := by
  refine call_function_tree F.kind_sum F.plain_sum F.entry_sum (args_sum2 _ _) ?_
  unfold Builtin.«sum»
  simp only [List.length_cons, List.length_nil]
  rw [if_neg (by decide)]
  refine wpAny_bind (wpAny_of_eq (show Builtin.Builtins.bindParams "sum" ["start"] 0 ⟨[.ref z], []⟩ = pure [some (.ref z)] from rfl) ?_)
  obtain ⟨ol, el, rl⟩ := hl
  refine wpAny_bind (wpAny_pyIter_list ⟨ol, el, rl⟩ ?_)
  generalize eI : s.heap.objs.size = I
  refine wpAny_bind (wpAny_pure ?_)
  simp only [List.forIn_cons, List.forIn_nil]
  have lI : l < I := eI ▸ Heap.lt_size el
  obtain ⟨cz, ez⟩ := hz
  have zI : z < I := eI ▸ Heap.lt_size ez
  generalize eh : s.heap.push { cls := .type "list_iterator", data := .fields #[.ref l, .int 0 0] } = h1
  have atI : h1.get? I = some { cls := .type "list_iterator", data := .fields #[.ref l, .int 0 0] } := by
    rw [← eh, ← eI]
    exact Heap.get?_push_size _ rfl
  have k1 : ∀ b o, s.heap.get? b = some o → h1.get? b = some o := fun b o e => by
    rw [← eh]
    exact Heap.get?_push_of_some _ e
  have tz : ∀ (g : Array GenState) (d : Drawn) (tk : Nat) (os : OsState), Shared.TypeIs ⟨h1, g, d, tk, os⟩ (.ref z) "list" := fun _ _ _ _ => ⟨_, k1 _ _ ez, rfl⟩
  refine wpAny_bind (wpAny_bind (wpAny_bind (wpAny_isInstance (T := "list") (b := false) (tz _ _ _ _) PySem.F.sub_list_str ?_)))
  simp only [Bool.false_eq_true, if_false]
  refine wpAny_pure (wpAny_bind (wpAny_bind (wpAny_isInstance (T := "list") (b := false) (tz _ _ _ _) PySem.F.sub_list_bytes ?_)))
  simp only [Bool.false_eq_true, if_false]
  refine wpAny_pure (wpAny_bind (wpAny_bind (wpAny_isInstance (T := "list") (b := false) (tz _ _ _ _) list_no_bytearray ?_)))
  simp only [Bool.false_eq_true, if_false]
  refine wpAny_pure (wpAny_pure ?_)
  refine wpAny_bind (wpAny_newObj_type ?_)
  generalize eS : h1.objs.size = S
  have sI : S = I + 1 := by rw [← eS, ← eh, Heap.size_push, eI]
  refine wpAny_pure ⟨plainId_quiet F.plain_sum_loop _, ?_⟩
  have k2 : ∀ b o, h1.get? b = some o → (h1.push { cls := .type "list", data := .seq [Value.ref z].toArray }).get? b = some o := fun b o e => Heap.get?_push_of_some _ e
  refine lists_loop (base := s.heap) (z := z) hh (l := l) (I := I) (S := S) (Nat.ne_of_lt lI) (by rw [sI]; exact Nat.succ_ne_self I) (Nat.ne_of_gt (sI ▸ Nat.lt_succ_of_lt lI)) (Nat.le_of_eq eI) (by rw [sI, eI]; exact Nat.le_succ I) rows adr hit hb items.size 0 _ z [] 0 rfl (Nat.zero_le _) ⟨_, k2 _ _ atI, rfl, rfl⟩ ⟨ol, k2 _ _ (k1 _ _ el), rl⟩ ?_ ⟨cz, k2 _ _ (k1 _ _ ez)⟩
    (.inl ⟨rfl, rfl, Heap.lt_size ez⟩) (Nat.ne_of_lt zI) (Nat.ne_of_lt (sI ▸ Nat.lt_succ_of_lt zI)) (fun b o e => k2 _ _ (k1 _ _ e)) (by simpa using hsz) fun h2 tk2 T2 k2 e2 w2 => fin h2 tk2 T2 k2 (by simpa using e2) w2
  rw [← eS]
  exact Heap.get?_push_size _ rfl
end
section
variable {X : Cx}
def rSumL (K : PySem.W.Frag) : List V → Hp → VK → Prop := fun vs H Q => ∃ (l z : Addr) (as : List Addr) (rws : List (List V)), vs = [.ref l, .ref z] ∧ SqL K H l (as.map V.ref) ∧ H z = some (.lst []) ∧ as.length = rws.length ∧
  (∀ (i : Nat) a r, as[i]? = some a → rws[i]? = some r → H a = some (.lst r)) ∧ rws.flatten.length ≤ sizeLine ∧ ∀ (T : Addr) (H' : Hp), Same H H' → H' T = some (.lst rws.flatten) → Q (.ref T) H'
theorem flat_getD {α : Type} (rws : List (List α)) : (List.range' 0 rws.length).flatMap (fun i => rws.getD i []) = rws.flatten := by
  rw [List.flatMap_def]
  congr 1
  refine List.ext_getElem (by simp) fun i h1 h2 => ?_
  simp [List.getElem?_eq_getElem h2]
theorem vals_flat {f : Nat → List V} {g : Nat → List Value} : ∀ (k i : Nat), (∀ j, i ≤ j → j < i + k → Vals (f j) (g j)) → Vals ((List.range' i k).flatMap f) ((List.range' i k).flatMap g)
  | 0, i, _ => .nil
  | k + 1, i, h => by
    rw [List.range'_succ, List.flatMap_cons, List.flatMap_cons]
    exact (h i (Nat.le_refl _) (by omega)).append (vals_flat k (i + 1) fun j h1 h2 => h j (by omega) (by omega))
theorem refs_of : ∀ {as : List Addr} {us : List Value}, Vals (as.map V.ref) us → us = as.map Value.ref
  | [], _, r => by
    cases r
    rfl
  | a :: as, _, r => by
    cases r with
    | cons r1 r2 =>
      cases r1
      rw [refs_of r2, List.map_cons]
theorem cr_sumL (hc : X.calm = true) : CallR X (.builtin "sum") (rSumL X.K) := by
  intro pins s σ H vs us Q I r h
  obtain ⟨l, z, as, rws, rfl, hs, hz, hl, hr, hn, q⟩ := h
  cases r with
  | cons r1 r =>
    cases r with
    | cons r2 r =>
      cases r
      cases r1
      cases r2
      obtain ⟨its, rv, hil, _⟩ := I.list hs
      obtain rfl := refs_of rv
      obtain ⟨_, iz, nz, rz, lz, ez⟩ := I.lstM hz
      cases rz
      have each : ∀ i, ∃ us, i < as.length → Vals (rws.getD i []) us ∧ LstAt s.heap (as.getD i 0) us := fun i => by
        by_cases hi : i < as.length
        · have e1 := List.getElem?_eq_getElem hi
          have e2 := List.getElem?_eq_getElem (l := rws) (i := i) (by omega)
          obtain ⟨_, ir, nr, rr, lr, er⟩ := I.lstM (hr i _ _ e1 e2)
          refine ⟨ir, fun _ => ⟨?_, nr, ?_⟩⟩
          · rw [List.getD_eq_getElem?_getD, e2]
            exact rr
          · rw [List.getD_eq_getElem?_getD, e1]
            exact er
        · exact ⟨[], fun h => absurd h hi⟩
      obtain ⟨rows, hrows⟩ := Classical.axiomOfChoice each
      have sz : (as.map Value.ref).toArray.size = as.length := by simp
      have vf : Vals rws.flatten (onward rows 0 as.length) := by
        have v := vals_flat (f := fun i => rws.getD i []) (g := rows) as.length 0 fun j _ h2 => (hrows j (by omega)).1
        rw [hl, flat_getD] at v
        rw [hl]
        exact v
      refine sum_lists (I.ok.hd hc) hil.isList ⟨nz, ez⟩ rows (fun i => as.getD i 0) (fun i v e => ?_) (fun i hi => (hrows i (sz ▸ hi)).2) ?_ fun h' tk T keep e w => ?_
      · rw [List.getElem?_toArray, List.getElem?_map] at e
        obtain ⟨a, ea, rfl⟩ := Option.map_eq_some_iff.mp e
        rw [List.getD_eq_getElem?_getD, ea]
        rfl
      · rw [sz, ← vf.length]
        exact hn
      · rw [sz] at e w
        obtain ⟨c, e⟩ := e
        rcases w with ⟨rfl, w⟩ | w
        · refine ⟨.ref T, H, I.kept keep, rfl, q T H (Same.refl H) ?_⟩
          have : rws = [] := List.length_eq_zero_iff.mp (by omega)
          rw [this]
          exact hz
        · refine ⟨.ref T, _, I.laid (t' := tk) (o := .lst rws.flatten) keep w ⟨hn, _, c, vf, e⟩, rfl, q T _ (same_new (I.hok.fresh w)) upd_same⟩
/-- a tuple of nothing, some times, is itself -/
theorem tuple_mul0 (l : Addr) (n : Nat) (dd : Option Addr) (sl : Array (Option Value)) (x : Int) (u : Tok) (c0 : (decide (x < -(2 ^ 63)) || decide (x ≥ 2 ^ 63)) = false) :
    Meets (Builtin.«tuple.__mul__» ⟨[.ref l, .int x u], []⟩) (fun _ R s => s.heap.get? l = some { cls := .type "tuple", dict := dd, data := .seq #[] n, slots := sl } ∧ R (.ok (.ret (Value.ref l))) s) :=
  .of_wp fun prog w A R s h => by
    obtain ⟨hp, g, d, tk, os⟩ := s
    obtain ⟨hl, h⟩ := h
    have f1 := AutoSeq1.idx_int
    wp_walk using wpAny_loadPart' hl
    refine wpAny_ite_false (decide_eq_false (by rw [c0]; exact Bool.false_ne_true)) ?_
    wp_walk using wpAny_loadPart' hl
    exact ⟨_, rfl, h⟩
def rRepU (K : PySem.W.Frag) : R2 := fun x y H Q => ∃ l k, x = .ref l ∧ y = .int k ∧ SqT K H l [] ∧ 0 ≤ k ∧ k ≤ 1000 ∧ Q (.ref l) H
theorem op_repU {X : Cx} : OpR X (binaryOp .Mult) (rRepU X.K) := by
  intro pins s σ H x y v u Q I rx ry h
  obtain ⟨l, k, rfl, rfl, hT, h1, h2, q⟩ := h
  cases rx
  obtain ⟨t, rfl⟩ := ry
  obtain ⟨its, r, ⟨⟨cls, dd, data, sl⟩, ho, hc, n, hd⟩, hs⟩ := I.tuple hT
  cases r
  simp only at hc hd
  subst hc hd
  have c0 : (decide (k < -(2 ^ 63)) || decide (k ≥ 2 ^ 63)) = false := by
    rw [decide_eq_false (by omega), decide_eq_false (by omega)]
    rfl
  refine wpAny_binaryOp_repeat_ref (T := "tuple") (U := "int") (by decide) ⟨_, ho, rfl⟩ (fun s' => typeIs_int s' k t) noFill_tuple_mul F.fills_int_mul F.slot_int_rmul repeat_tuple F.slot_int_index.lookup
    (call_meets F.slot_int_rmul (typeIs_int s k t) F.entry_int_rmul (F.args_int_rmul_2 _ _) (int_rmul_tuple k t l _ n dd sl)
      ⟨ho, rfl, ⟨_, ho, rfl⟩, call_meets F.slot_tuple_mul ⟨_, ho, rfl⟩ F.entry_tuple_mul (F.args_tuple_mul_2 _ _) (tuple_mul0 l n dd sl k t c0) ⟨ho, ?_⟩⟩)
  exact ⟨.ref l, H, I, rfl, q⟩
end
end Ow

/-! A program's data kinds, over any data. -/
namespace Ow
open PySem PySem.Spec PyProof.Rows L2
/-! ### what goes over a tuple, whatever is done in it -/
theorem over_tup {K : PySem.W.Frag} {a : Addr} {xs : List V} {B : V → Hp → (Hp → Prop) → Prop} {Z : Hp → Prop} {H1 : Hp} (Pv : Nat → Hp → Prop) (h0 : Pv 0 H1) (hl : ∀ i H, i ≤ xs.length → Pv i H → SqT K H a xs)
    (hs : ∀ i x H, xs[i]? = some x → Pv i H → B x H (Pv (i + 1))) (hd : ∀ H, Pv xs.length H → Z H) :
    ∃ W : Nat → Nat → Hp → Prop, (∃ m, W 0 m H1) ∧ ∀ j m H, W j m H → ((Itt K a).stop j H ∧ Z H) ∨ ((Itt K a).go j H ∧ ∃ Y : Hp → Prop, (∀ H', Y H' → ∃ m', m' < m ∧ W (j + 1) m' H') ∧ ∀ x H', (Itt K a).yld j H x H' → B x H' Y) := by
  refine ⟨fun i m H => m = xs.length - i ∧ i ≤ xs.length ∧ Pv i H, ⟨_, rfl, Nat.zero_le _, h0⟩, ?_⟩
  rintro i m H ⟨rfl, hi, p⟩
  have q := hl i H hi p
  by_cases lt : i < xs.length
  · refine .inr ⟨⟨xs, xs[i], q, by simp [lt]⟩, Pv (i + 1), fun H' p' => ⟨xs.length - (i + 1), by omega, rfl, lt, p'⟩, fun x H' y => ?_⟩
    obtain ⟨rfl, y⟩ := y
    exact hs i x _ (y xs q) p
  · obtain rfl : i = xs.length := by omega
    exact .inl ⟨⟨xs, q, Nat.le_refl _⟩, hd H p⟩
theorem pi_tupK {X : Cx} {K : PySem.W.Frag} (h : X.K = K) {tg l : Expr} {tl : TE} (hl : PE X l tl) : PI X tg l (iTup K tl) := h ▸ pi_tup hl
theorem in_seqK {X : Cx} {K : PySem.W.Frag} (h : X.K = K) : OpR X (compareOp .In) (rIn K false) := h ▸ op_in_seq
theorem ok_nil {Y : Cx} : ∀ k ∈ ([] : List Cls), k.Ok Y := fun _ h => nomatch h
theorem ok_cons {Y : Cx} {c : Cls} {cs : List Cls} (pi : PI Y c.tg c.iter c.wi) (pg : PG Y c.tg c.g) (pt : PTs Y c.ifs c.tt) (fold : ∀ env x, foldedSetIterable c.iter env x = pure x) (h : ∀ k ∈ cs, k.Ok Y) : ∀ k ∈ c :: cs, k.Ok Y := fun k hk => by
  rcases List.mem_cons.mp hk with rfl | hk
  · exact ⟨pi, pg, pt, fold⟩
  · exact h k hk
/-! ### data kinds -/
def fstN : PyData → Str
  | .tuple [s, _] => nmD s
  | _ => sg ""
def sndL : PyData → List PyData
  | .tuple [_, b] => itD b
  | _ => []
def datasOk (d : PyData) : Bool := isRowD d 1 6 && ((itD d).all dataOk && (unlikeN ((itD d).map fstN) && (unlikeN (((itD d).flatMap sndL).map fstN) && (((itD d).flatMap sndL).flatMap sndL).all fun f => memD f ((itD d).map fstN))))
def progOk : PyData → Bool
  | .tuple [a, b] => datasOk a && defsOk b
  | _ => false
abbrev MkT := Str × List Str
abbrev DtT := Str × List MkT
def mkD (m : MkT) : PyData := .tuple [.str m.1, .tuple (m.2.map strD)]
def dtD (p : DtT) : PyData := .tuple [.str p.1, .tuple (p.2.map mkD)]
structure MkOk (m : MkT) : Prop where
  nm : isNameD (.str m.1) = true
  len : m.2.length ≤ 4
  all : ∀ f ∈ m.2, isNameD (.str f) = true
structure DtOk (p : DtT) : Prop where
  nm : isNameD (.str p.1) = true
  one : 1 ≤ p.2.length
  len : p.2.length ≤ 6
  all : ∀ m ∈ p.2, MkOk m
theorem maker_of {d : PyData} (h : makerOk d = true) : ∃ m : MkT, d = mkD m ∧ MkOk m := by
  unfold makerOk at h
  split at h
  · rename_i a b
    simp only [Bool.and_eq_true] at h
    obtain ⟨h1, h2, h3⟩ := h
    obtain ⟨x, rfl⟩ := name_str h1
    obtain ⟨ns, rfl, _, h4⟩ := row_tup h2
    obtain ⟨xs, rfl, hx⟩ := names_of (ns := ns) h3
    rw [List.length_map] at h4
    exact ⟨(x, xs), rfl, h1, (by omega : xs.length ≤ 4), hx⟩
  · cases h
theorem makers_of : ∀ {ds : List PyData}, ds.all makerOk = true → ∃ ms : List MkT, ds = ms.map mkD ∧ ∀ m ∈ ms, MkOk m
  | [], _ => ⟨[], rfl, fun _ z => nomatch z⟩
  | d :: ds, h => by
    rw [List.all_cons, Bool.and_eq_true] at h
    obtain ⟨m, rfl, hm⟩ := maker_of h.1
    obtain ⟨ms, rfl, hms⟩ := makers_of h.2
    refine ⟨m :: ms, rfl, fun y hy => ?_⟩
    rcases List.mem_cons.mp hy with rfl | hy
    · exact hm
    · exact hms y hy
theorem data_of {d : PyData} (h : dataOk d = true) : ∃ p : DtT, d = dtD p ∧ DtOk p := by
  unfold dataOk at h
  split at h
  · rename_i a b
    simp only [Bool.and_eq_true] at h
    obtain ⟨h1, h2, h3⟩ := h
    obtain ⟨x, rfl⟩ := name_str h1
    obtain ⟨ns, rfl, h5, h6⟩ := row_tup h2
    obtain ⟨ms, rfl, hm⟩ := makers_of (ds := ns) h3
    rw [List.length_map] at h5 h6
    exact ⟨(x, ms), rfl, h1, (by omega : 1 ≤ ms.length), (by omega : ms.length ≤ 6), hm⟩
  · cases h
theorem datas_of : ∀ {ds : List PyData}, ds.all dataOk = true → ∃ ps : List DtT, ds = ps.map dtD ∧ ∀ p ∈ ps, DtOk p
  | [], _ => ⟨[], rfl, fun _ z => nomatch z⟩
  | d :: ds, h => by
    rw [List.all_cons, Bool.and_eq_true] at h
    obtain ⟨p, rfl, hp⟩ := data_of h.1
    obtain ⟨ps, rfl, hps⟩ := datas_of h.2
    refine ⟨p :: ps, rfl, fun y hy => ?_⟩
    rcases List.mem_cons.mp hy with rfl | hy
    · exact hp
    · exact hps y hy
def mksOf (ps : List DtT) : List MkT := ps.flatMap (·.2)
def fldsOf (ps : List DtT) : List Str := (mksOf ps).flatMap (·.2)
theorem fst_dt (ps : List DtT) : (ps.map dtD).map fstN = ps.map (·.1) := by
  rw [List.map_map]
  rfl
theorem snd_dt (ps : List DtT) : (ps.map dtD).flatMap sndL = (mksOf ps).map mkD := by
  unfold mksOf
  rw [List.flatMap_map, List.map_flatMap]
  rfl
theorem snd_mk (ms : List MkT) : (ms.map mkD).flatMap sndL = (ms.flatMap (·.2)).map strD := by
  rw [List.flatMap_map, List.map_flatMap]
  rfl
theorem fst_mk (ms : List MkT) : (ms.map mkD).map fstN = ms.map (·.1) := by
  rw [List.map_map]
  rfl
theorem datas_eq (ps : List DtT) : datasOk (.tuple (ps.map dtD)) = (isRowD (.tuple (ps.map dtD)) 1 6 && ((ps.map dtD).all dataOk && (unlikeN (ps.map (·.1)) && (unlikeN ((mksOf ps).map (·.1)) && (fldsOf ps).all fun f => decide (f ∈ ps.map (·.1)))))) := by
  show (isRowD (.tuple (ps.map dtD)) 1 6 && ((ps.map dtD).all dataOk && (unlikeN ((ps.map dtD).map fstN) && (unlikeN (((ps.map dtD).flatMap sndL).map fstN) && (((ps.map dtD).flatMap sndL).flatMap sndL).all fun f => memD f ((ps.map dtD).map fstN))))) = _
  rw [fst_dt, snd_dt, fst_mk, snd_mk]
  have e : ∀ (xs zs : List Str), ((xs.map strD).all fun f => memD f zs) = xs.all fun f => decide (f ∈ zs) := fun xs zs => by
    rw [List.all_map]
    rfl
  rw [e]
  rfl
theorem flat_len {α β : Type} {f : α → List β} {k : Nat} : ∀ {xs : List α}, (∀ x ∈ xs, (f x).length ≤ k) → (xs.flatMap f).length ≤ xs.length * k
  | [], _ => Nat.zero_le _
  | x :: xs, h => by
    have h1 := h x (List.mem_cons_self ..)
    have h2 := flat_len (xs := xs) fun y hy => h y (List.mem_cons_of_mem _ hy)
    rw [List.flatMap_cons, List.length_append, List.length_cons, Nat.succ_mul]
    omega
theorem mks_len {ps : List DtT} (h : ∀ p ∈ ps, DtOk p) : (mksOf ps).length ≤ ps.length * 6 := flat_len fun p hp => (h p hp).len
theorem mks_ok {ps : List DtT} (h : ∀ p ∈ ps, DtOk p) : ∀ m ∈ mksOf ps, MkOk m := fun m hm => by
  obtain ⟨p, hp, hm⟩ := List.mem_flatMap.mp hm
  exact (h p hp).all m hm
theorem flds_len {ps : List DtT} (h : ∀ p ∈ ps, DtOk p) : (fldsOf ps).length ≤ ps.length * 6 * 4 :=
  Nat.le_trans (flat_len fun m hm => (mks_ok h m hm).len) (Nat.mul_le_mul_right _ (mks_len h))
theorem mks_take {ps : List DtT} {i : Nat} {p : DtT} (h : ps[i]? = some p) : mksOf (ps.take (i + 1)) = mksOf (ps.take i) ++ p.2 := by
  unfold mksOf
  rw [List.take_add_one, h, List.flatMap_append]
  simp
theorem flds_take {ps : List DtT} {i : Nat} {p : DtT} (h : ps[i]? = some p) : fldsOf (ps.take (i + 1)) = fldsOf (ps.take i) ++ p.2.flatMap (·.2) := by
  unfold fldsOf
  rw [mks_take h, List.flatMap_append]
theorem flat_take {α β : Type} {f : α → List β} {ms : List α} {i : Nat} {m : α} (h : ms[i]? = some m) : (ms.take (i + 1)).flatMap f = (ms.take i).flatMap f ++ f m := by
  rw [List.take_add_one, h, List.flatMap_append]
  simp
section
variable {K : PySem.W.Frag} {N : Addr → Prop} {H : Hp}
theorem Da.dt {v : V} {p : DtT} (h : Da K N H v (dtD p)) : ∃ t t2 us, v = .ref t ∧ SqT K H t [.str p.1, .ref t2] ∧ SqT K H t2 us ∧ DaAll K N H us (p.2.map mkD) := by
  obtain ⟨t, x, y, rfl, hT, ha, hb⟩ := Da.tup2 h
  obtain rfl := ha.strInv
  obtain ⟨t2, us, rfl, hT2, hA⟩ := hb.tupInv
  exact ⟨t, t2, us, rfl, hT, hT2, hA⟩
theorem Da.mk {v : V} {m : MkT} (h : Da K N H v (mkD m)) : ∃ t t2, v = .ref t ∧ SqT K H t [.str m.1, .ref t2] ∧ SqT K H t2 (m.2.map V.str) := by
  obtain ⟨t, x, y, rfl, hT, ha, hb⟩ := Da.tup2 h
  obtain rfl := ha.strInv
  obtain ⟨t2, rfl, hT2⟩ := hb.names
  exact ⟨t, t2, rfl, hT, hT2⟩
theorem map_get {α β : Type} {f : α → β} {xs : List α} {i : Nat} {y : β} (h : (xs.map f)[i]? = some y) : ∃ x, xs[i]? = some x ∧ y = f x := by
  rw [List.getElem?_map] at h
  obtain ⟨x, hx, rfl⟩ := Option.map_eq_some_iff.mp h
  exact ⟨x, hx, rfl⟩
end
end Ow

/-! Drawn programs; slices of any bounds; the law's own look at a program. -/
namespace Ow
open PySem PySem.Spec PyProof.Rows L2
/-- a tuple beside the empty one -/
def rNeU (K : PySem.W.Frag) : R2 := fun x y H Q => ∃ (a b : Addr) (xs : List V), x = .ref a ∧ y = .ref b ∧ SqT K H a xs ∧ SqT K H b [] ∧ Q (.bl (!xs.isEmpty)) H
theorem op_neU {X : Cx} (hu : X.A.units + 64 < cLine) : OpR X (compareOp .NotEq) (rNeU X.K) := by
  intro pins s σ H x y v u Q I rx ry h
  obtain ⟨a, b, xs, rfl, rfl, ha, hb, q⟩ := h
  cases rx
  cases ry
  obtain ⟨its, rv, hit, _⟩ := I.tuple ha
  obtain ⟨its2, rv2, hit2, _⟩ := I.tuple hb
  cases rv2
  refine SeqAt.RcNeAt.tuples (e := fun _ => true) hit hit2 (by omega) (fun j h1 h2 => absurd h2 (Nat.not_lt_zero _)) _ _ _ _ ?_
  refine ⟨.bl _, H, I, ?_, q⟩
  show Value.bool _ = Value.bool _
  cases rv with
  | nil => rfl
  | cons _ _ => simp
theorem listOfK {X : Cx} {K : PySem.W.Frag} (h : X.K = K) : CallR X (.type "list") (fun xs H Q => ∃ p ys, xs = [.ref p] ∧ (SqL K H p ys ∨ SqT K H p ys) ∧ ∀ l, H l = none → Q (.ref l) (upd H l (.lst ys))) := h ▸ call_list_of
/-! ### slices -/
theorem cut_some (n : Nat) (lo hi : Option Int) : ∃ a b, ∀ xs : List V, xs.length = n → cutV xs lo hi = (xs.drop a).take b := ⟨HT.sIx n 0 lo, HT.sIx n n hi - HT.sIx n 0 lo, fun xs h => by
  unfold cutV
  rw [h]⟩
theorem da_cut {K : PySem.W.Frag} {N : Addr → Prop} {H : Hp} {xs : List V} {ds : List PyData} (h : DaAll K N H xs ds) (lo hi : Option Int) : ∃ es, DaAll K N H (cutV xs lo hi) es ∧ es.Sublist ds ∧ (cutV xs lo hi).length = es.length := by
  obtain ⟨a, b, e⟩ := cut_some xs.length lo hi
  rw [e xs rfl]
  refine ⟨(ds.drop a).take b, (h.drop a).take b, (List.take_sublist _ _).trans (List.drop_sublist _ _), ((h.drop a).take b).length⟩
theorem at_last {α : Type} {xs : List α} (h : xs ≠ []) : ∃ x, atI xs (-1) = some x ∧ xs[xs.length - 1]? = some x := by
  have l : 0 < xs.length := List.length_pos_iff.mpr h
  refine ⟨xs[xs.length - 1], ?_, List.getElem?_eq_getElem _⟩
  have e : ixN xs.length (-1) = some (xs.length - 1) := by
    unfold ixN
    rw [if_neg (by omega), if_pos (by omega)]
    congr 1
    omega
  show (ixN xs.length (-1)).bind _ = _
  rw [e]
  exact List.getElem?_eq_getElem _
/-! ### programs as they are drawn -/
structure MkS (m : MkT) : Prop where
  nm : Nm m.1
  len : m.2.length ≤ 5
  all : ∀ f ∈ m.2, Nm f
structure DtS (p : DtT) : Prop where
  nm : Nm p.1
  one : 1 ≤ p.2.length
  len : p.2.length ≤ 7
  all : ∀ m ∈ p.2, MkS m
structure PsS (ps : List DtT) : Prop where
  one : 1 ≤ ps.length
  len : ps.length ≤ 7
  all : ∀ p ∈ ps, DtS p
/-- a def's row -/
abbrev DfT := Str × PyData × PyData
def dfD (f : DfT) : PyData := .tuple [.str f.1, f.2.1, f.2.2]
structure FsS (b : Nat) (fs : List DfT) : Prop where
  len : fs.length ≤ b
  all : ∀ f ∈ fs, Nm f.1 ∧ Fit 2000 60 f.2.1 ∧ Fit 42740 60 f.2.2
theorem fit_all {n m : Nat} : ∀ {ds : List PyData}, (∀ d ∈ ds, Fit n m d) → FitAll (ds.length * (n + 2)) m ds
  | [], _ => FitAll.nil.le (Nat.zero_le _) (Nat.le_refl _)
  | d :: ds, h => by
    refine (FitAll.cons (h d (List.mem_cons_self ..)) (fit_all fun e he => h e (List.mem_cons_of_mem _ he))).le ?_ (Nat.le_refl _)
    rw [List.length_cons, Nat.succ_mul]
    omega
theorem fit_map {α : Type} {f : α → PyData} {n m k : Nat} {xs : List α} (h : ∀ x ∈ xs, Fit n m (f x)) (hl : xs.length ≤ k) : FitAll (k * (n + 2)) m (xs.map f) := by
  have q : ∀ d ∈ xs.map f, Fit n m d := fun d hd => by
    obtain ⟨x, hx, rfl⟩ := List.mem_map.mp hd
    exact h x hx
  refine (fit_all q).le ?_ (Nat.le_refl _)
  rw [List.length_map]
  exact Nat.mul_le_mul_right _ hl
theorem MkS.fit {m : MkT} (h : MkS m) : Fit 562 2 (mkD m) := by
  have f := fit_map (f := strD) (k := 5) (fun x hx => fit_nm (h.all x hx)) h.len
  exact (Fit.tup (.cons ((fit_nm h.nm).le (Nat.le_refl _) (Nat.zero_le _)) (.cons (Fit.tup f) (FitAll.nil (n := 0))))).le (by omega) (by omega)
theorem DtS.fit {p : DtT} (h : DtS p) : Fit 4100 4 (dtD p) := by
  have f := fit_map (f := mkD) (k := 7) (fun x hx => (h.all x hx).fit) h.len
  exact (Fit.tup (.cons ((fit_nm h.nm).le (Nat.le_refl _) (Nat.zero_le _)) (.cons (Fit.tup f) (FitAll.nil (n := 0))))).le (by omega) (by omega)
theorem PsS.fit {ps : List DtT} (h : PsS ps) : Fit 28800 5 (.tuple (ps.map dtD)) :=
  (Fit.tup (fit_map (f := dtD) (k := 7) (fun x hx => (h.all x hx).fit) h.len)).le (by omega) (by omega)
theorem df_fit {f : DfT} (h1 : Nm f.1) (h2 : Fit 2000 60 f.2.1) (h3 : Fit 42740 60 f.2.2) : Fit 44840 61 (dfD f) :=
  (Fit.tup (.cons ((fit_nm h1).le (Nat.le_refl _) (Nat.zero_le _)) (.cons h2 (.cons h3 (FitAll.nil (n := 0)))))).le (by omega) (by omega)
theorem FsS.fit {b : Nat} {fs : List DfT} (h : FsS b fs) (hb : b ≤ 40) : Fit 1800000 62 (.tuple (fs.map dfD)) :=
  (Fit.tup (fit_map (f := dfD) (k := 40) (fun x hx => df_fit (h.all x hx).1 (h.all x hx).2.1 (h.all x hx).2.2) (Nat.le_trans h.len hb))).le (by omega) (by omega)
theorem FsS.le {b c : Nat} {fs : List DfT} (h : FsS b fs) (hb : b ≤ c) : FsS c fs := ⟨Nat.le_trans h.len hb, h.all⟩
/-- a drawn program: its data kinds and its defs, as tuples -/
structure Prg (K : PySem.W.Frag) (H : Hp) (v : V) (ps : List DtT) (fs : List DfT) : Prop where
  ex : ∃ t a b xs ys, v = .ref t ∧ SqT K H t [.ref a, .ref b] ∧ SqT K H a xs ∧ DaAll K All H xs (ps.map dtD) ∧ SqT K H b ys ∧ DaAll K All H ys (fs.map dfD)
theorem Prg.da {K : PySem.W.Frag} {H : Hp} {v : V} {ps : List DtT} {fs : List DfT} (h : Prg K H v ps fs) : Da K All H v (.tuple [.tuple (ps.map dtD), .tuple (fs.map dfD)]) := by
  obtain ⟨t, a, b, xs, ys, rfl, h1, h2, h3, h4, h5⟩ := h.ex
  exact .tup h1 (.cons (.tup h2 h3) (.cons (.tup h4 h5) .nil))
theorem Prg.of {K : PySem.W.Frag} {H : Hp} {v : V} {ps : List DtT} {fs : List DfT} (h : Da K All H v (.tuple [.tuple (ps.map dtD), .tuple (fs.map dfD)])) : Prg K H v ps fs := by
  obtain ⟨t, x, y, rfl, h1, h2, h3⟩ := Da.tup2 h
  obtain ⟨a, xs, rfl, h4, h5⟩ := h2.tupInv
  obtain ⟨b, ys, rfl, h6, h7⟩ := h3.tupInv
  exact ⟨t, a, b, xs, ys, rfl, h1, h4, h5, h6, h7⟩
theorem Prg.same {K : PySem.W.Frag} {H H' : Hp} {v : V} {ps : List DtT} {fs : List DfT} (h : Prg K H v ps fs) (s : Same H H') : Prg K H' v ps fs := .of (h.da.same s)
theorem Prg.kp {K : PySem.W.Frag} {H H' : Hp} {v : V} {ps : List DtT} {fs : List DfT} {p : Addr} (h : Prg K H v ps fs) (k : Kp p H H') (n : NoTup H p) : Prg K H' v ps fs := .of (h.da.kp k n trivial)
theorem prg_fit {ps : List DtT} {fs : List DfT} {b : Nat} (h : PsS ps) (g : FsS b fs) (hb : b ≤ 40) : Fit 1840000 63 (.tuple [.tuple (ps.map dtD), .tuple (fs.map dfD)]) :=
  (Fit.tup (.cons (h.fit.le (Nat.le_refl _) (by omega)) (.cons (g.fit hb) (FitAll.nil (n := 0))))).le (by omega) (by omega)
/-! ### what the law's drawing promises -/
def spProg (K : PySem.W.Frag) : Sp := fun vs H Q _ => ∃ (p c : Addr) (a b f n : Int), vs = [.ref p, .int a, .int b, .int f, .int n] ∧ 1 ≤ a ∧ a ≤ 7 ∧ 1 ≤ b ∧ b ≤ 7 ∧ 0 ≤ f ∧ f ≤ 5 ∧ 0 ≤ n ∧ n ≤ 17 ∧ Pen H p c ∧
  ∀ (v : V) (ps : List DtT) (fs : List DfT) (H' : Hp), Prg K H' v ps fs → PsS ps → FsS n.toNat fs → fs.length = n.toNat → Pen H' p c → Kp p H H' → Q v H'
def spBeyond (K : PySem.W.Frag) : Sp := fun vs H Q _ => ∃ (p c : Addr), vs = [.ref p] ∧ Pen H p c ∧ ∀ (v : V) (d : PyData) (H' : Hp), Da K All H' v d → Fit 42740 60 d → Pen H' p c → Kp p H H' → Q v H'
def spChanged (K : PySem.W.Frag) : Sp := fun vs H Q _ => ∃ (p c : Addr) (v : V) (ps : List DtT) (fs : List DfT) (b : Nat), vs = [.ref p, v] ∧ Pen H p c ∧ Prg K H v ps fs ∧ PsS ps ∧ FsS b fs ∧ b ≤ 40 ∧
  ∀ (v' : V) (ps' : List DtT) (fs' : List DfT) (H' : Hp), Prg K H' v' ps' fs' → PsS ps' → FsS b fs' → Pen H' p c → Kp p H H' → Q v' H'
end Ow
namespace Ow
open PySem PySem.Spec PyProof.Rows L2
/-! ### the law's own look at a program -/
def lMk : PyData → Bool
  | .tuple [c, f] => isNameD c && isRowD f 0 4
  | _ => false
def lDt : PyData → Bool
  | .tuple [s, ms] => isNameD s && (isRowD ms 1 6 && (itD ms).all lMk)
  | _ => false
theorem lMk_no {d : PyData} (h : isRowD d 2 2 = false) : lMk d = false := by
  unfold lMk
  split
  · simp [isRowD] at h
  · rfl
theorem lDt_no {d : PyData} (h : isRowD d 2 2 = false) : lDt d = false := by
  unfold lDt
  split
  · simp [isRowD] at h
  · rfl
theorem iteND {c A B : Prop} [Decidable c] (hc : c) (h : B) : if (!decide c) = true then A else B := by
  rw [decide_eq_true hc]
  exact h
theorem row_two {ds : List PyData} (h : ¬ ds.length = 2) : isRowD (.tuple ds) 2 2 = false := by
  rw [row_is]
  exact decide_eq_false fun z => h (by omega)
theorem row_three {ds : List PyData} (h : ¬ ds.length = 3) : isRowD (.tuple ds) 3 3 = false := by
  rw [row_is]
  exact decide_eq_false fun z => h (by omega)
theorem int_ne {a b : Nat} (h : ¬ a = b) : ¬ V.int (a : Int) = V.int (b : Int) := fun z => by
  injection z with z
  exact h (Int.ofNat.inj z)
/-- what the law's look lets by: names, makers with fields of any kind -/
abbrev LmT := Str × List PyData
abbrev LdT := Str × List LmT
def lmD (m : LmT) : PyData := .tuple [.str m.1, .tuple m.2]
def ldD (p : LdT) : PyData := .tuple [.str p.1, .tuple (p.2.map lmD)]
structure LmOk (m : LmT) : Prop where
  nm : isNameD (.str m.1) = true
  len : m.2.length ≤ 4
structure LdOk (p : LdT) : Prop where
  nm : isNameD (.str p.1) = true
  one : 1 ≤ p.2.length
  len : p.2.length ≤ 6
  all : ∀ m ∈ p.2, LmOk m
theorem all_of {α : Type} {f : α → PyData} {P : PyData → Bool} {R : α → Prop} (h : ∀ d, P d = true → ∃ x, d = f x ∧ R x) : ∀ {ds : List PyData}, ds.all P = true → ∃ xs : List α, ds = xs.map f ∧ ∀ x ∈ xs, R x
  | [], _ => ⟨[], rfl, fun _ z => nomatch z⟩
  | d :: ds, g => by
    rw [List.all_cons, Bool.and_eq_true] at g
    obtain ⟨x, rfl, hx⟩ := h d g.1
    obtain ⟨xs, rfl, hxs⟩ := all_of h g.2
    refine ⟨x :: xs, rfl, fun y hy => ?_⟩
    rcases List.mem_cons.mp hy with rfl | hy
    · exact hx
    · exact hxs y hy
theorem lm_of (d : PyData) (h : lMk d = true) : ∃ m : LmT, d = lmD m ∧ LmOk m := by
  unfold lMk at h
  split at h
  · rename_i a b
    simp only [Bool.and_eq_true] at h
    obtain ⟨x, rfl⟩ := name_str h.1
    obtain ⟨ns, rfl, _, h4⟩ := row_tup h.2
    exact ⟨(x, ns), rfl, h.1, (by omega : ns.length ≤ 4)⟩
  · cases h
theorem ld_of (d : PyData) (h : lDt d = true) : ∃ p : LdT, d = ldD p ∧ LdOk p := by
  unfold lDt at h
  split at h
  · rename_i a b
    simp only [Bool.and_eq_true] at h
    obtain ⟨h1, h2, h3⟩ := h
    obtain ⟨x, rfl⟩ := name_str h1
    obtain ⟨ns, rfl, h5, h6⟩ := row_tup h2
    obtain ⟨ms, rfl, hm⟩ := all_of lm_of (ds := ns) h3
    rw [List.length_map] at h5 h6
    exact ⟨(x, ms), rfl, h1, (by omega : 1 ≤ ms.length), (by omega : ms.length ≤ 6), hm⟩
  · cases h
def lmsOf (ps : List LdT) : List LmT := ps.flatMap (·.2)
def lfsOf (ps : List LdT) : List PyData := (lmsOf ps).flatMap (·.2)
theorem lms_len {ps : List LdT} (h : ∀ p ∈ ps, LdOk p) : (lmsOf ps).length ≤ ps.length * 6 := flat_len fun p hp => (h p hp).len
theorem lms_ok {ps : List LdT} (h : ∀ p ∈ ps, LdOk p) : ∀ m ∈ lmsOf ps, LmOk m := fun m hm => by
  obtain ⟨p, hp, hm⟩ := List.mem_flatMap.mp hm
  exact (h p hp).all m hm
theorem lfs_len {ps : List LdT} (h : ∀ p ∈ ps, LdOk p) : (lfsOf ps).length ≤ ps.length * 6 * 4 :=
  Nat.le_trans (flat_len fun m hm => (lms_ok h m hm).len) (Nat.mul_le_mul_right _ (lms_len h))
theorem fst_ld (ps : List LdT) : (ps.map ldD).map fstN = ps.map (·.1) := by
  rw [List.map_map]
  rfl
theorem snd_ld (ps : List LdT) : (ps.map ldD).flatMap sndL = (lmsOf ps).map lmD := by
  unfold lmsOf
  rw [List.flatMap_map, List.map_flatMap]
  rfl
theorem snd_lm (ms : List LmT) : (ms.map lmD).flatMap sndL = ms.flatMap (·.2) := by
  rw [List.flatMap_map]
  rfl
theorem fst_lm (ms : List LmT) : (ms.map lmD).map fstN = ms.map (·.1) := by
  rw [List.map_map]
  rfl
theorem memD_name {f : PyData} {zs : List Str} (hz : ∀ z ∈ zs, isNameD (.str z) = true) (h : memD f zs = true) : isNameD f = true := by
  cases f with
  | str x => exact hz x (of_decide_eq_true h)
  | _ => cases h
/-- of such data kinds the program's look asks no more than names that are unlike and fields of them -/
theorem datas_ld {ps : List LdT} (h : ∀ p ∈ ps, LdOk p) (h1 : 1 ≤ ps.length) (h6 : ps.length ≤ 6) :
    datasOk (.tuple (ps.map ldD)) = (unlikeN (ps.map (·.1)) && (unlikeN ((lmsOf ps).map (·.1)) && (lfsOf ps).all fun f => memD f (ps.map (·.1)))) := by
  have e : datasOk (.tuple (ps.map ldD)) = (isRowD (.tuple (ps.map ldD)) 1 6 && ((ps.map ldD).all dataOk && (unlikeN (ps.map (·.1)) && (unlikeN ((lmsOf ps).map (·.1)) && (lfsOf ps).all fun f => memD f (ps.map (·.1)))))) := by
    show (isRowD (.tuple (ps.map ldD)) 1 6 && ((ps.map ldD).all dataOk && (unlikeN ((ps.map ldD).map fstN) && (unlikeN (((ps.map ldD).flatMap sndL).map fstN) && (((ps.map ldD).flatMap sndL).flatMap sndL).all fun f => memD f ((ps.map ldD).map fstN))))) = _
    rw [fst_ld, snd_ld, fst_lm, snd_lm]
    rfl
  rw [e, row_ok (by rw [List.length_map]; omega) (by rw [List.length_map]; omega), Bool.true_and]
  cases hf : (lfsOf ps).all fun f => memD f (ps.map (·.1)) with
  | false => simp
  | true =>
    have : (ps.map ldD).all dataOk = true := by
      rw [List.all_eq_true]
      intro d hd
      obtain ⟨p, hp, rfl⟩ := List.mem_map.mp hd
      have hpo := h p hp
      show (isNameD (.str p.1) && (isRowD (.tuple (p.2.map lmD)) 1 6 && (p.2.map lmD).all makerOk)) = true
      have o1 := hpo.one
      have o2 := hpo.len
      rw [hpo.nm, row_ok (by rw [List.length_map]; omega) (by rw [List.length_map]; omega), Bool.true_and, Bool.true_and, List.all_eq_true]
      intro e he
      obtain ⟨m, hm, rfl⟩ := List.mem_map.mp he
      have hmo := hpo.all m hm
      have o3 := hmo.len
      show (isNameD (.str m.1) && (isRowD (.tuple m.2) 0 4 && m.2.all isNameD)) = true
      rw [hmo.nm, row_ok (by omega) (by omega), Bool.true_and, Bool.true_and, List.all_eq_true]
      intro f hf2
      rw [List.all_eq_true] at hf
      refine memD_name (zs := ps.map (·.1)) (fun z hz => ?_) (hf f (List.mem_flatMap.mpr ⟨m, List.mem_flatMap.mpr ⟨p, hp, hm⟩, hf2⟩))
      obtain ⟨q, hq, rfl⟩ := List.mem_map.mp hz
      exact (h q hq).nm
    rw [this, Bool.true_and]
/-- data kinds that the law's look doesn't let by aren't the program's -/
theorem dt_ld {d : PyData} (h : dataOk d = true) : lDt d = true := by
  obtain ⟨p, rfl, hp⟩ := data_of h
  have o1 := hp.one
  have o2 := hp.len
  show (isNameD (.str p.1) && (isRowD (.tuple (p.2.map mkD)) 1 6 && (p.2.map mkD).all lMk)) = true
  rw [hp.nm, row_ok (by rw [List.length_map]; omega) (by rw [List.length_map]; omega), Bool.true_and, Bool.true_and, List.all_eq_true]
  intro e he
  obtain ⟨m, hm, rfl⟩ := List.mem_map.mp he
  have hmo := hp.all m hm
  have o3 := hmo.len
  show (isNameD (.str m.1) && isRowD (.tuple (m.2.map strD)) 0 4) = true
  rw [hmo.nm, row_ok (by omega) (by rw [List.length_map]; omega)]
  rfl
theorem datas_no {ds : List PyData} (h : ds.all lDt = false) : datasOk (.tuple ds) = false := by
  cases e : ds.all dataOk with
  | false =>
    show (isRowD (.tuple ds) 1 6 && (ds.all dataOk && _)) = false
    rw [e, Bool.false_and, Bool.and_false]
  | true =>
    rw [List.all_eq_true] at e
    have : ds.all lDt = true := List.all_eq_true.mpr fun d hd => dt_ld (e d hd)
    rw [this] at h
    cases h
theorem datas_row {d : PyData} (h : isRowD d 1 6 = false) : datasOk d = false := by
  unfold datasOk
  rw [h]
  rfl
theorem unl_lt (xs : List Str) : decide (((dd [] xs).length : Int) < (xs.length : Int)) = !unlikeN xs := by
  have h := dd_len xs []
  have e : ([] : List Str).length = 0 := rfl
  unfold unlikeN
  by_cases c : (dd [] xs).length = xs.length
  · rw [decide_eq_true c, decide_eq_false (by omega)]
    rfl
  · rw [decide_eq_false c, decide_eq_true (by omega)]
    rfl
end Ow
namespace Ow
open PySem PySem.Spec PyProof.Rows L2
/-! ### one of a row is exchanged -/
def setAt {α : Type} (l : List α) (j : Nat) (x : α) : List α := (l.take j ++ [x]) ++ l.drop (j + 1)
theorem setAt_len {α : Type} {l : List α} {j : Nat} {x : α} (h : j < l.length) : (setAt l j x).length = l.length := by
  unfold setAt
  rw [List.length_append, List.length_append, List.length_take, List.length_drop]
  have : [x].length = 1 := rfl
  omega
theorem setAt_mem {α : Type} {l : List α} {j : Nat} {x y : α} (h : y ∈ setAt l j x) : y = x ∨ y ∈ l := by
  unfold setAt at h
  rcases List.mem_append.mp h with h | h
  · rcases List.mem_append.mp h with h | h
    · exact .inr (List.mem_of_mem_take h)
    · exact .inl (List.mem_singleton.mp h)
  · exact .inr (List.mem_of_mem_drop h)
theorem setAt_map {α β : Type} {f : α → β} {l : List α} {j : Nat} {x : α} : (setAt l j x).map f = setAt (l.map f) j (f x) := by
  unfold setAt
  rw [List.map_append, List.map_append, List.map_take, List.map_drop]
  rfl
theorem da_setAt {K : PySem.W.Frag} {N : Addr → Prop} {H : Hp} {xs : List V} {ds : List PyData} {v : V} {d : PyData} (h : DaAll K N H xs ds) (g : Da K N H v d) (j : Nat) : DaAll K N H ((xs.take j ++ [v]) ++ xs.drop (j + 1)) (setAt ds j d) :=
  ((h.take j).append (.cons g .nil)).append (h.drop (j + 1))
theorem da_all_at {α : Type} {K : PySem.W.Frag} {N : Addr → Prop} {H : Hp} {f : α → PyData} {xs : List V} {ps : List α} (h : DaAll K N H xs (ps.map f)) {i : Nat} (hi : i < ps.length) : ∃ v, xs[i]? = some v ∧ Da K N H v (f ps[i]) := by
  have hl := h.length
  rw [List.length_map] at hl
  have hx : i < xs.length := by omega
  obtain ⟨d, e1, e2⟩ := h.get (List.getElem?_eq_getElem hx)
  rw [List.getElem?_map, List.getElem?_eq_getElem hi] at e1
  cases e1
  exact ⟨_, List.getElem?_eq_getElem hx, e2⟩
end Ow
namespace Ow
open PySem PySem.Spec PyProof.Rows L2
/-- a tuple, some times -/
def rRepA (K : PySem.W.Frag) : R2 := fun x y H Q => ∃ l k xs, x = .ref l ∧ y = .int k ∧ SqT K H l xs ∧ 2 ≤ k ∧ k ≤ 1000 ∧ xs.length ≤ 1000 ∧ ∀ t H', Same H H' → SqT K H' t (List.replicate k.toNat xs).flatten → Q (.ref t) H'
theorem op_repA {X : Cx} : OpR X (binaryOp .Mult) (rRepA X.K) := by
  intro pins s σ H x y v u Q I rx ry h
  obtain ⟨l, k, xs, rfl, rfl, hT, h2, h3, hl, q⟩ := h
  by_cases e : xs = []
  · subst e
    refine op_repU pins s σ H _ _ v u Q I rx ry ⟨l, k, rfl, rfl, hT, by omega, h3, q l H (Same.refl H) ?_⟩
    rw [show (List.replicate k.toNat ([] : List V)).flatten = [] by simp]
    exact hT
  · exact op_repT pins s σ H _ _ v u Q I rx ry ⟨l, k, xs, rfl, rfl, hT, e, h2, h3, hl, fun p hp => q p _ (same_new hp) (SqT.of upd_same)⟩
theorem prog_none : progOk (.tuple [.tuple [], .tuple []]) = false := by
  show (datasOk (.tuple []) && defsOk (.tuple [])) = false
  rw [datas_row (by decide)]
  rfl
end Ow

namespace Ow
open PySem PySem.Spec PyProof.Rows L2
def top (i : Nat) : Stmt := PySem.Challenge.pw_oncewire_k04_programs_known.main.body.getD i (.Pass ⟨0, 0, 0, 0⟩)
abbrev s_is_row : Stmt := top 12
abbrev sl_is_row : List Str := ["thing", "least", "most"]
theorem sc_is_row : FnScope sl_is_row ["thing", "least", "most"] (defScope s_is_row) := ⟨rfl, rfl, rfl, by decide +kernel, rfl, by decide +kernel, by decide +kernel⟩
abbrev s_are_unlike : Stmt := top 13
abbrev sl_are_unlike : List Str := ["names"]
theorem sc_are_unlike : FnScope sl_are_unlike ["names"] (defScope s_are_unlike) := ⟨rfl, rfl, rfl, by decide +kernel, rfl, by decide +kernel, by decide +kernel⟩
abbrev s_is_name : Stmt := top 14
abbrev sl_is_name : List Str := ["thing", "letter"]
theorem sc_is_name : FnScope sl_is_name ["thing"] (defScope s_is_name) := ⟨rfl, rfl, rfl, by decide +kernel, rfl, by decide +kernel, by decide +kernel⟩
abbrev s_is_kind : Stmt := top 15
abbrev sl_is_kind : List Str := ["thing"]
theorem sc_is_kind : FnScope sl_is_kind ["thing"] (defScope s_is_kind) := ⟨rfl, rfl, rfl, by decide +kernel, rfl, by decide +kernel, by decide +kernel⟩
abbrev s_is_kind_within : Stmt := top 16
abbrev sl_is_kind_within : List Str := ["thing", "most"]
theorem sc_is_kind_within : FnScope sl_is_kind_within ["thing", "most"] (defScope s_is_kind_within) := ⟨rfl, rfl, rfl, by decide +kernel, rfl, by decide +kernel, by decide +kernel⟩
abbrev s_is_term : Stmt := top 17
abbrev sl_is_term : List Str := ["thing", "rows", "many", "one", "within", "_", "inner"]
theorem sc_is_term : FnScope sl_is_term ["thing"] (defScope s_is_term) := ⟨rfl, rfl, rfl, by decide +kernel, rfl, by decide +kernel, by decide +kernel⟩
abbrev s_is_formed : Stmt := top 18
abbrev sl_is_formed : List Str := ["thing", "slots", "slot", "item"]
theorem sc_is_formed : FnScope sl_is_formed ["thing"] (defScope s_is_formed) := ⟨rfl, rfl, rfl, by decide +kernel, rfl, by decide +kernel, by decide +kernel⟩
abbrev s_fits_slot : Stmt := top 19
abbrev sl_fits_slot : List Str := ["slot", "thing", "row"]
theorem sc_fits_slot : FnScope sl_fits_slot ["slot", "thing"] (defScope s_fits_slot) := ⟨rfl, rfl, rfl, by decide +kernel, rfl, by decide +kernel, by decide +kernel⟩
abbrev s_is_case : Stmt := top 20
abbrev sl_is_case : List Str := ["thing", "maker", "names", "_", "name"]
theorem sc_is_case : FnScope sl_is_case ["thing"] (defScope s_is_case) := ⟨rfl, rfl, rfl, by decide +kernel, rfl, by decide +kernel, by decide +kernel⟩
abbrev s_below : Stmt := top 21
abbrev sl_below : List Str := ["term", "inner", "_", "names"]
theorem sc_below : FnScope sl_below ["term"] (defScope s_below) := ⟨rfl, rfl, rfl, by decide +kernel, rfl, by decide +kernel, by decide +kernel⟩
abbrev s_is_program : Stmt := top 22
abbrev sl_is_program : List Str := ["thing"]
theorem sc_is_program : FnScope sl_is_program ["thing"] (defScope s_is_program) := ⟨rfl, rfl, rfl, by decide +kernel, rfl, by decide +kernel, by decide +kernel⟩
abbrev s_are_datas : Stmt := top 23
abbrev sl_are_datas : List Str := ["thing", "row", "datas", "name", "_", "makers", "rows", "maker", "fields", "field"]
theorem sc_are_datas : FnScope sl_are_datas ["thing"] (defScope s_are_datas) := ⟨rfl, rfl, rfl, by decide +kernel, rfl, by decide +kernel, by decide +kernel⟩
abbrev s_is_data : Stmt := top 24
abbrev sl_is_data : List Str := ["thing", "row"]
theorem sc_is_data : FnScope sl_is_data ["thing"] (defScope s_is_data) := ⟨rfl, rfl, rfl, by decide +kernel, rfl, by decide +kernel, by decide +kernel⟩
abbrev s_is_maker : Stmt := top 25
abbrev sl_is_maker : List Str := ["thing", "field"]
theorem sc_is_maker : FnScope sl_is_maker ["thing"] (defScope s_is_maker) := ⟨rfl, rfl, rfl, by decide +kernel, rfl, by decide +kernel, by decide +kernel⟩
abbrev s_are_defs : Stmt := top 26
abbrev sl_are_defs : List Str := ["thing", "row", "name", "_"]
theorem sc_are_defs : FnScope sl_are_defs ["thing"] (defScope s_are_defs) := ⟨rfl, rfl, rfl, by decide +kernel, rfl, by decide +kernel, by decide +kernel⟩
abbrev s_is_def : Stmt := top 27
abbrev sl_is_def : List Str := ["thing"]
theorem sc_is_def : FnScope sl_is_def ["thing"] (defScope s_is_def) := ⟨rfl, rfl, rfl, by decide +kernel, rfl, by decide +kernel, by decide +kernel⟩
abbrev s_law_pen : Stmt := top 29
abbrev sl_law_pen : List Str := ["_law_script"]
theorem sc_law_pen : FnScope sl_law_pen ["_law_script"] (defScope s_law_pen) := ⟨rfl, rfl, rfl, by decide +kernel, rfl, by decide +kernel, by decide +kernel⟩
abbrev s_law_fresh : Stmt := top 30
abbrev sl_law_fresh : List Str := ["_law_pen_here", "_law_spot", "_law_cell", "_law_one", "_law_two", "_law_three"]
theorem sc_law_fresh : FnScope sl_law_fresh ["_law_pen_here"] (defScope s_law_fresh) := ⟨rfl, rfl, rfl, by decide +kernel, rfl, by decide +kernel, by decide +kernel⟩
abbrev s_law_draw : Stmt := top 31
abbrev sl_law_draw : List Str := ["_law_pen_here", "_law_below", "_law_found"]
theorem sc_law_draw : FnScope sl_law_draw ["_law_pen_here", "_law_below"] (defScope s_law_draw) := ⟨rfl, rfl, rfl, by decide +kernel, rfl, by decide +kernel, by decide +kernel⟩
abbrev s_law_name : Stmt := top 32
abbrev sl_law_name : List Str := ["_law_pen_here", "_law_gone", "_law_letters", "_law_found", "_law_turn", "_law_front", "_law_k"]
theorem sc_law_name : FnScope sl_law_name ["_law_pen_here", "_law_gone"] (defScope s_law_name) := ⟨rfl, rfl, rfl, by decide +kernel, rfl, by decide +kernel, by decide +kernel⟩
abbrev s_law_any : Stmt := top 33
abbrev sl_law_any : List Str := ["_law_pen_here", "_law_deep", "_law_road", "_law_some", "_law_turn"]
theorem sc_law_any : FnScope sl_law_any ["_law_pen_here", "_law_deep"] (defScope s_law_any) := ⟨rfl, rfl, rfl, by decide +kernel, rfl, by decide +kernel, by decide +kernel⟩
abbrev s_law_spoiled : Stmt := top 34
abbrev sl_law_spoiled : List Str := ["_law_pen_here", "_law_thing", "_law_deep", "_law_spot", "_law_road"]
theorem sc_law_spoiled : FnScope sl_law_spoiled ["_law_pen_here", "_law_thing", "_law_deep"] (defScope s_law_spoiled) := ⟨rfl, rfl, rfl, by decide +kernel, rfl, by decide +kernel, by decide +kernel⟩
abbrev s_law_rough_kind : Stmt := top 35
abbrev sl_law_rough_kind : List Str := ["_law_pen_here", "_law_deep", "_law_sign"]
theorem sc_law_rough_kind : FnScope sl_law_rough_kind ["_law_pen_here", "_law_deep"] (defScope s_law_rough_kind) := ⟨rfl, rfl, rfl, by decide +kernel, rfl, by decide +kernel, by decide +kernel⟩
abbrev s_law_few : Stmt := top 36
abbrev sl_law_few : List Str := ["_law_pen_here"]
theorem sc_law_few : FnScope sl_law_few ["_law_pen_here"] (defScope s_law_few) := ⟨rfl, rfl, rfl, by decide +kernel, rfl, by decide +kernel, by decide +kernel⟩
abbrev s_law_row : Stmt := top 37
abbrev sl_law_row : List Str := ["_law_pen_here", "_law_often", "_law_found", "_law_turn", "_law_nym"]
theorem sc_law_row : FnScope sl_law_row ["_law_pen_here", "_law_often"] (defScope s_law_row) := ⟨rfl, rfl, rfl, by decide +kernel, rfl, by decide +kernel, by decide +kernel⟩
abbrev s_law_rough : Stmt := top 38
abbrev sl_law_rough : List Str := ["_law_pen_here", "_law_deep", "_law_road", "_law_first", "_law_often", "_law_turn", "_law_cases", "_law_some"]
theorem sc_law_rough : FnScope sl_law_rough ["_law_pen_here", "_law_deep"] (defScope s_law_rough) := ⟨rfl, rfl, rfl, by decide +kernel, rfl, by decide +kernel, by decide +kernel⟩
abbrev s_law_is_name : Stmt := top 39
abbrev sl_law_is_name : List Str := ["_law_thing", "_law_one"]
theorem sc_law_is_name : FnScope sl_law_is_name ["_law_thing"] (defScope s_law_is_name) := ⟨rfl, rfl, rfl, by decide +kernel, rfl, by decide +kernel, by decide +kernel⟩
abbrev s_law_is_kind : Stmt := top 40
abbrev sl_law_is_kind : List Str := ["_law_thing", "_law_deep"]
theorem sc_law_is_kind : FnScope sl_law_is_kind ["_law_thing", "_law_deep"] (defScope s_law_is_kind) := ⟨rfl, rfl, rfl, by decide +kernel, rfl, by decide +kernel, by decide +kernel⟩
abbrev s_law_are_unlike : Stmt := top 41
abbrev sl_law_are_unlike : List Str := ["_law_thing", "_law_often", "_law_one"]
theorem sc_law_are_unlike : FnScope sl_law_are_unlike ["_law_thing", "_law_often"] (defScope s_law_are_unlike) := ⟨rfl, rfl, rfl, by decide +kernel, rfl, by decide +kernel, by decide +kernel⟩
abbrev s_law_sizes : Stmt := top 42
abbrev sl_law_sizes : List Str := ["_law_some"]
theorem sc_law_sizes : FnScope sl_law_sizes ["_law_some"] (defScope s_law_sizes) := ⟨rfl, rfl, rfl, by decide +kernel, rfl, by decide +kernel, by decide +kernel⟩
abbrev s_law_sized : Stmt := top 43
abbrev sl_law_sized : List Str := ["_law_thing", "_law_deep", "_law_sign", "_law_often", "_law_inner", "_law_good", "_law_one", "_law_found"]
theorem sc_law_sized : FnScope sl_law_sized ["_law_thing", "_law_deep"] (defScope s_law_sized) := ⟨rfl, rfl, rfl, by decide +kernel, rfl, by decide +kernel, by decide +kernel⟩
abbrev s_law_is_term : Stmt := top 44
abbrev sl_law_is_term : List Str := ["_law_thing", "_law_found"]
theorem sc_law_is_term : FnScope sl_law_is_term ["_law_thing"] (defScope s_law_is_term) := ⟨rfl, rfl, rfl, by decide +kernel, rfl, by decide +kernel, by decide +kernel⟩
abbrev s_law_rough_program : Stmt := top 45
abbrev sl_law_rough_program : List Str := ["_law_pen_here", "_law_datas", "_law_makers", "_law_fields", "_law_defs", "_law_sorts", "_law_gone", "_law_found", "_law_turn", "_law_sort", "_law_some", "_law_often", "_law_k", "_law_nyms", "_law_rows"]
theorem sc_law_rough_program : FnScope sl_law_rough_program ["_law_pen_here", "_law_datas", "_law_makers", "_law_fields", "_law_defs"] (defScope s_law_rough_program) := ⟨rfl, rfl, rfl, by decide +kernel, rfl, by decide +kernel, by decide +kernel⟩
abbrev s_law_chain : Stmt := top 46
abbrev sl_law_chain : List Str := ["_law_pen_here", "_law_often", "_law_found", "_law_turn"]
theorem sc_law_chain : FnScope sl_law_chain ["_law_pen_here", "_law_often"] (defScope s_law_chain) := ⟨rfl, rfl, rfl, by decide +kernel, rfl, by decide +kernel, by decide +kernel⟩
abbrev s_law_beyond : Stmt := top 47
abbrev sl_law_beyond : List Str := ["_law_pen_here", "_law_nest", "_law_more", "_law_wide"]
theorem sc_law_beyond : FnScope sl_law_beyond ["_law_pen_here"] (defScope s_law_beyond) := ⟨rfl, rfl, rfl, by decide +kernel, rfl, by decide +kernel, by decide +kernel⟩
abbrev s_law_is_data : Stmt := top 48
abbrev sl_law_is_data : List Str := ["_law_thing", "_law_one"]
theorem sc_law_is_data : FnScope sl_law_is_data ["_law_thing"] (defScope s_law_is_data) := ⟨rfl, rfl, rfl, by decide +kernel, rfl, by decide +kernel, by decide +kernel⟩
abbrev s_law_is_program : Stmt := top 49
abbrev sl_law_is_program : List Str := ["_law_thing", "_law_datas", "_law_defs", "_law_one", "_law_sorts", "_law_makers", "_law_nyms", "_law_fields"]
theorem sc_law_is_program : FnScope sl_law_is_program ["_law_thing"] (defScope s_law_is_program) := ⟨rfl, rfl, rfl, by decide +kernel, rfl, by decide +kernel, by decide +kernel⟩
abbrev s_law_changed : Stmt := top 50
abbrev sl_law_changed : List Str := ["_law_pen_here", "_law_thing", "_law_datas", "_law_defs", "_law_road", "_law_spot", "_law_sort", "_law_makers", "_law_k", "_law_other", "_law_nym", "_law_more", "_law_some"]
theorem sc_law_changed : FnScope sl_law_changed ["_law_pen_here", "_law_thing"] (defScope s_law_changed) := ⟨rfl, rfl, rfl, by decide +kernel, rfl, by decide +kernel, by decide +kernel⟩
abbrev s_law_truth : Stmt := top 51
abbrev sl_law_truth : List Str := ["_law_found", "_law_due"]
theorem sc_law_truth : FnScope sl_law_truth ["_law_found", "_law_due"] (defScope s_law_truth) := ⟨rfl, rfl, rfl, by decide +kernel, rfl, by decide +kernel, by decide +kernel⟩
abbrev s_law : Stmt := top 52
abbrev sl_law : List Str := ["_law_script", "_law_pen_here", "_law_turn", "_law_road", "_law_wide", "_law_often", "_law_thing", "_law_more", "_law_seen"]
theorem sc_law : FnScope sl_law ["_law_script"] (defScope s_law) := ⟨rfl, rfl, rfl, by decide +kernel, rfl, by decide +kernel, by decide +kernel⟩
section
variable {P : Program} {w : World} {K : PySem.W.Frag} {mg : Str → Option Value} {base : Heap}
theorem ok_pen (D : DefAt K mg "_law_pen" s_law_pen ["_law_script"]) (T : Bl mg) : CallOk P w K mg base 1 "_law_pen" ["_law_script"] (spPen K) := by
  refine D.ok sc_law_pen (fun vs H Q E h => ?_) (fun f cdv A outer s H vs Q E hr h => ?_)
  · obtain ⟨a, ns, rfl, _⟩ := h
    rfl
  · obtain ⟨a, ns, rfl, hS, hl, k⟩ := h
    refine ⟨_, (pss_one (ps_ret (pe_lst (pa_cons (pe_callTy call_list_of (by rfl) T.list_ (by decide +kernel) (pa_cons (pe_slice sl_list (pv 0) po_none (po_some pe_int)) pa_nil)) (pa_cons pe_int (pa_cons pe_int pa_nil)))))), ?_⟩
    refine ⟨_, rfl, 60, rfl, a, ns.map V.int, rfl, hS, fun q hq => ?_⟩
    refine ⟨q, _, rfl, .inl (SqL.of upd_same), fun r hr2 => ?_⟩
    refine ⟨le_line (by show 3 ≤ 16000000; decide), fun p hp => ?_⟩
    have n1 : r ≠ p := ne_of_none upd_same hp
    have s1 : Same H (upd (upd (upd H q (.lst (cutV (ns.map V.int) none (some 60)))) r (.lst (cutV (ns.map V.int) none (some 60)))) p (.lst [.ref r, .int 0, .int 0])) := Same.lay (Same.lay (same_new hq) hr2) hp
    refine k p r _ ⟨⟨0, 0, upd_same⟩, ns.take (min 60 ns.length), ?_, ?_⟩ s1 ?_ ?_
    · rw [upd_ne n1, upd_same, show ((60 : Int)) = ((60 : Nat) : Int) from rfl, cut_front]
    · rw [List.length_take]
      omega
    · exact (Same.lay (same_new hq) hr2).free hp
    · exact (same_new hq).free hr2
theorem ok_fresh (D : DefAt K mg "_law_fresh" s_law_fresh ["_law_pen_here"]) (T : Bl mg) : CallOk P w K mg base 1 "_law_fresh" ["_law_pen_here"] spFresh := by
  refine D.ok sc_law_fresh (fun vs H Q E h => ?_) (fun f cdv A outer s H vs Q E hr h => ?_)
  · obtain ⟨p, c, rfl, _⟩ := h
    rfl
  · obtain ⟨p, c, rfl, hP, k⟩ := h
    refine ⟨_, (pss_cons (ps_set (i := 1) sc_law_fresh.nd rfl (Or.inl rfl) (pe_ix ix_list (pv 0) pe_int (fun _ _ => rfl)))
        (pss_cons (ps_asg (pe_op opAdd (pv 1) pe_int) (pg_sub (pv 0) pe_int set_list))
        (pss_cons (ps_set (i := 2) sc_law_fresh.nd rfl (Or.inl rfl) (pe_op op_mul (pv 1) pe_int))
        (Evl.pss_cut (ps_if (pt_cmpR (op_neD hr.units) (pe_ix ix_list (pv 0) pe_int (fun _ _ => rfl)) (pe_lst pa_nil) (nomark _)) (pss_one (ps_set (i := 2) sc_law_fresh.nd rfl (Or.inl rfl) (pe_ix ix_list (pe_ix ix_list (pv 0) pe_int (fun _ _ => rfl)) (pe_op op_mod (pv 1) (pe_callB call_len_seq (by rfl) T.len_ (by decide +kernel) (pa_cons (pe_ix ix_list (pv 0) pe_int (fun _ _ => rfl)) pa_nil))) (fun _ _ => rfl)))) pss_nil)
        (pss_cons (ps_if (PW.pt (pw_and (pt_cmpR op_lt (pv 1) (pe_callB call_len_seq (by rfl) T.len_ (by decide +kernel) (pa_cons (pe_ix ix_list (pv 0) pe_int (fun _ _ => rfl)) pa_nil)) (nomark _)) (pw_and1 (pt_cmpR op_ge (pv 2) (pe_op op_pow pe_int pe_int) (nomark _))))) (pss_one (ps_ret (pv 2))) pss_nil)
        (pss_cons (ps_set (i := 3) sc_law_fresh.nd rfl (Or.inl rfl) (pe_op op_mod (pe_op opAdd (pe_op opAdd (pe_op op_mod (pv 2) pe_int) (pe_op op_mul (pv 1) pe_int)) pe_int) pe_int))
        (pss_cons (ps_set (i := 4) sc_law_fresh.nd rfl (Or.inl rfl) (pe_op op_mod (pe_op opAdd (pe_op opAdd (pe_op op_mul (pv 3) (pv 3)) (pe_op op_mul (pv 1) pe_int)) pe_int) pe_int))
        (pss_cons (ps_set (i := 5) sc_law_fresh.nd rfl (Or.inl rfl) (pe_op op_mod (pe_op opAdd (pe_op op_mul (pv 4) (pv 4)) (pe_op op_mul (pv 3) (pe_op opAdd (pv 1) pe_int))) pe_int))
        (pss_one (ps_ret (pe_op opAdd (pe_op op_mul (pe_op opAdd (pe_op op_mul (pv 5) pe_int) (pv 4)) pe_int) (pv 3)))))))))))), ?_⟩
    obtain ⟨⟨z, r, h1⟩, _⟩ := id hP
    -- spot, and the next one's
    refine ⟨_, rfl, p, _, 1, _, rfl, rfl, SqL.of h1, rfl, ?_⟩
    refine ⟨_, rfl, .inl ⟨_, _, rfl, rfl, ?_⟩⟩
    refine ⟨_, rfl, p, _, 1, 1, rfl, rfl, h1, rfl, ?_⟩
    have hP1 : Pen (upd H p (.lst [.ref c, .int (z + 1), .int r])) p c := hP.put
    have k1 : Kp p H (upd H p (.lst [.ref c, .int (z + 1), .int r])) := Kp.self
    show tSeq _ _ _ _ (upd H p (.lst [.ref c, .int (z + 1), .int r]))
    generalize upd H p (.lst [.ref c, .int (z + 1), .int r]) = H1 at hP1 k1
    obtain ⟨⟨z1, r1, h1'⟩, cs, h2, hl⟩ := id hP1
    refine ⟨_, rfl, _, _, rfl, rfl, .inr ⟨by decide, by decide⟩, ?_⟩
    -- the cell, where there are any
    refine ⟨fun σ H2 => ∃ v : Int, σ = [some (.ref p), some (.int z), some (.int v), none, none, none] ∧ Pen H2 p c ∧ Kp p H H2, ?_, ?_⟩
    · refine ⟨_, rfl, p, _, 0, _, rfl, rfl, SqL.of h1', rfl, Nat.zero_le _, fun q hq => ?_⟩
      have h1q : upd H1 q (.lst []) p = some (.lst [.ref c, .int z1, .int r1]) := by
        rw [upd_ne (hP1.neP hq).symm]
        exact h1'
      have h2q : upd H1 q (.lst []) c = some (.lst (cs.map V.int)) := by
        rw [upd_ne (hP1.neC hq).symm]
        exact h2
      have hPq : Pen (upd H1 q (.lst [])) p c := hP1.new hq
      have kq : Kp p H (upd H1 q (.lst [])) := k1.lay hq
      refine ⟨_, _, .lst (SqL.of h2q) (dp_ints _ _ cs), .lst (SqL.of upd_same) .nil, shaped_ints cs, shaped_nil, _, rfl, ?_⟩
      rw [eqv_nil]
      cases he : cs with
      | nil =>
        refine iteF ?_
        exact ⟨_, rfl, hPq, kq⟩
      | cons a t =>
        refine iteT ?_
        obtain ⟨v, hv⟩ := at_mod cs z (by rw [he]; exact Nat.succ_pos _)
        refine ⟨_, rfl, p, _, 0, _, rfl, rfl, SqL.of h1q, rfl, _, rfl, _, rfl, p, _, 0, _, rfl, rfl, SqL.of h1q, rfl, c, _, rfl, .inl (SqL.of h2q), _, _, rfl, rfl, ?_, c, cs.map V.int, _, .int v, rfl, rfl, SqL.of h2q, ?_, ?_⟩
        · show (0 : Int) < ((cs.map V.int).length : Int)
          rw [he, List.length_map, List.length_cons]
          omega
        · rw [List.length_map]
          exact hv
        · exact ⟨v, rfl, hPq, kq⟩
    · rintro σ H2 ⟨v, rfl, hP2, k2⟩
      obtain ⟨⟨z2, r2, h3⟩, cs2, h4, hl2⟩ := id hP2
      -- a great cell
      refine ⟨_, rfl, _, rfl, p, _, 0, _, rfl, rfl, SqL.of h3, rfl, c, _, rfl, .inl (SqL.of h4), _, _, rfl, rfl, _, rfl, ?_⟩
      refine ite2 (fun _ => ?a) (fun _ => iteF ?b)
      case' a =>
        refine ⟨_, rfl, _, _, rfl, rfl, ⟨by decide, by decide, by decide⟩, _, _, rfl, rfl, _, rfl, ?_⟩
        refine ite2 (fun _ => ⟨_, rfl, k _ _ hP2 k2⟩) (fun _ => ?_)
      all_goals
        refine ⟨_, rfl, _, _, rfl, rfl, (by show (0 : Int) < 2147483629; decide), _, rfl, _, _, rfl, rfl, .inr ⟨by decide, by decide⟩, .inl ⟨_, _, rfl, rfl, .inl ⟨_, _, rfl, rfl, _, _, rfl, rfl, (by show (0 : Int) < 2147483629; decide), ?_⟩⟩⟩
        have b1 := Int.emod_nonneg (v % 2147483629 + z * 40503 + 17) (show (2147483629 : Int) ≠ 0 by decide)
        have b2 := Int.emod_lt_of_pos (v % 2147483629 + z * 40503 + 17) (show (0 : Int) < 2147483629 by decide)
        generalize (v % 2147483629 + z * 40503 + 17) % 2147483629 = one at b1 b2 ⊢
        refine ⟨_, rfl, _, rfl, _, _, rfl, rfl, .inl ⟨by omega, by omega⟩, _, rfl, _, _, rfl, rfl, .inr ⟨by decide, by decide⟩, .inl ⟨_, _, rfl, rfl, .inl ⟨_, _, rfl, rfl, _, _, rfl, rfl, (by show (0 : Int) < 2147483587; decide), ?_⟩⟩⟩
        have b3 := Int.emod_nonneg (one * one + z * 69069 + 3) (show (2147483587 : Int) ≠ 0 by decide)
        have b4 := Int.emod_lt_of_pos (one * one + z * 69069 + 3) (show (0 : Int) < 2147483587 by decide)
        generalize (one * one + z * 69069 + 3) % 2147483587 = two at b3 b4 ⊢
        refine ⟨_, rfl, _, rfl, _, _, rfl, rfl, .inl ⟨by omega, by omega⟩, _, rfl, _, rfl, .inl ⟨_, _, rfl, rfl, _, _, rfl, rfl, .inl ⟨by omega, by omega⟩, .inl ⟨_, _, rfl, rfl, _, _, rfl, rfl, (by show (0 : Int) < 2147483579; decide), ?_⟩⟩⟩
        generalize (two * two + one * (z + 5)) % 2147483579 = three
        exact ⟨_, rfl, _, _, rfl, rfl, .inr ⟨by decide, by decide⟩, _, rfl, .inl ⟨_, _, rfl, rfl, _, _, rfl, rfl, .inr ⟨by decide, by decide⟩, _, rfl, .inl ⟨_, _, rfl, rfl, k _ _ hP2 k2⟩⟩⟩
theorem ok_draw (D : DefAt K mg "_law_draw" s_law_draw ["_law_pen_here", "_law_below"]) (T : Bl mg) (C_law_fresh : CallOk P w K mg base 1 "_law_fresh" ["_law_pen_here"] spFresh) :
    CallOk P w K mg base 2 "_law_draw" ["_law_pen_here", "_law_below"] spDraw := by
  refine D.ok sc_law_draw (fun vs H Q E h => ?_) (fun f cdv A outer s H vs Q E hr h => ?_)
  · obtain ⟨p, c, b, rfl, _⟩ := h
    rfl
  · obtain ⟨p, c, b, rfl, hP, hb1, hb2, k⟩ := h
    refine ⟨_, (Evl.pss_cut (ps_if (pt_cmpR op_lt (pe_ix ix_list (pv 0) pe_int (fun _ _ => rfl)) (pv 1) (nomark _)) (pss_one (ps_asg (pe_callOk C_law_fresh hr (by omega) (by rfl) (pa_cons (pv 0) pa_nil)) (pg_sub (pv 0) pe_int set_list))) pss_nil)
        (pss_cons (ps_set (i := 2) sc_law_draw.nd rfl (Or.inl rfl) (pe_op op_mod (pe_ix ix_list (pv 0) pe_int (fun _ _ => rfl)) (pv 1)))
        (pss_cons (ps_asg (pe_op op_fdiv (pe_ix ix_list (pv 0) pe_int (fun _ _ => rfl)) (pv 1)) (pg_sub (pv 0) pe_int set_list))
        (pss_one (ps_ret (pv 2)))))), ?_⟩
    obtain ⟨⟨z, r, h1⟩, _⟩ := id hP
    refine ⟨fun σ H2 => σ = [some (.ref p), some (.int b), none] ∧ Pen H2 p c ∧ Kp p H H2, ?_, ?_⟩
    · refine ⟨_, rfl, p, _, 2, _, rfl, rfl, SqL.of h1, rfl, _, rfl, _, _, rfl, rfl, _, rfl, ?_⟩
      refine ite2 (fun _ => ?_) (fun _ => ⟨rfl, hP, Kp.refl⟩)
      refine ⟨_, rfl, p, c, rfl, hP, fun n H2 hP2 k2 => ?_⟩
      obtain ⟨⟨z2, r2, h2⟩, _⟩ := id hP2
      exact ⟨_, rfl, p, _, 2, 2, rfl, rfl, h2, rfl, rfl, hP2.put, k2.put⟩
    · rintro σ H2 ⟨rfl, hP2, k2⟩
      obtain ⟨⟨z2, r2, h2⟩, _⟩ := id hP2
      refine ⟨_, rfl, p, _, 2, _, rfl, rfl, SqL.of h2, rfl, _, rfl, _, _, rfl, rfl, hb1, ?_⟩
      refine ⟨_, rfl, p, _, 2, _, rfl, rfl, SqL.of h2, rfl, _, rfl, _, _, rfl, rfl, ⟨hb1, hb2⟩, _, rfl, p, _, 2, 2, rfl, rfl, h2, rfl, ?_⟩
      exact ⟨_, rfl, k _ _ (Int.emod_nonneg _ (by omega)) (Int.emod_lt_of_pos _ hb1) hP2.put k2.put⟩
theorem ok_name (D : DefAt K mg "_law_name" s_law_name ["_law_pen_here", "_law_gone"]) (T : Bl mg) (C_law_draw : CallOk P w K mg base 2 "_law_draw" ["_law_pen_here", "_law_below"] spDraw) :
    CallOk P w K mg base 3 "_law_name" ["_law_pen_here", "_law_gone"] spName := by
  refine D.ok sc_law_name (fun vs H Q E h => ?_) (fun f cdv A outer s H vs Q E hr h => ?_)
  · obtain ⟨p, c, g, gs, rfl, _⟩ := h
    rfl
  · obtain ⟨p, c, g, gs, rfl, hP, hG, hgp, hgl, k⟩ := h
    refine ⟨_, (pss_cons (ps_set (i := 2) sc_law_name.nd rfl (Or.inl rfl) pe_str)
        (pss_cons (ps_set (i := 3) sc_law_name.nd rfl (Or.inl rfl) pe_str)
        (pss_cons (ps_for PassesOwn.never rfl (pi_range1 (by rfl) T.range_ (pa_cons (pe_op opAdd pe_int (pe_callOk C_law_draw hr (by omega) (by rfl) (pa_cons (pv 0) (pa_cons (pe_ix ix_list (pe_lst (pa_cons pe_int (pa_cons pe_int (pa_cons pe_int pa_nil)))) (pe_callOk C_law_draw hr (by omega) (by rfl) (pa_cons (pv 0) (pa_cons pe_int pa_nil))) (fun _ _ => rfl)) pa_nil)))) pa_nil)) (pg_name (i := 4) sc_law_name.nd rfl (Or.inl rfl) (by first | exact .inl rfl | exact .inr rfl)) (pss_one (ps_set (i := 3) sc_law_name.nd rfl (Or.inl rfl) (pe_op opAdd (pv 3) (pe_ix ix_str (pv 2) (pe_callOk C_law_draw hr (by omega) (by rfl) (pa_cons (pv 0) (pa_cons pe_int pa_nil))) (fun _ _ => rfl))))))
        (pss_cons (ps_set (i := 5) sc_law_name.nd rfl (Or.inl rfl) (pe_slice sl_str (pv 3) po_none (po_some pe_int)))
        (pss_cons (ps_for PassesOwn.never rfl (pi_range1 (by rfl) T.range_ (pa_cons (pe_op opAdd (pe_callB call_len_seq (by rfl) T.len_ (by decide +kernel) (pa_cons (pv 1) pa_nil)) pe_int) pa_nil)) (pg_name (i := 6) sc_law_name.nd rfl (Or.inl rfl) (by first | exact .inl rfl | exact .inr rfl)) (pss_one (ps_if (pt_cmpR op_in_seq (pv 3) (pv 1) (by rfl)) (pss_one (ps_set (i := 3) sc_law_name.nd rfl (Or.inl rfl) (pe_op opAdd (pe_op opAdd (pv 5) (pe_ix ix_str (pv 2) (pe_op op_mod (pe_op op_fdiv (pv 6) pe_int) pe_int) (fun _ _ => rfl))) (pe_ix ix_str (pv 2) (pe_op op_mod (pv 6) pe_int) (fun _ _ => rfl))))) pss_nil)))
        (pss_one (ps_ret (pv 3)))))))), ?_⟩
    refine ⟨_, rfl, le_line (by show 3 ≤ 16000000; decide), fun q hq => ?_⟩
    have hPq : Pen (upd H q (.lst [.int 1, .int 2, .int 8])) p c := hP.new hq
    have nqp : q ≠ p := hP.neP hq
    refine ⟨_, rfl, p, c, 3, rfl, hPq, by decide, by decide, fun m H1 m0 m1 hP1 k1 => ?_⟩
    have q1 : H1 q = some (.lst [.int 1, .int 2, .int 8]) := k1 _ _ upd_same nqp
    have kq : Kp p H H1 := (Kp.new hq).trans k1
    have hm : ∃ b : Int, atI [V.int 1, .int 2, .int 8] m = some (.int b) ∧ 0 < b ∧ b ≤ 8 := by
      have : m = 0 ∨ m = 1 ∨ m = 2 := by omega
      rcases this with rfl | rfl | rfl
      · exact ⟨1, rfl, by decide, by decide⟩
      · exact ⟨2, rfl, by decide, by decide⟩
      · exact ⟨8, rfl, by decide, by decide⟩
    obtain ⟨b, hb, b0, b8⟩ := hm
    refine ⟨q, _, m, .int b, rfl, rfl, SqL.of q1, hb, p, c, b, rfl, hP1, b0, by omega, fun n H2 n0 n1 hP2 k2 => ?_⟩
    have kp2 : Kp p H H2 := kq.trans k2
    refine .inl ⟨_, _, rfl, rfl, ?_⟩
    refine ⟨1 + n, rfl, by omega, by omega, for_range (lo := 0) (n := (1 + n).toNat) (fun i σ H' => ∃ x v4, σ = [some (.ref p), some (.ref g), some (.str abc), some (.str x), v4, none, none] ∧ Lt x i ∧ Pen H' p c ∧ Kp p H H')
      ⟨_, none, rfl, lt_nil, hP2, kp2⟩ ?_ ?_⟩
    · -- a letter more
      rintro i σ H' hi ⟨x, v4, rfl, hx, hP3, k3⟩
      refine ⟨_, rfl, _, rfl, _, rfl, p, c, 26, rfl, hP3, by decide, by decide, fun l H4 l0 l1 hP4 k4 => ?_⟩
      obtain ⟨ch, hc, c1, c2⟩ := abc_at l0 l1
      refine ⟨abc, l, ch, rfl, rfl, abc_len, hc, .inr (.inl ⟨x, _, rfl, rfl, ?_, ?_⟩)⟩
      · rw [hx.len, (lt_one c1 c2).len]
        exact le_line (by omega)
      · exact ⟨_, _, rfl, hx.app (lt_one c1 c2), hP4, k3.trans k4⟩
    · rintro σ H' ⟨x, v4, rfl, hx, hP3, k3⟩
      have hx8 : (1 + n).toNat ≤ 8 := by omega
      have hx0 : 0 < (1 + n).toNat := by omega
      refine ⟨_, rfl, 6, rfl, x, rfl, ?_, ?_⟩
      · rw [hx.len]
        exact le_line (by omega)
      obtain ⟨m6, h6, hf⟩ := hx.front 6
      generalize cutS x none (some ((6 : Nat) : Int)) = front at hf
      have hG' : SqL K H' g (gs.map V.str) := SqL.of (k3 _ _ hG hgp)
      refine ⟨_, rfl, g, gs.map V.str, rfl, .inl hG', .inl ⟨_, _, rfl, rfl, ?_⟩⟩
      refine ⟨((gs.map V.str).length : Int) + 1, rfl, ?_, ?_, for_range (lo := 0) (n := (((gs.map V.str).length : Int) + 1).toNat) (fun i σ H' => ∃ x v6 m, σ = [some (.ref p), some (.ref g), some (.str abc), some (.str x), v4, some (.str front), v6] ∧ Lt x m ∧ 0 < m ∧ m ≤ 8 ∧ Pen H' p c ∧ Kp p H H')
        ⟨_, none, _, rfl, hx, hx0, hx8, hP3, k3⟩ ?_ ?_⟩
      · omega
      · rw [List.length_map]
        omega
      · rintro i σ H4 hi ⟨y, v6, m, rfl, hy, m0, m8, hP4, k4⟩
        refine ⟨_, rfl, _, rfl, g, gs.map V.str, rfl, .inl (SqL.of (k4 _ _ hG hgp)), rfl, ?_, _, rfl, ?_⟩
        · simp [flatV]
        refine ite2 (fun _ => ?_) (fun _ => ⟨_, _, _, rfl, hy, m0, m8, hP4, k4⟩)
        obtain ⟨ca, ha, a1, a2⟩ := abc_at (n := (0 + (i : Int)) / 26 % 26) (Int.emod_nonneg _ (by decide)) (Int.emod_lt_of_pos _ (by decide))
        obtain ⟨cb, hb, b1, b2⟩ := abc_at (n := (0 + (i : Int)) % 26) (Int.emod_nonneg _ (by decide)) (Int.emod_lt_of_pos _ (by decide))
        refine ⟨_, rfl, _, rfl, _, rfl, _, _, rfl, rfl, ⟨by decide, by decide⟩, _, _, rfl, rfl, (by show (0 : Int) < 26; decide), abc, _, ca, rfl, rfl, abc_len, ha, .inr (.inl ⟨front, _, rfl, rfl, ?_, _, rfl, _, rfl, _, _, rfl, rfl, (by show (0 : Int) < 26; decide), abc, _, cb, rfl, rfl, abc_len, hb, .inr (.inl ⟨_, _, rfl, rfl, ?_, ?_⟩)⟩)⟩
        · rw [hf.len, (lt_one a1 a2).len]
          exact le_line (by omega)
        · rw [(hf.app (lt_one a1 a2)).len, (lt_one b1 b2).len]
          exact le_line (by omega)
        · exact ⟨_, _, _, rfl, (hf.app (lt_one a1 a2)).app (lt_one b1 b2), by omega, by omega, hP4, k4⟩
      · rintro σ H4 ⟨y, v6, m, rfl, hy, m0, m8, hP4, k4⟩
        exact ⟨_, rfl, k y H4 (hy.nm m0 m8) hP4 k4⟩
end

section
variable {P : Program} {w : World} {K : PySem.W.Frag} {mg : Str → Option Value} {base : Heap}
theorem ok_is_row (D : DefAt K mg "is_row" s_is_row ["thing", "least", "most"]) (T : Bl mg) : CallOk P w K mg base 1 "is_row" ["thing", "least", "most"] (spIsRow K) := by
  refine D.ok sc_is_row (fun vs H Q E h => ?_) (fun f cdv A outer s H vs Q E hr h => ?_)
  · obtain ⟨p, v, d, a, b, rfl, _⟩ := h
    rfl
  · obtain ⟨p, v, d, a, b, rfl, hd, k⟩ := h
    refine ⟨_, (pss_one (ps_ret (pe_and (pe_callB call_isD (by rfl) T.isinstance_ (by decide +kernel) (pa_cons (pv 0) (pa_cons (pe_bltn (v := .ty "tuple") (by rfl) T.tuple_ (by decide +kernel) rfl) pa_nil))) (pe_one (pe_chain op_le op_le (pv 1) (pe_callB call_len (by rfl) T.len_ (by decide +kernel) (pa_cons (pv 0) pa_nil)) (pv 2)))))), ?_⟩
    refine ⟨_, rfl, p, v, d, "tuple", rfl, hd, .inr (.inl rfl), _, rfl, ?_⟩
    by_cases ht : tyD d = "tuple"
    · obtain ⟨ds, rfl⟩ := ty_tup ht
      obtain ⟨t, xs, rfl, h1, h2⟩ := hd.tupInv
      refine iteT ?_
      refine ⟨_, rfl, _, rfl, _, _, rfl, .inr ⟨_, h1, rfl⟩, _, _, rfl, rfl, _, rfl, ?_⟩
      rw [h2.length]
      by_cases c : a ≤ (ds.length : Int)
      · rw [decide_eq_true c]
        refine iteT ⟨_, rfl, _, _, rfl, rfl, ?_⟩
        have e : isRowD (.tuple ds) a b = decide ((ds.length : Int) ≤ b) := by
          show (decide (a ≤ (ds.length : Int)) && _) = _
          rw [decide_eq_true c, Bool.true_and]
        rw [e] at k
        exact k
      · rw [decide_eq_false c]
        refine iteF ?_
        have e : isRowD (.tuple ds) a b = false := by
          show (decide (a ≤ (ds.length : Int)) && _) = _
          rw [decide_eq_false c, Bool.false_and]
        rw [← e]
        exact k
    · rw [decide_eq_false ht]
      refine iteF ?_
      have e : isRowD d a b = false := by
        cases d <;> simp [isRowD, tyD] at ht ⊢
      rw [← e]
      exact k
theorem ok_is_name (D : DefAt K mg "is_name" s_is_name ["thing"]) (T : Bl mg) (G_LETTERS : GV mg "LETTERS" (.str abc)) (G_MOST_LETTERS : GV mg "MOST_LETTERS" (.int 8)) : CallOk P w K mg base 1 "is_name" ["thing"] (spIsName K) := by
  refine D.ok sc_is_name (fun vs H Q E h => ?_) (fun f cdv A outer s H vs Q E hr h => ?_)
  · obtain ⟨p, v, d, n, m, rfl, _⟩ := h
    rfl
  · obtain ⟨p, v, d, n, m, rfl, hd, hf, hn, k⟩ := h
    refine ⟨_, (pss_cons (ps_if (PW.pt (pw_or (pt_not (pt_val (pe_callB call_isD (by rfl) T.isinstance_ (by decide +kernel) (pa_cons (pv 0) (pa_cons (pe_bltn (v := .ty "str") (by rfl) T.str_ (by decide +kernel) rfl) pa_nil))))) (pw_or1 (pt_not (pt_chain op_le op_le pe_int (pe_callB call_len (by rfl) T.len_ (by decide +kernel) (pa_cons (pv 0) pa_nil)) (pe_gv G_MOST_LETTERS rfl)))))) (pss_one (ps_ret pe_bl)) pss_nil)
        (pss_one (ps_ret (pe_callB (cr_all rfl) (by rfl) T.all_ (by decide +kernel) (pa_cons (pe_lc (own := [("letter", 1)]) (g := gName 1) (tt := tYes) rfl sc_is_name.nd (pi_str (pv 0)) (blkOk_by (N := sl_is_name) (sc := defScope s_is_name) (by decide +kernel)) (fun _ _ _ _ _ => pg_name (i := 1) sc_is_name.nd rfl (Or.inl rfl)) (fun _ _ _ _ _ => pts_nil) (fun _ _ _ _ _ => (pe_cmpR op_in_sign (pv 1) (pe_gv G_LETTERS rfl) (by rfl)))) pa_nil))))), ?_⟩
    refine ⟨_, rfl, p, v, d, "str", rfl, hd, .inl rfl, _, rfl, ?_⟩
    by_cases ht : tyD d = "str"
    · obtain ⟨x, rfl⟩ := ty_str ht
      cases hd.strInv
      have hx := fit_str_len hf
      refine iteF ?_
      refine ⟨_, rfl, _, _, rfl, ⟨le_line (by omega), rfl⟩, _, _, rfl, rfl, _, rfl, ?_⟩
      have e : isNameD (.str x) = (decide (1 ≤ x.length) && decide (x.length ≤ 8) && (x.cps.toList.map fun c => decide (c ∈ abc.cps.toList)).all id) := by
        show (_ && _ && _) = _
        rw [List.all_map]
        rfl
      rw [e] at k
      by_cases c1 : 1 ≤ x.length
      · rw [show decide ((1 : Int) ≤ (x.length : Int)) = true from decide_eq_true (by omega)]
        refine iteT ⟨_, _, rfl, rfl, _, rfl, ?_⟩
        by_cases c2 : x.length ≤ 8
        · rw [show decide ((x.length : Int) ≤ 8) = true from decide_eq_true (by omega)]
          refine iteF ?_
          refine ⟨_, rfl, x, rfl, fun D hD => ?_⟩
          refine lc_str_map (fun c => .bl (decide (c ∈ abc.cps.toList))) (lt_line (by have : x.cps.size = x.length := rfl; omega)) (fun _ => rfl) (fun c _ H2 Q2 q => ⟨_, rfl, c, abc, rfl, rfl, q⟩) ?_
          refine ⟨D, x.cps.toList.map fun c => decide (c ∈ abc.cps.toList), rfl, SqL.of ?_, ?_⟩
          · rw [upd_same, List.map_map]
            rfl
          · have z := k (upd H D (.lst (x.cps.toList.map fun c => .bl (decide (c ∈ abc.cps.toList))))) (same_new hD)
            rw [decide_eq_true c1, decide_eq_true c2] at z
            exact z
        · rw [show decide ((x.length : Int) ≤ 8) = false from decide_eq_false (by omega)]
          refine iteT ?_
          have z := k H (Same.refl H)
          rw [decide_eq_false c2, Bool.and_false, Bool.false_and] at z
          exact z
      · rw [show decide ((1 : Int) ≤ (x.length : Int)) = false from decide_eq_false (by omega)]
        refine iteF ⟨_, rfl, iteT ?_⟩
        have z := k H (Same.refl H)
        rw [decide_eq_false c1, Bool.false_and, Bool.false_and] at z
        exact z
    · rw [decide_eq_false ht]
      refine iteT ?_
      have e : isNameD d = false := by
        cases d <;> simp [isNameD, tyD] at ht ⊢
      have z := k H (Same.refl H)
      rw [e] at z
      exact z
theorem ok_law_is_name (D : DefAt K mg "_law_is_name" s_law_is_name ["_law_thing"]) (T : Bl mg) : CallOk P w K mg base 1 "_law_is_name" ["_law_thing"] (spIsName K) := by
  refine D.ok sc_law_is_name (fun vs H Q E h => ?_) (fun f cdv A outer s H vs Q E hr h => ?_)
  · obtain ⟨p, v, d, n, m, rfl, _⟩ := h
    rfl
  · obtain ⟨p, v, d, n, m, rfl, hd, hf, hn, k⟩ := h
    refine ⟨_, (pss_cons (ps_if (PW.pt (pw_or (pt_not (pt_val (pe_callB call_isD (by rfl) T.isinstance_ (by decide +kernel) (pa_cons (pv 0) (pa_cons (pe_bltn (v := .ty "str") (by rfl) T.str_ (by decide +kernel) rfl) pa_nil))))) (pw_or1 (pt_not (pt_chain op_le op_le pe_int (pe_callB call_len (by rfl) T.len_ (by decide +kernel) (pa_cons (pv 0) pa_nil)) pe_int))))) (pss_one (ps_ret pe_bl)) pss_nil)
        (pss_one (ps_ret (pe_callB (cr_all rfl) (by rfl) T.all_ (by decide +kernel) (pa_cons (pe_lc (own := [("_law_one", 1)]) (g := gName 1) (tt := tYes) rfl sc_law_is_name.nd (pi_str (pv 0)) (blkOk_by (N := sl_law_is_name) (sc := defScope s_law_is_name) (by decide +kernel)) (fun _ _ _ _ _ => pg_name (i := 1) sc_law_is_name.nd rfl (Or.inl rfl)) (fun _ _ _ _ _ => pts_nil) (fun _ _ _ _ _ => (pe_cmpR op_in_sign (pv 1) pe_str (by rfl)))) pa_nil))))), ?_⟩
    refine ⟨_, rfl, p, v, d, "str", rfl, hd, .inl rfl, _, rfl, ?_⟩
    by_cases ht : tyD d = "str"
    · obtain ⟨x, rfl⟩ := ty_str ht
      cases hd.strInv
      have hx := fit_str_len hf
      refine iteF ?_
      refine ⟨_, rfl, _, _, rfl, ⟨le_line (by omega), rfl⟩, _, _, rfl, rfl, _, rfl, ?_⟩
      have e : isNameD (.str x) = (decide (1 ≤ x.length) && decide (x.length ≤ 8) && (x.cps.toList.map fun c => decide (c ∈ abc.cps.toList)).all id) := by
        show (_ && _ && _) = _
        rw [List.all_map]
        rfl
      rw [e] at k
      by_cases c1 : 1 ≤ x.length
      · rw [show decide ((1 : Int) ≤ (x.length : Int)) = true from decide_eq_true (by omega)]
        refine iteT ⟨_, _, rfl, rfl, _, rfl, ?_⟩
        by_cases c2 : x.length ≤ 8
        · rw [show decide ((x.length : Int) ≤ 8) = true from decide_eq_true (by omega)]
          refine iteF ?_
          refine ⟨_, rfl, x, rfl, fun D hD => ?_⟩
          refine lc_str_map (fun c => .bl (decide (c ∈ abc.cps.toList))) (lt_line (by have : x.cps.size = x.length := rfl; omega)) (fun _ => rfl) (fun c _ H2 Q2 q => ⟨_, rfl, c, abc, rfl, rfl, q⟩) ?_
          refine ⟨D, x.cps.toList.map fun c => decide (c ∈ abc.cps.toList), rfl, SqL.of ?_, ?_⟩
          · rw [upd_same, List.map_map]
            rfl
          · have z := k (upd H D (.lst (x.cps.toList.map fun c => .bl (decide (c ∈ abc.cps.toList))))) (same_new hD)
            rw [decide_eq_true c1, decide_eq_true c2] at z
            exact z
        · rw [show decide ((x.length : Int) ≤ 8) = false from decide_eq_false (by omega)]
          refine iteT ?_
          have z := k H (Same.refl H)
          rw [decide_eq_false c2, Bool.and_false, Bool.false_and] at z
          exact z
      · rw [show decide ((1 : Int) ≤ (x.length : Int)) = false from decide_eq_false (by omega)]
        refine iteF ⟨_, rfl, iteT ?_⟩
        have z := k H (Same.refl H)
        rw [decide_eq_false c1, Bool.false_and, Bool.false_and] at z
        exact z
    · rw [decide_eq_false ht]
      refine iteT ?_
      have e : isNameD d = false := by
        cases d <;> simp [isNameD, tyD] at ht ⊢
      have z := k H (Same.refl H)
      rw [e] at z
      exact z
end

section
variable {P : Program} {w : World} {K : PySem.W.Frag} {mg : Str → Option Value} {base : Heap}
theorem ok_is_kind_within (D : DefAt K mg "is_kind_within" s_is_kind_within ["thing", "most"]) (T : Bl mg) (C_is_row : CallOk P w K mg base 1 "is_row" ["thing", "least", "most"] (spIsRow K)) (C_is_name : CallOk P w K mg base 1 "is_name" ["thing"] (spIsName K)) :
    ∀ n : Nat, CallOk P w K mg base (n + 1) "is_kind_within" ["thing", "most"] (spKindW K n)
  | 0 => (D.none sc_is_kind_within).imp fun vs H Q E h => by
    obtain ⟨p, v, d, n, m, z, _, _, h0, _⟩ := h
    omega
  | n + 1 => by
    have C_is_kind_within := ok_is_kind_within D T C_is_row C_is_name n
    refine D.ok sc_is_kind_within (fun vs H Q E h => ?_) (fun f cdv A outer s H vs Q E hr h => ?_)
    · obtain ⟨p, v, d, a, b, z, rfl, _⟩ := h
      rfl
    · obtain ⟨p, v, d, a, b, z, rfl, hz, _, hd, hf, hn, k⟩ := h
      refine ⟨_, (pss_cons (ps_if (pt_val (pe_callB call_isD (by rfl) T.isinstance_ (by decide +kernel) (pa_cons (pv 0) (pa_cons (pe_bltn (v := .ty "str") (by rfl) T.str_ (by decide +kernel) rfl) pa_nil)))) (pss_one (ps_ret (pe_callOk C_is_name hr (by omega) (by rfl) (pa_cons (pv 0) pa_nil)))) pss_nil)
        (pss_cons (ps_if (PW.pt (pw_or (pt_cmpR op_eq (pv 1) pe_int (nomark _)) (pw_or (pt_not (pt_val (pe_callOk C_is_row hr (by omega) (by rfl) (pa_cons (pv 0) (pa_cons pe_int (pa_cons pe_int pa_nil)))))) (pw_or1 (pt_cmpR (op_notInT hr.units) (pe_ix ix_tup (pv 0) pe_int (fun _ _ => rfl)) (pe_tup (pa_cons pe_str (pa_cons pe_str pa_nil))) (by rfl)))))) (pss_one (ps_ret pe_bl)) pss_nil)
        (pss_one (ps_ret (pe_and (pe_callOk C_is_kind_within hr (by omega) (by rfl) (pa_cons (pe_ix ix_tup (pv 0) pe_int (fun _ _ => rfl)) (pa_cons (pe_op op_sub (pv 1) pe_int) pa_nil))) (pe_one (pe_callOk C_is_kind_within hr (by omega) (by rfl) (pa_cons (pe_ix ix_tup (pv 0) pe_int (fun _ _ => rfl)) (pa_cons (pe_op op_sub (pv 1) pe_int) pa_nil))))))))), ?_⟩
      refine ⟨_, rfl, p, v, d, "str", rfl, hd, .inl rfl, _, rfl, ?_⟩
      by_cases ht : tyD d = "str"
      · obtain ⟨x, rfl⟩ := ty_str ht
        refine iteT ⟨_, rfl, p, v, _, a, b, rfl, hd, hf, hn, k⟩
      · rw [decide_eq_false ht]
        refine iteF ?_
        refine ⟨_, rfl, rfl, _, rfl, ?_⟩
        by_cases h1 : n = 0
        · subst h1
          rw [decide_eq_true (show V.int z = V.int 1 from by rw [hz]; rfl)]
          refine iteT ?_
          refine iteT ?_
          have z := k H (Same.refl H)
          rw [kind_no ht (.inl rfl)] at z
          exact z
        · rw [decide_eq_false (show ¬ V.int z = V.int 1 from fun e => by injection e with e; omega)]
          refine iteF ?_
          refine ⟨_, rfl, p, v, d, 3, 3, rfl, hd, _, rfl, ?_⟩
          cases hrow : isRowD d 3 3 with
          | false =>
            refine iteT ?_
            refine iteT ?_
            have z := k H (Same.refl H)
            rw [kind_no ht (.inr hrow)] at z
            exact z
          | true =>
            refine iteF ?_
            obtain ⟨sg, x, y, rfl⟩ := row3 hrow
            obtain ⟨t, vs, vx, vy, rfl, hT, ds, dx, dy⟩ := hd.tup3
            obtain ⟨fs, fx, fy⟩ := fit3 hf
            refine ⟨_, rfl, t, _, 0, vs, rfl, rfl, hT, rfl, le_line (by show 2 ≤ 16000000; decide), fun q hq => ?_⟩
            have s1 : Same H (upd H q (.tup [V.str ">", V.str "*"])) := same_new hq
            refine ⟨p, q, signs2, sg, rfl, SqT.of upd_same, ds.same s1, _, rfl, ?_⟩
            cases hm : memD sg signs2 with
            | false =>
              refine iteT ?_
              have z := k _ s1
              rw [kind_tup, hm, Bool.and_false, Bool.false_and, Bool.false_and] at z
              exact z
            | true =>
              refine iteF ?_
              have e : kindW (n + 1) (.tuple [sg, x, y]) = (kindW n x && kindW n y) := by
                rw [kind_tup, hm, decide_eq_true h1]
                rfl
              rw [e] at k
              refine ⟨_, rfl, t, _, 1, vx, rfl, rfl, sqT_same s1 hT, rfl, _, rfl, _, _, rfl, rfl, p, vx, x, a, b, _, rfl, by omega, by omega, dx.same s1, fx, hn, fun H2 s2 => ⟨_, rfl, ?_⟩⟩
              cases hx : kindW n x with
              | false =>
                refine iteF ?_
                have z := k _ (s1.trans s2)
                rw [hx, Bool.false_and] at z
                exact z
              | true =>
                refine iteT ?_
                refine ⟨_, rfl, t, _, 2, vy, rfl, rfl, sqT_same s2 (sqT_same s1 hT), rfl, _, rfl, _, _, rfl, rfl, p, vy, y, a, b, _, rfl, by omega, by omega, (dy.same s1).same s2, fy, hn, fun H3 s3 => ?_⟩
                have z := k _ ((s1.trans s2).trans s3)
                rw [hx, Bool.true_and] at z
                exact z
theorem ok_is_kind (D : DefAt K mg "is_kind" s_is_kind ["thing"]) (T : Bl mg) (G_MOST_KINDS_WITHIN : GV mg "MOST_KINDS_WITHIN" (.int 6)) (C_is_kind_within : CallOk P w K mg base 7 "is_kind_within" ["thing", "most"] (spKindW K 6)) :
    CallOk P w K mg base 8 "is_kind" ["thing"] (spKind K) := by
  refine D.ok sc_is_kind (fun vs H Q E h => ?_) (fun f cdv A outer s H vs Q E hr h => ?_)
  · obtain ⟨p, v, d, n, m, rfl, _⟩ := h
    rfl
  · obtain ⟨p, v, d, n, m, rfl, hd, hf, hn, k⟩ := h
    refine ⟨_, (pss_one (ps_ret (pe_callOk C_is_kind_within hr (by omega) (by rfl) (pa_cons (pv 0) (pa_cons (pe_gv G_MOST_KINDS_WITHIN rfl) pa_nil))))), ?_⟩
    exact ⟨_, rfl, p, v, d, n, m, 6, rfl, rfl, by decide, hd, hf, hn, k⟩
end

section
variable {P : Program} {w : World} {K : PySem.W.Frag} {mg : Str → Option Value} {base : Heap}
theorem ok_law_is_kind (D : DefAt K mg "_law_is_kind" s_law_is_kind ["_law_thing", "_law_deep"]) (T : Bl mg) (C_law_is_name : CallOk P w K mg base 1 "_law_is_name" ["_law_thing"] (spIsName K)) :
    ∀ n : Nat, CallOk P w K mg base (n + 1) "_law_is_kind" ["_law_thing", "_law_deep"] (spKindW K n)
  | 0 => (D.none sc_law_is_kind).imp fun vs H Q E h => by
    obtain ⟨p, v, d, n, m, z, _, _, h0, _⟩ := h
    omega
  | n + 1 => by
    have C_law_is_kind := ok_law_is_kind D T C_law_is_name n
    refine D.ok sc_law_is_kind (fun vs H Q E h => ?_) (fun f cdv A outer s H vs Q E hr h => ?_)
    · obtain ⟨p, v, d, a, b, z, rfl, _⟩ := h
      rfl
    · obtain ⟨p, v, d, a, b, z, rfl, hz, _, hd, hf, hn, k⟩ := h
      refine ⟨_, (pss_cons (ps_if (pt_val (pe_callOk C_law_is_name hr (by omega) (by rfl) (pa_cons (pv 0) pa_nil))) (pss_one (ps_ret (pe_cmpR op_gt (pv 1) pe_int (nomark _)))) pss_nil)
        (pss_cons (ps_if (PW.pt (pw_or (pt_cmpR op_le (pv 1) pe_int (nomark _)) (pw_or (pt_not (pt_val (pe_callB call_isD (by rfl) T.isinstance_ (by decide +kernel) (pa_cons (pv 0) (pa_cons (pe_bltn (v := .ty "tuple") (by rfl) T.tuple_ (by decide +kernel) rfl) pa_nil))))) (pw_or (pt_cmpR op_ne (pe_callB call_len (by rfl) T.len_ (by decide +kernel) (pa_cons (pv 0) pa_nil)) pe_int (nomark _)) (pw_or1 (pt_cmpR (op_notInT hr.units) (pe_ix ix_tup (pv 0) pe_int (fun _ _ => rfl)) (pe_tup (pa_cons pe_str (pa_cons pe_str pa_nil))) (by rfl))))))) (pss_one (ps_ret pe_bl)) pss_nil)
        (pss_one (ps_ret (pe_and (pe_callOk C_law_is_kind hr (by omega) (by rfl) (pa_cons (pe_ix ix_tup (pv 0) pe_int (fun _ _ => rfl)) (pa_cons (pe_op op_sub (pv 1) pe_int) pa_nil))) (pe_one (pe_callOk C_law_is_kind hr (by omega) (by rfl) (pa_cons (pe_ix ix_tup (pv 0) pe_int (fun _ _ => rfl)) (pa_cons (pe_op op_sub (pv 1) pe_int) pa_nil))))))))), ?_⟩
      refine ⟨_, rfl, p, v, d, a, b, rfl, hd, hf, hn, fun H1 s1 => ⟨_, rfl, ?_⟩⟩
      cases hnm : isNameD d with
      | true =>
        refine iteT ⟨_, rfl, _, _, rfl, rfl, ?_⟩
        have e : kindW (n + 1) d = true := by
          cases d with
          | str x => exact hnm
          | _ => cases hnm
        have q := k _ s1
        rw [e] at q
        show Q (.bl (decide (0 < z))) H1
        rw [show decide (0 < z) = true from decide_eq_true (by omega)]
        exact q
      | false =>
        refine iteF ?_
        by_cases ht : tyD d = "str"
        · obtain ⟨x, rfl⟩ := ty_str ht
          have e : kindW (n + 1) (.str x) = false := hnm
          have q := k _ s1
          rw [e] at q
          refine ⟨_, rfl, _, _, rfl, rfl, _, rfl, ?_⟩
          refine ite2 (fun _ => iteT q) (fun _ => ?_)
          refine ⟨_, rfl, p, v, _, "tuple", rfl, hd.same s1, .inr (.inl rfl), _, rfl, ?_⟩
          exact iteT (iteT q)
        · refine ⟨_, rfl, _, _, rfl, rfl, _, rfl, ?_⟩
          by_cases h1 : n = 0
          · rw [show decide (z ≤ 1) = true from decide_eq_true (by omega)]
            have q := k _ s1
            rw [kind_no ht (.inl h1)] at q
            exact iteT (iteT q)
          · rw [show decide (z ≤ 1) = false from decide_eq_false (by omega)]
            refine iteF ?_
            refine ⟨_, rfl, p, v, d, "tuple", rfl, hd.same s1, .inr (.inl rfl), _, rfl, ?_⟩
            by_cases htt : tyD d = "tuple"
            · obtain ⟨dl, rfl⟩ := ty_tup htt
              obtain ⟨t, xs, rfl, hT0, hA0⟩ := (hd.same s1).tupInv
              refine iteF ?_
              refine ⟨_, rfl, _, _, rfl, .inr ⟨_, hT0, rfl⟩, rfl, _, rfl, ?_⟩
              rw [hA0.length]
              cases hrow : isRowD (.tuple dl) 3 3 with
              | false =>
                have hl : ¬ dl.length = 3 := fun e => by simp [isRowD, e] at hrow
                rw [show decide (V.int (dl.length : Int) = V.int 3) = false from decide_eq_false (fun e => hl (by injection e with e; omega))]
                have q := k _ s1
                rw [kind_no ht (.inr hrow)] at q
                exact iteT (iteT q)
              | true =>
                obtain ⟨sg, x, y, e3⟩ := row3 hrow
                obtain rfl : dl = [sg, x, y] := by injection e3
                refine iteF ?_
                obtain ⟨t, vs, vx, vy, e, hT, ds, dx, dy⟩ := (hd.same s1).tup3
                obtain rfl : _ = t := by injection e
                obtain ⟨fs, fx, fy⟩ := fit3 hf
                refine ⟨_, rfl, t, _, 0, vs, rfl, rfl, hT, rfl, le_line (by show 2 ≤ 16000000; decide), fun q hq => ?_⟩
                have s2 : Same H1 (upd H1 q (.tup [V.str ">", V.str "*"])) := same_new hq
                refine ⟨p, q, signs2, sg, rfl, SqT.of upd_same, ds.same s2, _, rfl, ?_⟩
                cases hm : memD sg signs2 with
                | false =>
                  have z := k _ (s1.trans s2)
                  rw [kind_tup, hm, Bool.and_false, Bool.false_and, Bool.false_and] at z
                  exact iteT z
                | true =>
                  refine iteF ?_
                  have e : kindW (n + 1) (.tuple [sg, x, y]) = (kindW n x && kindW n y) := by
                    rw [kind_tup, hm, decide_eq_true h1]
                    rfl
                  rw [e] at k
                  refine ⟨_, rfl, t, _, 1, vx, rfl, rfl, sqT_same s2 hT, rfl, _, rfl, _, _, rfl, rfl, p, vx, x, a, b, _, rfl, by omega, by omega, dx.same s2, fx, hn, fun H2 s3 => ⟨_, rfl, ?_⟩⟩
                  cases hx : kindW n x with
                  | false =>
                    refine iteF ?_
                    have z := k _ ((s1.trans s2).trans s3)
                    rw [hx, Bool.false_and] at z
                    exact z
                  | true =>
                    refine iteT ?_
                    refine ⟨_, rfl, t, _, 2, vy, rfl, rfl, sqT_same s3 (sqT_same s2 hT), rfl, _, rfl, _, _, rfl, rfl, p, vy, y, a, b, _, rfl, by omega, by omega, (dy.same s2).same s3, fy, hn, fun H3 s4 => ?_⟩
                    have z := k _ (((s1.trans s2).trans s3).trans s4)
                    rw [hx, Bool.true_and] at z
                    exact z
            · rw [decide_eq_false htt]
              have hrow : isRowD d 3 3 = false := by
                cases d <;> simp [isRowD, tyD] at htt ⊢
              have q := k _ s1
              rw [kind_no ht (.inr hrow)] at q
              exact iteT (iteT q)
theorem ok_truth (D : DefAt K mg "_law_truth" s_law_truth ["_law_found", "_law_due"]) (T : Bl mg) : CallOk P w K mg base 1 "_law_truth" ["_law_found", "_law_due"] spTruth := by
  refine D.ok sc_law_truth (fun vs H Q E h => ?_) (fun f cdv A outer s H vs Q E hr h => ?_)
  · obtain ⟨a, b, rfl, _⟩ := h
    rfl
  · obtain ⟨a, b, rfl, k⟩ := h
    refine ⟨_, (pss_one (ps_ret (pe_and (pe_callB call_isD (by rfl) T.isinstance_ (by decide +kernel) (pa_cons (pv 0) (pa_cons (pe_bltn (v := .ty "bool") (by rfl) T.bool_ (by decide +kernel) rfl) pa_nil))) (pe_one (pe_cmpR op_eq (pv 0) (pv 1) (nomark _)))))), ?_⟩
    refine ⟨_, rfl, (fun _ => False), _, _, "bool", rfl, .bl a, .inr (.inr rfl), _, rfl, ?_⟩
    refine iteT ⟨_, rfl, _, rfl, rfl, ?_⟩
    have e : decide (V.bl a = V.bl b) = decide (a = b) := by
      by_cases c : a = b
      · subst c
        simp
      · rw [decide_eq_false c]
        exact decide_eq_false fun z => c (by injection z)
    show Q (.bl (decide (V.bl a = V.bl b))) H
    rw [e]
    exact k
end

section
variable {P : Program} {w : World} {K : PySem.W.Frag} {mg : Str → Option Value} {base : Heap}
theorem ok_any (D : DefAt K mg "_law_any" s_law_any ["_law_pen_here", "_law_deep"]) (T : Bl mg) (C_law_draw : CallOk P w K mg base 2 "_law_draw" ["_law_pen_here", "_law_below"] spDraw) :
    ∀ n : Nat, CallOk P w K mg base (n + 3) "_law_any" ["_law_pen_here", "_law_deep"] (spAny K n) := by
  -- the whole body, from the deeper one (none at 0)
  have body : ∀ (n : Nat) (sp' : Sp), CallOk P w K mg base (n + 2) "_law_any" ["_law_pen_here", "_law_deep"] sp' → (∀ m, n = m + 1 → sp' = spAny K m) → CallOk P w K mg base (n + 3) "_law_any" ["_law_pen_here", "_law_deep"] (spAny K n) := by
    intro n sp' C_law_any hsp
    refine D.ok sc_law_any (fun vs H Q E h => ?_) (fun f cdv A outer s H vs Q E hr h => ?_)
    · obtain ⟨p, c, z, rfl, _⟩ := h
      rfl
    · obtain ⟨p, c, z, rfl, hz, hn4, hP, k⟩ := h
      refine ⟨_, (pss_cons (ps_set (i := 2) sc_law_any.nd rfl (Or.inl rfl) (pe_callOk C_law_draw hr (by omega) (by rfl) (pa_cons (pv 0) (pa_cons (pe_ifExp (pt_cmpR op_gt (pv 1) pe_int (nomark _)) pe_int pe_int) pa_nil))))
        (pss_cons (ps_if (pt_cmpR op_lt (pv 2) pe_int (nomark _)) (pss_one (ps_ret (pe_ix ix_list (pe_lst (pa_cons pe_int (pa_cons pe_bl (pa_cons pe_non (pa_cons pe_str (pa_cons pe_str (pa_cons pe_str (pa_cons pe_str (pa_cons pe_str (pa_cons (pe_un un_neg (pe_op op_pow pe_int pe_int)) (pa_cons pe_str pa_nil))))))))))) (pv 2) (fun _ _ => rfl)))) pss_nil)
        (pss_cons (ps_setLc (i := 3) (own := [("_law_turn", 4)]) (g := gName 4) (tt := tYes) rfl sc_law_any.nd rfl rfl (sw_true rfl rfl rfl (by decide +kernel)) (pi_range1 (by rfl) T.range_ (pa_cons (pe_callOk C_law_draw hr (by omega) (by rfl) (pa_cons (pv 0) (pa_cons pe_int pa_nil))) pa_nil)) (blkOk_by (N := sl_law_any) (sc := defScope s_law_any) (by decide +kernel)) (fun _ _ _ _ _ => pg_name (i := 4) sc_law_any.nd rfl (Or.inl rfl)) (fun _ _ _ _ _ => pts_nil) (fun _ _ _ _ _ => (pe_callOk C_law_any hr (by omega) (by rfl) (pa_cons (pv 0) (pa_cons (pe_op op_sub (pv 1) pe_int) pa_nil)))))
        (pss_cons (ps_if (pt_cmpR op_eq (pv 2) pe_int (nomark _)) (pss_one (ps_ret (pv 3))) pss_nil)
        (pss_cons (ps_if (pt_cmpR op_eq (pv 2) pe_int (nomark _)) (pss_one (ps_ret (pe_disp (pps_cons pe_str (pv 3) pps_nil) (by rfl) (by rfl) (fun z => by cases z) (by decide)))) pss_nil)
        (pss_one (ps_ret (pe_callTy call_tuple_of (by rfl) T.tuple_ (by decide +kernel) (pa_cons (pv 3) pa_nil))))))))), ?_⟩
      refine ⟨_, rfl, _, rfl, _, _, rfl, rfl, _, rfl, ?_⟩
      by_cases hz0 : 0 < z
      · obtain ⟨n', rfl⟩ : ∃ n', n = n' + 1 := ⟨n - 1, by omega⟩
        obtain rfl := hsp n' rfl
        rw [decide_eq_true hz0]
        refine iteT ⟨p, c, 14, rfl, hP, by decide, by decide, fun m H1 m0 m1 hP1 k1 => ?_⟩
        refine ⟨_, rfl, _, _, rfl, rfl, _, rfl, ?_⟩
        by_cases h10 : m < 10
        · rw [decide_eq_true h10]
          refine iteT ?_
          obtain ⟨v, d, hv, hd, hf⟩ := any_at m0 h10
          refine ⟨_, _, rfl, rfl, ⟨by decide, by decide, by decide⟩, _, rfl, le_line (by show 10 ≤ 16000000; decide), fun q hq => ?_⟩
          refine ⟨_, rfl, q, _, m, v, rfl, rfl, SqL.of upd_same, hv, ?_⟩
          refine k v d _ (hd _ _ _) (hf.le ?_ (Nat.zero_le _)) (hP1.new hq) (k1.lay hq)
          show 60 ≤ 5 * (bAny n' + 2) + 20
          have := bAny_ge n'
          omega
        · rw [decide_eq_false h10]
          refine iteF ?_
          refine ⟨_, rfl, p, c, 6, rfl, hP1, by decide, by decide, fun many H2 l0 l1 hP2 k2 => ⟨many, rfl, by omega, by omega, fun L hL => ?_⟩⟩
          have kL : Kp p H (upd H2 L (.lst [])) := (k1.trans k2).lay hL
          have hPL : Pen (upd H2 L (.lst [])) p c := hP2.new hL
          have nLp : L ≠ p := hP2.neP hL
          have nLc : L ≠ c := hP2.neC hL
          have hL0 : H L = none := (k1.trans k2).none hL nLp
          have tk0 : ∀ a, Tk H a → Tk (upd H2 L (.lst [])) a := Tk.kp kL hPL.tk
          refine lc_range (lo := 0) (n := many.toNat) (fun i H' => ∃ vs ds, H' L = some (.lst vs) ∧ DaAll K (Tk (upd H2 L (.lst []))) H' vs ds ∧ ds.length = i ∧ (∀ e ∈ ds, Fit (bAny n') (2 * n') e) ∧ Pen H' p c ∧ Kp p H H' ∧ (∀ a, Tk (upd H2 L (.lst [])) a → Tk H' a))
            ⟨[], [], upd_same, .nil, rfl, fun _ z => (nomatch z), hPL, kL, fun _ z => z⟩ ?_ ?_
          · rintro i H3 hi ⟨vs, ds, g1, g2, g3, g4, g5, g6, g7⟩
            refine ⟨rfl, ?_⟩
            simp only [tYes, if_true]
            refine ⟨_, rfl, _, rfl, _, _, rfl, rfl, p, c, _, rfl, by omega, by omega, g5, fun v d H4 hd hf hP4 k4 => ?_⟩
            have e1 : H4 L = some (.lst vs) := k4 _ _ g1 nLp
            have q4 : DaAll K (Tk (upd H2 L (.lst []))) H4 vs ds := g2.kp k4 g5.noTup hPL.tk
            have d4 : Da K (Tk (upd H2 L (.lst []))) H4 v d := hd.less g7
            have t4 : ∀ a, Tk (upd H2 L (.lst [])) a → Tk H4 a := fun a z => Tk.kp k4 hP4.tk a (g7 a z)
            refine ⟨vs, e1, ?_, vs ++ [v], ds ++ [d], upd_same, ?_, ?_, ?_, hP4.keep nLp nLc, (g6.trans k4).mut hL0, ?_⟩
            · rw [g2.length, g3]
              exact lt_line (by omega)
            · exact (q4.append (.cons d4 .nil)).put e1 (fun _ => by simp) (fun _ _ => by simp) (Tk.of upd_same)
            · rw [List.length_append, g3]
              rfl
            · intro e he
              rcases List.mem_append.mp he with he | he
              · exact g4 e he
              · rw [List.mem_singleton.mp he]
                exact hf
            · intro a z
              by_cases ea : a = L
              · rw [ea]
                exact Tk.of upd_same
              · intro y
                rw [upd_ne ea] at y
                exact t4 a z y
          · rintro H3 ⟨vs, ds, g1, g2, g3, g4, g5, g6, g7⟩
            have fa : FitAll (5 * (bAny n' + 2)) (2 * n') ds := by
              have r := FitAll.rep (n := bAny n') (m := 2 * n') (d := .none) ⟨by rw [PyData.showable], by rw [Ow.wt]; have := bAny_ge n'; omega, by simp only [PyData.depth]; exact Nat.zero_le _⟩ ds.length rfl g4
              refine r.le ?_ (Nat.le_refl _)
              exact Nat.mul_le_mul_right _ (by omega)
            have g2' : DaAll K (Tk H) H3 vs ds := g2.less tk0
            have nL : ¬ Tk H L := fun z => z hL0
            have dl : Da K (Tk H) H3 (.ref L) (.list ds) := .lst g1 nL g2'
            have fl : Fit (5 * (bAny n' + 2) + 4) (2 * n' + 1) (.list ds) := Fit.lst fa
            refine ⟨_, rfl, rfl, _, rfl, ?_⟩
            by_cases e10 : m = 10
            · subst e10
              refine iteT ⟨_, rfl, k _ _ H3 dl (fl.le ?_ ?_) g5 g6⟩
              · show _ ≤ 5 * (bAny n' + 2) + 20
                omega
              · omega
            · rw [decide_eq_false (show ¬ V.int m = V.int 10 from fun e => e10 (by injection e))]
              refine iteF ?_
              refine ⟨_, rfl, rfl, _, rfl, ?_⟩
              by_cases e11 : m = 11
              · subst e11
                refine iteT ?_
                refine fun q hq => ?_
                have hq3 : H3 q = none := hq
                have nqL : L ≠ q := ne_of_none g1 hq
                refine ⟨_, rfl, upd_same, [(Sum.inr (Str.ofString "x"), .ref L)], rfl, (by show 1 ≤ 15; decide), ?_⟩
                rw [upd_upd]
                have dq : Da K (Tk H) (upd H3 q (.dK [(Sum.inr (Str.ofString "x"), .ref L)])) (.ref q) (.dict [(.str (Str.ofString "x"), .list ds)]) := by
                  refine .dct (kvs := [(Sum.inr (Str.ofString "x"), .ref L)]) (ds := [.list ds]) upd_same (fun z => z (g6.none hq (g5.neP hq))) (.cons ?_ .nil)
                  exact dl.same (same_new hq)
                refine k _ _ _ dq ?_ (g5.new hq) (g6.lay hq)
                have w1 := fl.wt
                have w2 := fl.dp
                refine ⟨?_, ?_, ?_⟩
                · simp only [PyData.showable, PyData.showableKv]
                  have := fl.sh
                  rw [PyData.showable] at this
                  rw [this]
                  rfl
                · rw [Ow.wt, wtKv, wtKv]
                  have e : wt (.str (Str.ofString "x")) = 4 := by decide +kernel
                  rw [e]
                  show _ ≤ 5 * (bAny n' + 2) + 20
                  omega
                · simp only [PyData.depth, PyData.depthKv] at w2 ⊢
                  omega
              · rw [decide_eq_false (show ¬ V.int m = V.int 11 from fun e => e11 (by injection e))]
                refine iteF ?_
                refine ⟨_, rfl, L, vs, rfl, .inl ⟨SqL.of g1, fun q hq => ?_⟩⟩
                have dq : Da K (Tk H) (upd H3 q (.tup vs)) (.ref q) (.tuple ds) := .tup (SqT.of upd_same) (g2'.same (same_new hq))
                exact k _ _ _ dq ((Fit.tup fa).le (by show _ ≤ 5 * (bAny n' + 2) + 20; omega) (by omega)) (g5.new hq) (g6.lay hq)
      · obtain rfl : n = 0 := by omega
        rw [decide_eq_false hz0]
        refine iteF ⟨p, c, 10, rfl, hP, by decide, by decide, fun m H1 m0 m1 hP1 k1 => ?_⟩
        refine ⟨_, rfl, _, _, rfl, rfl, _, rfl, ?_⟩
        rw [decide_eq_true m1]
        refine iteT ?_
        obtain ⟨v, d, hv, hd, hf⟩ := any_at m0 m1
        refine ⟨_, _, rfl, rfl, ⟨by decide, by decide, by decide⟩, _, rfl, le_line (by show 10 ≤ 16000000; decide), fun q hq => ?_⟩
        refine ⟨_, rfl, q, _, m, v, rfl, rfl, SqL.of upd_same, hv, ?_⟩
        exact k v d _ (hd _ _ _) hf (hP1.new hq) (k1.lay hq)
  intro n
  induction n with
  | zero => exact body 0 _ ((D.none sc_law_any).mono (by decide)) (fun m e => by omega)
  | succ n ih => exact body (n + 1) _ ih (fun m e => by
      obtain rfl : n = m := by omega
      rfl)
end

section
variable {P : Program} {w : World} {K : PySem.W.Frag} {mg : Str → Option Value} {base : Heap}
theorem ok_rough_kind (D : DefAt K mg "_law_rough_kind" s_law_rough_kind ["_law_pen_here", "_law_deep"]) (T : Bl mg) (C_law_draw : CallOk P w K mg base 2 "_law_draw" ["_law_pen_here", "_law_below"] spDraw)
    (C_law_name : CallOk P w K mg base 3 "_law_name" ["_law_pen_here", "_law_gone"] spName) : ∀ n : Nat, CallOk P w K mg base (n + 4) "_law_rough_kind" ["_law_pen_here", "_law_deep"] (spRough K n) := by
  have body : ∀ (n : Nat) (sp' : Sp), CallOk P w K mg base (n + 3) "_law_rough_kind" ["_law_pen_here", "_law_deep"] sp' → (∀ m, n = m + 1 → sp' = spRough K m) → CallOk P w K mg base (n + 4) "_law_rough_kind" ["_law_pen_here", "_law_deep"] (spRough K n) := by
    intro n sp' C_law_rough_kind hsp
    refine D.ok sc_law_rough_kind (fun vs H Q E h => ?_) (fun f cdv A outer s H vs Q E hr h => ?_)
    · obtain ⟨p, c, z, rfl, _⟩ := h
      rfl
    · obtain ⟨p, c, z, rfl, hz, hn6, hP, k⟩ := h
      refine ⟨_, (pss_cons (ps_if (PW.pt (pw_or (pt_cmpR op_le (pv 1) pe_int (nomark _)) (pw_or1 (pt_cmpR op_eq (pe_callOk C_law_draw hr (by omega) (by rfl) (pa_cons (pv 0) (pa_cons pe_int pa_nil))) pe_int (nomark _))))) (pss_one (ps_ret (pe_callOk C_law_name hr (by omega) (by rfl) (pa_cons (pv 0) (pa_cons (pe_lst pa_nil) pa_nil))))) pss_nil)
        (pss_cons (ps_set (i := 2) sc_law_rough_kind.nd rfl (Or.inl rfl) (pe_ix ix_list (pe_lst (pa_cons pe_str (pa_cons pe_str pa_nil))) (pe_callOk C_law_draw hr (by omega) (by rfl) (pa_cons (pv 0) (pa_cons pe_int pa_nil))) (fun _ _ => rfl)))
        (pss_one (ps_ret (pe_tup (pa_cons (pv 2) (pa_cons (pe_callOk C_law_rough_kind hr (by omega) (by rfl) (pa_cons (pv 0) (pa_cons (pe_op op_sub (pv 1) pe_int) pa_nil))) (pa_cons (pe_callOk C_law_rough_kind hr (by omega) (by rfl) (pa_cons (pv 0) (pa_cons (pe_op op_sub (pv 1) pe_int) pa_nil))) pa_nil)))))))), ?_⟩
      have named : ∀ H1 : Hp, Pen H1 p c → Kp p H H1 → ∀ q, H1 q = none → spName [.ref p, .ref q] (upd H1 q (.lst [])) Q E0 := fun H1 hP1 k1 q hq =>
        ⟨p, c, q, [], rfl, hP1.new hq, upd_same, hP1.neP hq, by decide, fun x H2 hx hP2 k2 => k (.str x) (.str x) H2 (.str x) ((fit_nm hx).le (bKind_ge n) (Nat.zero_le _)) hP2 ((k1.lay hq).trans k2)⟩
      refine ⟨_, rfl, _, _, rfl, rfl, _, rfl, ?_⟩
      by_cases h0 : z ≤ 0
      · rw [decide_eq_true h0]
        refine iteT (iteT ?_)
        exact ⟨_, rfl, Nat.zero_le _, fun q hq => named H hP Kp.refl q hq⟩
      · obtain ⟨n', rfl⟩ : ∃ n', n = n' + 1 := ⟨n - 1, by omega⟩
        obtain rfl := hsp n' rfl
        rw [decide_eq_false h0]
        refine iteF ?_
        refine ⟨_, rfl, p, c, 2, rfl, hP, by decide, by decide, fun m H1 m0 m1 hP1 k1 => ⟨rfl, _, rfl, ?_⟩⟩
        by_cases e0 : m = 0
        · subst e0
          refine iteT ?_
          exact ⟨_, rfl, Nat.zero_le _, fun q hq => named H1 hP1 k1 q hq⟩
        · rw [decide_eq_false (show ¬ V.int m = V.int 0 from fun e => e0 (by injection e))]
          refine iteF ?_
          refine ⟨le_line (by show 2 ≤ 16000000; decide), fun q hq => ?_⟩
          refine ⟨_, rfl, p, c, 2, rfl, hP1.new hq, by decide, by decide, fun l H2 l0 l1 hP2 k2 => ?_⟩
          obtain ⟨x, hx, fx, _⟩ := sign_at l0 l1
          have kq : Kp p H H2 := (k1.lay hq).trans k2
          refine ⟨q, _, l, .str x, rfl, rfl, SqL.of (k2 _ _ upd_same (hP1.neP hq)), hx, ?_⟩
          refine ⟨_, rfl, _, rfl, _, rfl, _, _, rfl, rfl, p, c, _, rfl, by omega, by omega, hP2, fun va a H3 ha fa hP3 k3 => ?_⟩
          refine ⟨_, rfl, _, rfl, _, _, rfl, rfl, p, c, _, rfl, by omega, by omega, hP3, fun vb b H4 hb fb hP4 k4 => ?_⟩
          refine ⟨le_line (by show 3 ≤ 16000000; decide), fun t ht => ?_⟩
          have k04 : Kp p H H4 := (kq.trans k3).trans k4
          have da : Da K All H4 va a := ha.kp k4 hP3.noTup trivial
          have dt : Da K All (upd H4 t (.tup [.str x, va, vb])) (.ref t) (.tuple [.str x, a, b]) :=
            .tup (SqT.of upd_same) (.cons (.str x) (.cons (da.same (same_new ht)) (.cons (hb.same (same_new ht)) .nil)))
          refine k _ _ _ dt ?_ (hP4.new ht) (k04.lay ht)
          refine (Fit.tup (.cons (fx.le (Nat.le_refl _) (Nat.zero_le _)) (.cons fa (.cons fb (FitAll.nil (n := 0)))))).le ?_ (Nat.le_refl _)
          show _ ≤ 2 * (bKind n' + 2) + 12
          omega
  intro n
  induction n with
  | zero => exact body 0 _ ((D.none sc_law_rough_kind).mono (by decide)) (fun m e => by omega)
  | succ n ih => exact body (n + 1) _ ih (fun m e => by
      obtain rfl : n = m := by omega
      rfl)
end

section
variable {P : Program} {w : World} {K : PySem.W.Frag} {mg : Str → Option Value} {base : Heap}
theorem ok_spoiled (D : DefAt K mg "_law_spoiled" s_law_spoiled ["_law_pen_here", "_law_thing", "_law_deep"]) (T : Bl mg) (C_law_draw : CallOk P w K mg base 2 "_law_draw" ["_law_pen_here", "_law_below"] spDraw)
    (C2 : CallOk P w K mg base 5 "_law_any" ["_law_pen_here", "_law_deep"] (spAny K 2)) (C1 : CallOk P w K mg base 5 "_law_any" ["_law_pen_here", "_law_deep"] (spAny K 1)) :
    ∀ n : Nat, CallOk P w K mg base (n + 6) "_law_spoiled" ["_law_pen_here", "_law_thing", "_law_deep"] (spSpoil K n) := by
  have body : ∀ (n : Nat) (sp' : Sp), CallOk P w K mg base (n + 5) "_law_spoiled" ["_law_pen_here", "_law_thing", "_law_deep"] sp' → (∀ m, n = m + 1 → sp' = spSpoil K m) → CallOk P w K mg base (n + 6) "_law_spoiled" ["_law_pen_here", "_law_thing", "_law_deep"] (spSpoil K n) := by
    intro n sp' C_law_spoiled hsp
    refine D.ok sc_law_spoiled (fun vs H Q E h => ?_) (fun f cdv A outer s H vs Q E hr h => ?_)
    · obtain ⟨p, c, v, d, z, a, b, rfl, _⟩ := h
      rfl
    · obtain ⟨p, c, v, d, z, a, b, rfl, hz, hn8, hP, hd, hf, ha, k⟩ := h
      refine ⟨_, (Evl.pss_cut (ps_if (PW.pt (pw_or (pt_not (pt_val (pe_callB call_isD (by rfl) T.isinstance_ (by decide +kernel) (pa_cons (pv 1) (pa_cons (pe_bltn (v := .ty "tuple") (by rfl) T.tuple_ (by decide +kernel) rfl) pa_nil))))) (pw_or (pt_cmpR (op_eqU hr.units) (pv 1) (pe_tup pa_nil) (nomark _)) (pw_or (pt_cmpR op_le (pv 2) pe_int (nomark _)) (pw_or1 (pt_cmpR op_eq (pe_callOk C_law_draw hr (by omega) (by rfl) (pa_cons (pv 0) (pa_cons pe_int pa_nil))) pe_int (nomark _))))))) (pss_one (ps_ret (pe_callOk C2 hr (by omega) (by rfl) (pa_cons (pv 0) (pa_cons pe_int pa_nil))))) pss_nil)
        (pss_cons (ps_set (i := 3) sc_law_spoiled.nd rfl (Or.inl rfl) (pe_callOk C_law_draw hr (by omega) (by rfl) (pa_cons (pv 0) (pa_cons (pe_callB call_len (by rfl) T.len_ (by decide +kernel) (pa_cons (pv 1) pa_nil)) pa_nil))))
        (pss_cons (ps_set (i := 4) sc_law_spoiled.nd rfl (Or.inl rfl) (pe_callOk C_law_draw hr (by omega) (by rfl) (pa_cons (pv 0) (pa_cons pe_int pa_nil))))
        (pss_cons (ps_if (pt_cmpR op_eq (pv 4) pe_int (nomark _)) (pss_one (ps_ret (pe_op opAdd (pe_slice sl_tupA (pv 1) po_none (po_some (pv 3))) (pe_slice sl_tupA (pv 1) (po_some (pe_op opAdd (pv 3) pe_int)) po_none)))) pss_nil)
        (pss_cons (ps_if (pt_cmpR op_eq (pv 4) pe_int (nomark _)) (pss_one (ps_ret (pe_op opAdd (pe_op opAdd (pe_slice sl_tupA (pv 1) po_none (po_some (pv 3))) (pe_tup (pa_cons (pe_callOk C1 hr (by omega) (by rfl) (pa_cons (pv 0) (pa_cons pe_int pa_nil))) pa_nil))) (pe_slice sl_tupA (pv 1) (po_some (pv 3)) po_none)))) pss_nil)
        (pss_cons (ps_if (pt_cmpR op_eq (pv 4) pe_int (nomark _)) (pss_one (ps_ret (pe_callTy call_list_of (by rfl) T.list_ (by decide +kernel) (pa_cons (pv 1) pa_nil)))) pss_nil)
        (pss_cons (ps_if (pt_cmpR op_eq (pv 4) pe_int (nomark _)) (pss_one (ps_ret (pe_op opAdd (pe_op opAdd (pe_slice sl_tupA (pv 1) po_none (po_some (pv 3))) (pe_tup (pa_cons (pe_ix ix_tup (pv 1) pe_int (fun _ _ => rfl)) pa_nil))) (pe_slice sl_tupA (pv 1) (po_some (pe_op opAdd (pv 3) pe_int)) po_none)))) pss_nil)
        (pss_one (ps_ret (pe_op opAdd (pe_op opAdd (pe_slice sl_tupA (pv 1) po_none (po_some (pv 3))) (pe_tup (pa_cons (pe_callOk C_law_spoiled hr (by omega) (by rfl) (pa_cons (pv 0) (pa_cons (pe_ix ix_tup (pv 1) (pv 3) (fun _ _ => rfl)) (pa_cons (pe_op op_sub (pv 2) pe_int) pa_nil)))) pa_nil))) (pe_slice sl_tupA (pv 1) (po_some (pe_op opAdd (pv 3) pe_int)) po_none))))))))))), ?_⟩
      have other : ∀ H1 : Hp, Pen H1 p c → Kp p H H1 → spAny K 2 [.ref p, .int 2] H1 Q E0 := fun H1 hP1 k1 =>
        ⟨p, c, 2, rfl, rfl, by decide, hP1, fun v' d' H2 hd2 hf2 hP2 k2 => k v' d' H2 (hd2.less (Tk.kp k1 hP1.tk)) (hf2.le (by show 5 * (5 * (60 + 2) + 20 + 2) + 20 ≤ _; omega) (by omega)) hP2 (k1.trans k2)⟩
      refine ⟨fun σ H1 => ∃ (ds : List PyData) (t : Addr) (xs : List V), d = .tuple ds ∧ ds ≠ [] ∧ 0 < z ∧ v = .ref t ∧ SqT K H1 t xs ∧ DaAll K All H1 xs ds ∧ Pen H1 p c ∧ Kp p H H1 ∧ σ = [some (.ref p), some v, some (.int z), none, none], ?_, ?_⟩
      · refine ⟨_, rfl, All, v, d, "tuple", rfl, hd, .inr (.inl rfl), _, rfl, ?_⟩
        by_cases ht : tyD d = "tuple"
        · obtain ⟨ds, rfl⟩ := ty_tup ht
          obtain ⟨t, xs, rfl, hT, hA⟩ := hd.tupInv
          refine iteF ?_
          refine ⟨_, rfl, Nat.zero_le _, fun q hq => ?_⟩
          have sq : Same H (upd H q (.tup [])) := same_new hq
          have hPq : Pen (upd H q (.tup [])) p c := hP.new hq
          have kq : Kp p H (upd H q (.tup [])) := Kp.of sq
          refine ⟨t, q, xs, rfl, rfl, sqT_same sq hT, SqT.of upd_same, _, rfl, ?_⟩
          cases hxs : xs.isEmpty with
          | true => exact iteT (iteT ⟨_, rfl, other _ hPq kq⟩)
          | false =>
            refine iteF ?_
            refine ⟨_, rfl, _, _, rfl, rfl, _, rfl, ?_⟩
            by_cases h0 : z ≤ 0
            · rw [decide_eq_true h0]
              exact iteT (iteT ⟨_, rfl, other _ hPq kq⟩)
            · rw [decide_eq_false h0]
              refine iteF ?_
              refine ⟨_, rfl, p, c, 4, rfl, hPq, by decide, by decide, fun m H2 _ _ hP2 k2 => ⟨rfl, _, rfl, ?_⟩⟩
              refine ite2 (fun _ => ⟨_, rfl, other _ hP2 (kq.trans k2)⟩) (fun _ => ?_)
              refine ⟨ds, t, xs, rfl, fun e => ?_, by omega, rfl, sqT_kp k2 hPq.noTup (sqT_same sq hT), (hA.same sq).kp k2 hPq.noTup trivial, hP2, kq.trans k2, rfl⟩
              have l := hA.length
              rw [e] at l
              cases xs with
              | nil => cases hxs
              | cons _ _ => cases l
        · rw [decide_eq_false ht]
          exact iteT (iteT ⟨_, rfl, other H hP Kp.refl⟩)
      · rintro σ H1 ⟨ds, t, xs, rfl, hne, hz0, rfl, hT, hA, hP1, k1, rfl⟩
        obtain ⟨n', rfl⟩ : ∃ n', n = n' + 1 := ⟨n - 1, by omega⟩
        obtain rfl := hsp n' rfl
        obtain ⟨b', rfl⟩ := hf.deep
        obtain ⟨h4, hfa⟩ := hf.items
        have hlen := len_wt ds
        have hwt := hfa.wt
        have hpos : 0 < ds.length := List.length_pos_iff.mpr hne
        have fin : ∀ (H5 : Hp) (t5 : Addr) (ws : List V) (es : List PyData), SqT K H5 t5 ws → DaAll K (Tk H) H5 ws es → FitAll (2 * a + 1796) (b' + 8) es → Pen H5 p c → Kp p H H5 → Q (.ref t5) H5 := fun H5 t5 ws es g1 g2 g3 g4 g5 =>
          k _ _ H5 (.tup g1 g2) ((Fit.tup g3).le (by omega) (by omega)) g4 g5
        refine ⟨_, rfl, _, rfl, _, _, rfl, .inr ⟨_, hT, rfl⟩, p, c, _, rfl, hP1, ?_, ?_, fun sp H2 s0 s1 hP2 k2 => ?_⟩
        · rw [hA.length]
          omega
        · rw [hA.length]
          omega
        rw [hA.length] at s1
        obtain ⟨j, rfl⟩ : ∃ j : Nat, sp = (j : Int) := ⟨sp.toNat, by omega⟩
        have hj : j < ds.length := by omega
        have hT2 : SqT K H2 t xs := sqT_kp k2 hP1.noTup hT
        have hA2 : DaAll K All H2 xs ds := hA.kp k2 hP1.noTup trivial
        obtain ⟨fa, fb, fc, hsum, gA, gB, gC⟩ := hfa.get (List.getElem?_eq_getElem hj)
        refine ⟨_, rfl, p, c, 8, rfl, hP2, by decide, by decide, fun road H3 r0 r1 hP3 k3 => ?_⟩
        have hT3 : SqT K H3 t xs := sqT_kp k3 hP2.noTup hT2
        have hA3 : DaAll K All H3 xs ds := hA2.kp k3 hP2.noTup trivial
        have k03 : Kp p H H3 := (k1.trans k2).trans k3
        have hj1 : (j : Int) + 1 = ((j + 1 : Nat) : Int) := by omega
        have hxl : xs.length ≤ 4000000 := by
          rw [hA.length]
          omega
        have up : ∀ {H5 : Hp} {ws : List V} {es : List PyData}, DaAll K All H5 ws es → DaAll K (Tk H) H5 ws es := fun h => h.less fun _ _ => trivial
        refine ⟨_, rfl, rfl, _, rfl, ?_⟩
        refine ite2 (fun _ => ?_) (fun _ => ?_)
        · -- one less
          refine ⟨_, rfl, _, rfl, _, rfl, ?_⟩
          dsimp only [tNoPart]
          refine cut_any hT3 fun t1 H4 s4 hT4 => ?_
          refine ⟨_, rfl, _, rfl, .inl ⟨_, _, rfl, rfl, _, rfl, ?_⟩⟩
          dsimp only [tNoPart]
          refine cut_any (sqT_same s4 hT3) fun t2 H5 s5 hT5 => ?_
          rw [cut_take] at hT4
          rw [hj1, cut_drop] at hT5
          refine .inr (.inr (.inl (cat_any (sqT_same s5 hT4) hT5 (le_line ?_) fun t3 H6 s6 hT6 => ?_)))
          · rw [List.length_take, List.length_drop]
            omega
          · have sm := (s4.trans s5).trans s6
            have q := (hA3.take j).append (hA3.drop (j + 1))
            exact fin H6 t3 _ _ hT6 (up (q.same sm)) ((gA.append gC).le (by omega) (by omega)) (hP3.same sm) (k03.same sm)
        refine ⟨_, rfl, rfl, _, rfl, ?_⟩
        refine ite2 (fun _ => ?_) (fun _ => ?_)
        · -- one more
          refine ⟨_, rfl, _, rfl, _, rfl, ?_⟩
          dsimp only [tNoPart]
          refine cut_any hT3 fun t1 H4 s4 hT4 => ?_
          rw [cut_take] at hT4
          refine ⟨_, rfl, p, c, 1, rfl, rfl, by decide, hP3.same s4, fun v1 d1 H5 hd1 hf1 hP5 k5 => ?_⟩
          refine ⟨le_line (by show 1 ≤ 16000000; decide), fun t2 h2 => ?_⟩
          have s6 : Same H5 (upd H5 t2 (.tup [v1])) := same_new h2
          have hT5 := sqT_same s6 (sqT_kp k5 (hP3.same s4).noTup hT4)
          refine .inr (.inr (.inl (cat_any hT5 (SqT.of upd_same) (le_line ?_) fun t3 H7 s7 hT7 => ?_)))
          · rw [List.length_take]
            show min j xs.length + 1 ≤ 16000000
            omega
          have hT8 := sqT_same s7 (sqT_same s6 (sqT_kp k5 (hP3.same s4).noTup (sqT_same s4 hT3)))
          refine ⟨_, rfl, _, rfl, _, rfl, ?_⟩
          dsimp only [tNoPart]
          refine cut_any hT8 fun t4 H8 s8 hT9 => ?_
          rw [cut_drop] at hT9
          refine .inr (.inr (.inl (cat_any (sqT_same s8 hT7) hT9 (le_line ?_) fun t5 H9 s9 hT10 => ?_)))
          · rw [List.length_append, List.length_take, List.length_drop]
            show min j xs.length + 1 + (xs.length - j) ≤ 16000000
            omega
          · have hP4 := hP3.same s4
            have sm : Same H5 H9 := (s6.trans s7).trans (s8.trans s9)
            have q1 : DaAll K All H9 (xs.take j) (ds.take j) := (((hA3.take j).same s4).kp k5 hP4.noTup trivial).same sm
            have q2 : DaAll K All H9 (xs.drop j) (ds.drop j) := (((hA3.drop j).same s4).kp k5 hP4.noTup trivial).same sm
            have q3 : Da K (Tk H) H9 v1 d1 := (hd1.same sm).less (Tk.kp (k03.same s4) hP4.tk)
            refine fin H9 t5 _ _ hT10 (((up q1).append (.cons q3 .nil)).append (up q2)) ?_ (hP5.same sm) (((k03.same s4).trans k5).same sm)
            obtain ⟨e1, e2, hs2, f1, f2⟩ := hfa.split j
            have w1 : FitAll e1 (b' + 8) (ds.take j) := f1.le (Nat.le_refl _) (by omega)
            have w2 : FitAll e2 (b' + 8) (ds.drop j) := f2.le (Nat.le_refl _) (by omega)
            have w3 : FitAll 340 (b' + 8) [d1] := (FitAll.cons hf1 (FitAll.nil (n := 0))).le (by show 5 * (60 + 2) + 20 + 2 + 0 ≤ 340; decide) (by omega)
            exact ((w1.append w3).append w2).le (by omega) (Nat.le_refl _)
        refine ⟨_, rfl, rfl, _, rfl, ?_⟩
        refine ite2 (fun _ => ?_) (fun _ => ?_)
        · -- a list
          refine ⟨_, rfl, t, xs, rfl, .inr hT3, fun l hl => ?_⟩
          refine k _ _ _ (.lst upd_same (fun z => z (k03.none hl (hP3.neP hl))) (up (hA3.same (same_new hl)))) ?_ (hP3.new hl) (k03.lay hl)
          exact (Fit.lst hfa).le (by omega) (by omega)
        refine ⟨_, rfl, rfl, _, rfl, ?_⟩
        refine ite2 (fun _ => ?_) (fun _ => ?_)
        · -- the first one again
          refine ⟨_, rfl, _, rfl, _, rfl, ?_⟩
          dsimp only [tNoPart]
          refine cut_any hT3 fun t1 H4 s4 hT4 => ?_
          rw [cut_take] at hT4
          obtain ⟨v0, hv0⟩ : ∃ v0, xs[0]? = some v0 := ⟨xs[0]'(by rw [hA.length]; exact hpos), List.getElem?_eq_getElem _⟩
          obtain ⟨d0, hd0, hda0⟩ := hA3.get hv0
          refine ⟨_, rfl, t, xs, 0, v0, rfl, rfl, sqT_same s4 hT3, atI_nat (j := 0) hv0, le_line (by show 1 ≤ 16000000; decide), fun t2 h2 => ?_⟩
          have s6 : Same H4 (upd H4 t2 (.tup [v0])) := same_new h2
          refine .inr (.inr (.inl (cat_any (sqT_same s6 hT4) (SqT.of upd_same) (le_line ?_) fun t3 H7 s7 hT7 => ?_)))
          · rw [List.length_take]
            show min j xs.length + 1 ≤ 16000000
            omega
          refine ⟨_, rfl, _, rfl, .inl ⟨_, _, rfl, rfl, _, rfl, ?_⟩⟩
          dsimp only [tNoPart]
          refine cut_any (sqT_same s7 (sqT_same s6 (sqT_same s4 hT3))) fun t4 H8 s8 hT9 => ?_
          rw [hj1, cut_drop] at hT9
          refine .inr (.inr (.inl (cat_any (sqT_same s8 hT7) hT9 (le_line ?_) fun t5 H9 s9 hT10 => ?_)))
          · rw [List.length_append, List.length_take, List.length_drop]
            show min j xs.length + 1 + (xs.length - (j + 1)) ≤ 16000000
            omega
          · have sm := ((s4.trans s6).trans s7).trans (s8.trans s9)
            have q := (((hA3.take j).append (.cons hda0 .nil)).append (hA3.drop (j + 1))).same sm
            refine fin H9 t5 _ _ hT10 (up q) ?_ (hP3.same sm) (k03.same sm)
            obtain ⟨_, g0, _, hs0, _, f0, _⟩ := hfa.get hd0
            exact (((gA.append (.cons f0 (FitAll.nil (n := 0)))).append gC).le (by omega) (by omega))
        · -- one of its own, spoiled
          refine ⟨_, rfl, _, rfl, _, rfl, ?_⟩
          dsimp only [tNoPart]
          refine cut_any hT3 fun t1 H4 s4 hT4 => ?_
          rw [cut_take] at hT4
          have hjx : j < xs.length := by
            rw [hA.length]
            exact hj
          obtain ⟨v0, hv0⟩ : ∃ v0, xs[j]? = some v0 := ⟨xs[j], List.getElem?_eq_getElem hjx⟩
          obtain ⟨d0, hd0, hda0⟩ := hA3.get hv0
          obtain rfl : d0 = ds[j] := by
            rw [List.getElem?_eq_getElem hj] at hd0
            exact (Option.some.inj hd0).symm
          have hP4 := hP3.same s4
          refine ⟨_, rfl, _, rfl, _, rfl, t, xs, (j : Int), v0, rfl, rfl, sqT_same s4 hT3, atI_nat hv0, _, rfl, _, _, rfl, rfl, p, c, v0, ds[j], _, _, _, rfl, by omega, by omega, hP4, hda0.same s4, gB, by omega, fun v1 d1 H5 hd1 hf1 hP5 k5 => ?_⟩
          refine ⟨le_line (by show 1 ≤ 16000000; decide), fun t2 h2 => ?_⟩
          have s6 : Same H5 (upd H5 t2 (.tup [v1])) := same_new h2
          have hT5 := sqT_same s6 (sqT_kp k5 hP4.noTup hT4)
          refine .inr (.inr (.inl (cat_any hT5 (SqT.of upd_same) (le_line ?_) fun t3 H7 s7 hT7 => ?_)))
          · rw [List.length_take]
            show min j xs.length + 1 ≤ 16000000
            omega
          have hT8 := sqT_same s7 (sqT_same s6 (sqT_kp k5 hP4.noTup (sqT_same s4 hT3)))
          refine ⟨_, rfl, _, rfl, .inl ⟨_, _, rfl, rfl, _, rfl, ?_⟩⟩
          dsimp only [tNoPart]
          refine cut_any hT8 fun t4 H8 s8 hT9 => ?_
          rw [hj1, cut_drop] at hT9
          refine .inr (.inr (.inl (cat_any (sqT_same s8 hT7) hT9 (le_line ?_) fun t5 H9 s9 hT10 => ?_)))
          · rw [List.length_append, List.length_take, List.length_drop]
            show min j xs.length + 1 + (xs.length - (j + 1)) ≤ 16000000
            omega
          · have sm : Same H5 H9 := (s6.trans s7).trans (s8.trans s9)
            have q1 : DaAll K All H9 (xs.take j) (ds.take j) := (((hA3.take j).same s4).kp k5 hP4.noTup trivial).same sm
            have q2 : DaAll K All H9 (xs.drop (j + 1)) (ds.drop (j + 1)) := (((hA3.drop (j + 1)).same s4).kp k5 hP4.noTup trivial).same sm
            have q3 : Da K (Tk H) H9 v1 d1 := (hd1.same sm).less (Tk.kp (k03.same s4) hP4.tk)
            refine fin H9 t5 _ _ hT10 (((up q1).append (.cons q3 .nil)).append (up q2)) ?_ (hP5.same sm) (((k03.same s4).trans k5).same sm)
            have w1 : FitAll fa (b' + 8) (ds.take j) := gA.le (Nat.le_refl _) (by omega)
            have w2 : FitAll fc (b' + 8) (ds.drop (j + 1)) := gC.le (Nat.le_refl _) (by omega)
            have w3 : FitAll (2 * fb + 1802) (b' + 8) [d1] := (FitAll.cons hf1 (FitAll.nil (n := 0))).le (by omega) (Nat.le_refl _)
            exact ((w1.append w3).append w2).le (by omega) (Nat.le_refl _)
  intro n
  induction n with
  | zero => exact body 0 _ ((D.none sc_law_spoiled).mono (by decide)) (fun m e => by omega)
  | succ n ih => exact body (n + 1) _ ih (fun m e => by
      obtain rfl : n = m := by omega
      rfl)
end

section
variable {P : Program} {w : World} {K : PySem.W.Frag} {mg : Str → Option Value} {base : Heap}
theorem ok_few (D : DefAt K mg "_law_few" s_law_few ["_law_pen_here"]) (T : Bl mg) (C_law_draw : CallOk P w K mg base 2 "_law_draw" ["_law_pen_here", "_law_below"] spDraw)
    (C_law_name : CallOk P w K mg base 3 "_law_name" ["_law_pen_here", "_law_gone"] spName) : CallOk P w K mg base 4 "_law_few" ["_law_pen_here"] spFew := by
  refine D.ok sc_law_few (fun vs H Q E h => ?_) (fun f cdv A outer s H vs Q E hr h => ?_)
  · obtain ⟨p, c, rfl, _⟩ := h
    rfl
  · obtain ⟨p, c, rfl, hP, k⟩ := h
    refine ⟨_, (pss_one (ps_ret (pe_ix ix_list (pe_lst (pa_cons pe_str (pa_cons pe_str (pa_cons pe_str (pa_cons (pe_callOk C_law_name hr (by omega) (by rfl) (pa_cons (pv 0) (pa_cons (pe_lst pa_nil) pa_nil))) pa_nil))))) (pe_callOk C_law_draw hr (by omega) (by rfl) (pa_cons (pv 0) (pa_cons pe_int pa_nil))) (fun _ _ => rfl)))), ?_⟩
    refine ⟨_, rfl, Nat.zero_le _, fun q hq => ⟨p, c, q, [], rfl, hP.new hq, upd_same, hP.neP hq, by decide, fun y H1 hy hP1 k1 => ?_⟩⟩
    refine ⟨le_line (by show 4 ≤ 16000000; decide), fun l hl => ⟨_, rfl, p, c, 4, rfl, hP1.new hl, by decide, by decide, fun n H2 n0 n1 hP2 k2 => ?_⟩⟩
    obtain ⟨x, hx, nx⟩ := few_at hy n0 n1
    exact ⟨l, _, n, .str x, rfl, rfl, SqL.of (k2 _ _ upd_same (hP1.neP hl)), hx, k x H2 nx hP2 ((((Kp.new hq).trans k1).lay hl).trans k2)⟩
theorem ok_law_row (D : DefAt K mg "_law_row" s_law_row ["_law_pen_here", "_law_often"]) (T : Bl mg) (C_law_few : CallOk P w K mg base 4 "_law_few" ["_law_pen_here"] spFew)
    (C_law_name : CallOk P w K mg base 3 "_law_name" ["_law_pen_here", "_law_gone"] spName) : CallOk P w K mg base 5 "_law_row" ["_law_pen_here", "_law_often"] (spRow K) := by
  refine D.ok sc_law_row (fun vs H Q E h => ?_) (fun f cdv A outer s H vs Q E hr h => ?_)
  · obtain ⟨p, c, z, rfl, _⟩ := h
    rfl
  · obtain ⟨p, c, z, rfl, hz0, hz4, hP, k⟩ := h
    refine ⟨_, (pss_cons (ps_set (i := 2) sc_law_row.nd rfl (Or.inl rfl) (pe_lst pa_nil))
        (pss_cons (ps_for PassesOwn.never rfl (pi_range1 (by rfl) T.range_ (pa_cons (pv 1) pa_nil)) (pg_name (i := 3) sc_law_row.nd rfl (Or.inl rfl) (by first | exact .inl rfl | exact .inr rfl)) (pss_cons (ps_set (i := 4) sc_law_row.nd rfl (Or.inl rfl) (pe_callOk C_law_few hr (by omega) (by rfl) (pa_cons (pv 0) pa_nil)))
        (pss_one (ps_expr (pe_bm PySem.F.plainAttrs_list PySem.F.slot_list_append PySem.F.type_list_append mt_append (pv 2) (pa_cons (pe_ifExp (pt_cmpR op_notIn_seq (pv 4) (pv 2) (by rfl)) (pv 4) (pe_callOk C_law_name hr (by omega) (by rfl) (pa_cons (pv 0) (pa_cons (pv 2) pa_nil)))) pa_nil))))))
        (pss_one (ps_ret (pe_callTy call_tuple_of (by rfl) T.tuple_ (by decide +kernel) (pa_cons (pv 2) pa_nil)))))), ?_⟩
    refine ⟨Nat.zero_le _, fun L hL => ?_⟩
    have nLp : L ≠ p := hP.neP hL
    have nLc : L ≠ c := hP.neC hL
    refine ⟨_, rfl, z, rfl, by omega, by omega, for_range (lo := 0) (n := z.toNat) (fun i σ H' => ∃ xs v3 v4, σ = [some (.ref p), some (.int z), some (.ref L), v3, v4] ∧ H' L = some (.lst (xs.map V.str)) ∧ xs.length = i ∧ (∀ x ∈ xs, Nm x) ∧ Pen H' p c ∧ Kp p H H')
      ⟨[], none, none, rfl, upd_same, rfl, fun _ z => (nomatch z), hP.new hL, Kp.new hL⟩ ?_ ?_⟩
    · rintro i σ H1 hi ⟨xs, v3, v4, rfl, g1, g2, g3, hP1, k1⟩
      refine ⟨_, rfl, p, c, rfl, hP1, fun x H2 hx hP2 k2 => ?_⟩
      have e2 : H2 L = some (.lst (xs.map V.str)) := k2 _ _ g1 nLp
      have last : ∀ (y : Str) (H3 : Hp), Nm y → H3 L = some (.lst (xs.map V.str)) → Pen H3 p c → Kp p H H3 →
          ∃ ys : List Str, (upd H3 L (.lst (xs.map V.str ++ [V.str y]))) L = some (.lst (ys.map V.str)) ∧ ys.length = i + 1 ∧ (∀ x ∈ ys, Nm x) ∧ Pen (upd H3 L (.lst (xs.map V.str ++ [V.str y]))) p c ∧ Kp p H (upd H3 L (.lst (xs.map V.str ++ [V.str y]))) := by
        intro y H3 hy e3 hP3 k3
        refine ⟨xs ++ [y], ?_, ?_, ?_, hP3.keep nLp nLc, k3.mut hL⟩
        · rw [upd_same, List.map_append]
          rfl
        · rw [List.length_append, g2]
          rfl
        · intro x hx
          rcases List.mem_append.mp hx with hx | hx
          · exact g3 x hx
          · rw [List.mem_singleton.mp hx]
            exact hy
      have short : (xs.map V.str).length < sizeLine := by
        rw [List.length_map, g2]
        exact lt_line (by omega)
      have flat : (xs.map V.str).all flatV = true := by simp [flatV]
      refine ⟨_, rfl, .inl ⟨rfl, _, SqL.of e2⟩, _, rfl, _, rfl, L, _, rfl, .inl (SqL.of e2), rfl, flat, _, rfl, ?_⟩
      refine ite2 (fun _ => ?_) (fun _ => ?_)
      · refine ⟨_, rfl, L, _, _, rfl, rfl, e2, short, ?_⟩
        obtain ⟨ys, r1, r2, r3, r4, r5⟩ := last x H2 hx e2 hP2 (k1.trans k2)
        exact ⟨ys, _, _, rfl, r1, r2, r3, r4, r5⟩
      · refine ⟨_, rfl, _, rfl, p, c, L, xs, rfl, hP2, e2, nLp, by omega, fun y H3 hy hP3 k3 => ?_⟩
        have e3 : H3 L = some (.lst (xs.map V.str)) := k3 _ _ e2 nLp
        refine ⟨L, _, _, rfl, rfl, e3, short, ?_⟩
        obtain ⟨ys, r1, r2, r3, r4, r5⟩ := last y H3 hy e3 hP3 ((k1.trans k2).trans k3)
        exact ⟨ys, _, _, rfl, r1, r2, r3, r4, r5⟩
    · rintro σ H1 ⟨xs, v3, v4, rfl, g1, g2, g3, hP1, k1⟩
      refine ⟨_, rfl, L, xs.map V.str, rfl, .inl ⟨SqL.of g1, fun t ht => ?_⟩⟩
      exact k t xs _ (SqT.of upd_same) (by omega) g3 (hP1.new ht) (k1.lay ht)
end

section
variable {P : Program} {w : World} {K : PySem.W.Frag} {mg : Str → Option Value} {base : Heap}
theorem ok_rough (D : DefAt K mg "_law_rough" s_law_rough ["_law_pen_here", "_law_deep"]) (T : Bl mg) (C_law_draw : CallOk P w K mg base 2 "_law_draw" ["_law_pen_here", "_law_below"] spDraw)
    (C_law_few : CallOk P w K mg base 4 "_law_few" ["_law_pen_here"] spFew) (C_law_row : CallOk P w K mg base 5 "_law_row" ["_law_pen_here", "_law_often"] (spRow K))
    (C_law_rough_kind : CallOk P w K mg base 6 "_law_rough_kind" ["_law_pen_here", "_law_deep"] (spRough K 2)) : ∀ n : Nat, CallOk P w K mg base (n + 7) "_law_rough" ["_law_pen_here", "_law_deep"] (spRoughT K n) := by
  have body : ∀ (n : Nat) (sp' : Sp), CallOk P w K mg base (n + 6) "_law_rough" ["_law_pen_here", "_law_deep"] sp' → (∀ m, n = m + 1 → sp' = spRoughT K m) → CallOk P w K mg base (n + 7) "_law_rough" ["_law_pen_here", "_law_deep"] (spRoughT K n) := by
    intro n sp' C_law_rough hsp
    refine D.ok sc_law_rough (fun vs H Q E h => ?_) (fun f cdv A outer s H vs Q E hr h => ?_)
    · obtain ⟨p, c, z, rfl, _⟩ := h
      rfl
    · obtain ⟨p, c, z, rfl, hz, hn6, hP, k⟩ := h
      refine ⟨_, (Evl.pss_cut (ps_set (i := 2) sc_law_rough.nd rfl (Or.inl rfl) (pe_ifExp (pt_cmpR op_gt (pv 1) pe_int (nomark _)) (pe_callOk C_law_draw hr (by omega) (by rfl) (pa_cons (pv 0) (pa_cons pe_int pa_nil))) (pe_callOk C_law_draw hr (by omega) (by rfl) (pa_cons (pv 0) (pa_cons pe_int pa_nil)))))
        (pss_cons (ps_if (pt_cmpR op_eq (pv 2) pe_int (nomark _)) (pss_one (ps_ret (pe_callOk C_law_few hr (by omega) (by rfl) (pa_cons (pv 0) pa_nil)))) pss_nil)
        (pss_cons (ps_if (pt_cmpR op_eq (pv 2) pe_int (nomark _)) (pss_one (ps_ret (pe_tup (pa_cons pe_str (pa_cons (pe_callOk C_law_few hr (by omega) (by rfl) (pa_cons (pv 0) pa_nil)) pa_nil))))) pss_nil)
        (pss_cons (ps_if (pt_cmpR op_eq (pv 2) pe_int (nomark _)) (pss_one (ps_ret (pe_tup (pa_cons pe_str (pa_cons (pe_callOk C_law_few hr (by omega) (by rfl) (pa_cons (pv 0) pa_nil)) (pa_cons (pe_callOk C_law_rough_kind hr (by omega) (by rfl) (pa_cons (pv 0) (pa_cons pe_int pa_nil))) (pa_cons (pe_callOk C_law_rough hr (by omega) (by rfl) (pa_cons (pv 0) (pa_cons (pe_op op_sub (pv 1) pe_int) pa_nil))) pa_nil))))))) pss_nil)
        (pss_cons (ps_if (pt_cmpR op_lt (pv 2) pe_int (nomark _)) (pss_one (ps_ret (pe_tup (pa_cons (pe_ix ix_list (pe_lst (pa_cons pe_str (pa_cons pe_str (pa_cons pe_str pa_nil)))) (pe_op op_sub (pv 2) pe_int) (fun _ _ => rfl)) (pa_cons (pe_callOk C_law_rough hr (by omega) (by rfl) (pa_cons (pv 0) (pa_cons (pe_op op_sub (pv 1) pe_int) pa_nil))) (pa_cons (pe_callOk C_law_rough hr (by omega) (by rfl) (pa_cons (pv 0) (pa_cons (pe_op op_sub (pv 1) pe_int) pa_nil))) pa_nil)))))) pss_nil)
        (pss_cons (ps_if (pt_cmpR op_lt (pv 2) pe_int (nomark _)) (pss_cons (ps_set (i := 3) sc_law_rough.nd rfl (Or.inl rfl) (pe_callOk C_law_rough hr (by omega) (by rfl) (pa_cons (pv 0) (pa_cons (pe_op op_sub (pv 1) pe_int) pa_nil))))
        (pss_one (ps_ret (pe_op opAdd (pe_op opAdd (pe_tup (pa_cons (pe_ix ix_list (pe_lst (pa_cons pe_str (pa_cons pe_str pa_nil))) (pe_op op_sub (pv 2) pe_int) (fun _ _ => rfl)) (pa_cons (pv 3) pa_nil))) (pe_callOk C_law_row hr (by omega) (by rfl) (pa_cons (pv 0) (pa_cons pe_int pa_nil)))) (pe_tup (pa_cons (pe_callOk C_law_rough hr (by omega) (by rfl) (pa_cons (pv 0) (pa_cons (pe_op op_sub (pv 1) pe_int) pa_nil))) pa_nil)))))) pss_nil)
        (pss_cons (ps_if (pt_cmpR op_eq (pv 2) pe_int (nomark _)) (pss_cons (ps_set (i := 4) sc_law_rough.nd rfl (Or.inl rfl) (pe_callOk C_law_draw hr (by omega) (by rfl) (pa_cons (pv 0) (pa_cons pe_int pa_nil))))
        (pss_one (ps_ret (pe_tup (pa_cons pe_str (pa_cons (pe_callOk C_law_few hr (by omega) (by rfl) (pa_cons (pv 0) pa_nil)) (pa_cons (pe_callTy call_tuple_of (by rfl) T.tuple_ (by decide +kernel) (pa_cons (pe_lc (own := [("_law_turn", 5)]) (g := gName 5) (tt := tYes) rfl sc_law_rough.nd (pi_range1 (by rfl) T.range_ (pa_cons (pv 4) pa_nil)) (blkOk_by (N := sl_law_rough) (sc := defScope s_law_rough) (by decide +kernel)) (fun _ _ _ _ _ => pg_name (i := 5) sc_law_rough.nd rfl (Or.inl rfl)) (fun _ _ _ _ _ => pts_nil) (fun _ _ _ _ _ => (pe_callOk C_law_rough hr (by omega) (by rfl) (pa_cons (pv 0) (pa_cons (pe_op op_sub (pv 1) pe_int) pa_nil))))) pa_nil)) pa_nil))))))) pss_nil)
        (pss_cons (ps_set (i := 3) sc_law_rough.nd rfl (Or.inl rfl) (pe_callOk C_law_rough hr (by omega) (by rfl) (pa_cons (pv 0) (pa_cons (pe_op op_sub (pv 1) pe_int) pa_nil))))
        (pss_cons (ps_set (i := 6) sc_law_rough.nd rfl (Or.inl rfl) (pe_lst pa_nil))
        (pss_cons (ps_for PassesOwn.never rfl (pi_range1 (by rfl) T.range_ (pa_cons (pe_op opAdd pe_int (pe_callOk C_law_draw hr (by omega) (by rfl) (pa_cons (pv 0) (pa_cons pe_int pa_nil)))) pa_nil)) (pg_name (i := 5) sc_law_rough.nd rfl (Or.inl rfl) (by first | exact .inl rfl | exact .inr rfl)) (pss_cons (ps_set (i := 7) sc_law_rough.nd rfl (Or.inl rfl) (pe_callOk C_law_row hr (by omega) (by rfl) (pa_cons (pv 0) (pa_cons (pe_callOk C_law_draw hr (by omega) (by rfl) (pa_cons (pv 0) (pa_cons pe_int pa_nil))) pa_nil))))
        (pss_one (ps_expr (pe_bm PySem.F.plainAttrs_list PySem.F.slot_list_append PySem.F.type_list_append mt_append (pv 6) (pa_cons (pe_tup (pa_cons (pe_callOk C_law_few hr (by omega) (by rfl) (pa_cons (pv 0) pa_nil)) (pa_cons (pv 7) (pa_cons (pe_callOk C_law_rough hr (by omega) (by rfl) (pa_cons (pv 0) (pa_cons (pe_op op_sub (pv 1) pe_int) pa_nil))) pa_nil)))) pa_nil))))))
        (pss_one (ps_ret (pe_tup (pa_cons pe_str (pa_cons (pv 3) (pa_cons (pe_callTy call_tuple_of (by rfl) T.tuple_ (by decide +kernel) (pa_cons (pv 6) pa_nil)) pa_nil)))))))))))))))), ?_⟩
      refine ⟨fun σ H1 => ∃ road : Int, σ = [some (.ref p), some (.int z), some (.int road), none, none, none, none, none] ∧ 0 ≤ road ∧ (road < 2 ∨ (0 < z ∧ road < 11)) ∧ Pen H1 p c ∧ Kp p H H1, ?_, ?_⟩
      · refine ⟨_, rfl, _, _, rfl, rfl, _, rfl, ?_⟩
        by_cases hz0 : 0 < z
        · rw [decide_eq_true hz0]
          exact iteT ⟨_, rfl, p, c, 11, rfl, hP, by decide, by decide, fun m H1 m0 m1 hP1 k1 => ⟨m, rfl, m0, .inr ⟨hz0, m1⟩, hP1, k1⟩⟩
        · rw [decide_eq_false hz0]
          exact iteF ⟨_, rfl, p, c, 2, rfl, hP, by decide, by decide, fun m H1 m0 m1 hP1 k1 => ⟨m, rfl, m0, .inl m1, hP1, k1⟩⟩
      rintro σ H1 ⟨road, rfl, r0, r11, hP1, k1⟩
      have bge := bT_ge n
      refine ⟨_, rfl, rfl, _, rfl, ?_⟩
      refine ite2 (fun _ => ?_) (fun e0 => ?_)
      · exact ⟨_, rfl, p, c, rfl, hP1, fun x H2 hx hP2 k2 => k (.str x) (.str x) H2 (.str x) ((fit_nm hx).le (by omega) (by omega)) (.name n x) hP2 (k1.trans k2)⟩
      refine ⟨_, rfl, rfl, _, rfl, ?_⟩
      refine ite2 (fun _ => ?_) (fun e1 => ?_)
      · refine ⟨_, rfl, p, c, rfl, hP1, fun x H2 hx hP2 k2 => ⟨le_line (by show 2 ≤ 16000000; decide), fun t ht => ?_⟩⟩
        refine k _ (.tuple [.str (Str.ofString "@"), .str x]) _ (.tup (SqT.of upd_same) (.cons (.str _) (.cons (.str x) .nil))) ?_ (.at n x) (hP2.new ht) ((k1.trans k2).lay ht)
        exact (Fit.tup (.cons (fit_sign (by decide +kernel)) (.cons (fit_nm hx) (FitAll.nil (n := 0))))).le (by omega) (by omega)
      have h0 : ¬ road = 0 := fun e => e0 (by rw [e]; rfl)
      have h1 : ¬ road = 1 := fun e => e1 (by rw [e]; rfl)
      obtain ⟨hz0, hr11⟩ : 0 < z ∧ road < 11 := r11.resolve_left (by omega)
      obtain ⟨n', rfl⟩ : ∃ n', n = n' + 1 := ⟨n - 1, by omega⟩
      obtain rfl := hsp n' rfl
      have hb : bT (n' + 1) = 4 * bT n' + 1700 := rfl
      have up : ∀ {Ha Hb : Hp} {v : V} {d : PyData}, Da K All Ha v d → Kp p Ha Hb → Pen Ha p c → Da K All Hb v d := fun g kk hp => g.kp kk hp.noTup trivial
      refine ⟨_, rfl, rfl, _, rfl, ?_⟩
      refine ite2 (fun _ => ?_) (fun e2 => ?_)
      · -- a function
        refine ⟨_, rfl, p, c, rfl, hP1, fun x H2 hx hP2 k2 => ?_⟩
        refine ⟨_, rfl, p, c, 2, rfl, rfl, by decide, hP2, fun vk dk H3 hk fk hP3 k3 => ?_⟩
        refine ⟨_, rfl, _, rfl, _, _, rfl, rfl, p, c, _, rfl, by omega, by omega, hP3, fun vt dt H4 ht ft tt hP4 k4 => ?_⟩
        refine ⟨le_line (by show 4 ≤ 16000000; decide), fun t hn => ?_⟩
        have sm := same_new (H := H4) (o := .tup [V.str (Str.ofString "^"), .str x, vk, vt]) hn
        refine k _ (.tuple [.str (Str.ofString "^"), .str x, dk, dt]) _ (.tup (SqT.of upd_same) (.cons (.str _) (.cons (.str x) (.cons ((up hk k4 hP3).same sm) (.cons (ht.same sm) .nil))))) ?_ (.lam x dk tt) (hP4.new hn) ((((k1.trans k2).trans k3).trans k4).lay hn)
        have fk' : Fit 408 2 dk := fk
        exact (Fit.tup (.cons ((fit_sign (by decide +kernel)).le (Nat.le_refl _) (Nat.zero_le _)) (.cons ((fit_nm hx).le (Nat.le_refl _) (Nat.zero_le _)) (.cons (fk'.le (Nat.le_refl _) (by omega)) (.cons ft (FitAll.nil (n := 0))))))).le (by omega) (by omega)
      refine ⟨_, rfl, _, _, rfl, rfl, _, rfl, ?_⟩
      have h2 : ¬ road = 2 := fun e => e2 (by rw [e]; rfl)
      by_cases h6 : road < 6
      · -- two terms
        rw [decide_eq_true h6]
        refine iteT ?_
        refine ⟨le_line (by show 3 ≤ 16000000; decide), fun q hq => ?_⟩
        obtain ⟨sg, hsg, fsg, msg⟩ := tri_at (n := road - 3) (by omega) (by omega)
        refine ⟨_, rfl, _, _, rfl, rfl, q, _, road - 3, .str sg, rfl, rfl, SqL.of upd_same, hsg, ?_⟩
        refine ⟨_, rfl, _, rfl, _, _, rfl, rfl, p, c, _, rfl, by omega, by omega, hP1.new hq, fun va da H2 ha fa ta hP2 k2 => ?_⟩
        refine ⟨_, rfl, _, rfl, _, _, rfl, rfl, p, c, _, rfl, by omega, by omega, hP2, fun vb db H3 hb2 fb tb hP3 k3 => ?_⟩
        refine ⟨le_line (by show 3 ≤ 16000000; decide), fun t hn => ?_⟩
        have sm := same_new (H := H3) (o := .tup [V.str sg, va, vb]) hn
        refine k _ (.tuple [.str sg, da, db]) _ (.tup (SqT.of upd_same) (.cons (.str sg) (.cons ((up ha k3 hP2).same sm) (.cons (hb2.same sm) .nil)))) ?_ (.two sg msg ta tb) (hP3.new hn) ((((k1.lay hq).trans k2).trans k3).lay hn)
        exact (Fit.tup (.cons (fsg.le (Nat.le_refl _) (Nat.zero_le _)) (.cons fa (.cons fb (FitAll.nil (n := 0)))))).le (by omega) (by omega)
      rw [decide_eq_false h6]
      refine iteF ?_
      refine ⟨_, rfl, _, _, rfl, rfl, _, rfl, ?_⟩
      by_cases h8 : road < 8
      · -- a parting, a copy
        rw [decide_eq_true h8]
        refine iteT ?_
        refine ⟨_, rfl, _, rfl, _, _, rfl, rfl, p, c, _, rfl, by omega, by omega, hP1, fun va da H2 ha fa ta hP2 k2 => ?_⟩
        refine ⟨le_line (by show 2 ≤ 16000000; decide), fun q hq => ?_⟩
        obtain ⟨sg, hsg, fsg, msg⟩ := duo_at (n := road - 6) (by omega) (by omega)
        refine ⟨_, rfl, _, _, rfl, rfl, q, _, road - 6, .str sg, rfl, rfl, SqL.of upd_same, hsg, ?_⟩
        refine ⟨_, rfl, le_line (by show 2 ≤ 16000000; decide), fun t1 hn1 => ?_⟩
        have hP3 := (hP2.new (o := .lst duo) hq).new (o := .tup [V.str sg, va]) hn1
        refine ⟨_, rfl, p, c, 2, rfl, by decide, by decide, hP3, fun t2 xs H4 g1 g2 g3 hP4 k4 => ?_⟩
        have hT1 : SqT K H4 t1 [V.str sg, va] := sqT_kp k4 hP3.noTup (SqT.of upd_same)
        match xs, g2 with
        | [x, y], _ =>
          refine .inr (.inr (.inl (cat_any hT1 g1 (le_line (by show 2 + 2 ≤ 16000000; decide)) fun t3 H5 s5 hT5 => ?_)))
          refine ⟨_, rfl, _, rfl, _, _, rfl, rfl, p, c, _, rfl, by omega, by omega, hP4.same s5, fun vb db H6 hb2 fb tb hP6 k6 => ?_⟩
          refine ⟨le_line (by show 1 ≤ 16000000; decide), fun t4 hn4 => ?_⟩
          have s7 := same_new (H := H6) (o := .tup [vb]) hn4
          refine .inr (.inr (.inl (cat_any (sqT_same s7 (sqT_kp k6 (hP4.same s5).noTup hT5)) (SqT.of upd_same) (le_line (by show 4 + 1 ≤ 16000000; decide)) fun t5 H8 s8 hT8 => ?_)))
          have hP7 := hP2.new (o := .lst duo) hq
          have sm : Same H6 H8 := s7.trans s8
          have q1 : Da K All H8 va da := ((((up (((ha.same (same_new hq)).same (same_new hn1))) k4 hP3)).same s5).kp k6 (hP4.same s5).noTup trivial).same sm
          refine k _ (.tuple [.str sg, da, .str x, .str y, db]) H8 (.tup hT8 (.cons (.str sg) (.cons q1 (.cons (.str x) (.cons (.str y) (.cons (hb2.same sm) .nil)))))) ?_ (.five sg x y msg ta tb) (hP6.same sm) ((((((k1.trans k2).lay hq).lay hn1).trans k4).same s5).trans k6 |>.same sm)
          have fx := fit_nm (g3 x (by simp))
          have fy := fit_nm (g3 y (by simp))
          exact (Fit.tup (.cons (fsg.le (Nat.le_refl _) (Nat.zero_le _)) (.cons fa (.cons (fx.le (Nat.le_refl _) (Nat.zero_le _)) (.cons (fy.le (Nat.le_refl _) (Nat.zero_le _)) (.cons fb (FitAll.nil (n := 0)))))))).le (by omega) (by omega)
        | [], e => cases e
        | [_], e => cases e
        | _ :: _ :: _ :: _, e =>
          simp only [List.length_cons] at e
          omega
      rw [decide_eq_false h8]
      refine iteF ?_
      refine ⟨_, rfl, rfl, _, rfl, ?_⟩
      refine ite2 (fun _ => ?_) (fun e8 => ?_)
      · -- a maker
        refine ⟨_, rfl, p, c, 5, rfl, hP1, by decide, by decide, fun many H2 l0 l1 hP2 k2 => ?_⟩
        refine ⟨_, rfl, p, c, rfl, hP2, fun x H3 hx hP3 k3 => ?_⟩
        have k03 : Kp p H H3 := (k1.trans k2).trans k3
        refine ⟨_, rfl, many, rfl, by omega, by omega, fun L hL => ?_⟩
        have nLp : L ≠ p := hP3.neP hL
        have nLc : L ≠ c := hP3.neC hL
        have hL0 : H L = none := k03.none hL nLp
        refine lc_range (lo := 0) (n := many.toNat) (fun i H' => ∃ vs ds, H' L = some (.lst vs) ∧ DaAll K All H' vs ds ∧ ds.length = i ∧ (∀ e ∈ ds, Fit (bT n') (3 * n' + 2) e) ∧ (∀ e ∈ ds, Tm (n' + 1) e) ∧ Pen H' p c ∧ Kp p H H')
          ⟨[], [], upd_same, .nil, rfl, fun _ z => (nomatch z), fun _ z => (nomatch z), hP3.new hL, k03.lay hL⟩ ?_ ?_
        · rintro i H4 hi ⟨vs, ds, g1, g2, g3, g4, g5, g6, g7⟩
          refine ⟨rfl, ?_⟩
          simp only [tYes, if_true]
          refine ⟨_, rfl, _, rfl, _, _, rfl, rfl, p, c, _, rfl, by omega, by omega, g6, fun v d H5 hd hf ht hP5 k5 => ?_⟩
          have e1 : H5 L = some (.lst vs) := k5 _ _ g1 nLp
          have q4 : DaAll K All H5 vs ds := g2.kp k5 g6.noTup trivial
          refine ⟨vs, e1, ?_, vs ++ [v], ds ++ [d], upd_same, ?_, ?_, ?_, ?_, hP5.keep nLp nLc, (g7.trans k5).mut hL0⟩
          · rw [g2.length, g3]
            exact lt_line (by omega)
          · exact (q4.append (.cons hd .nil)).put e1 (fun _ => by simp) (fun _ _ => by simp) trivial
          · rw [List.length_append, g3]
            rfl
          · intro e he
            rcases List.mem_append.mp he with he | he
            · exact g4 e he
            · rw [List.mem_singleton.mp he]
              exact hf
          · intro e he
            rcases List.mem_append.mp he with he | he
            · exact g5 e he
            · rw [List.mem_singleton.mp he]
              exact ht
        · rintro H4 ⟨vs, ds, g1, g2, g3, g4, g5, g6, g7⟩
          have fa : FitAll (4 * (bT n' + 2)) (3 * n' + 2) ds := by
            have r := FitAll.rep (n := bT n') (m := 3 * n' + 2) (d := .none) ⟨by rw [PyData.showable], by rw [Ow.wt]; have := bT_ge n'; omega, by simp only [PyData.depth]; exact Nat.zero_le _⟩ ds.length rfl g4
            exact r.le (Nat.mul_le_mul_right _ (by omega)) (Nat.le_refl _)
          refine ⟨L, vs, rfl, .inl ⟨SqL.of g1, fun t1 hn1 => ?_⟩⟩
          have s1 := same_new (H := H4) (o := .tup vs) hn1
          refine ⟨le_line (by show 3 ≤ 16000000; decide), fun t2 hn2 => ?_⟩
          have s2 := same_new (o := .tup [V.str (Str.ofString "#"), .str x, .ref t1]) hn2
          have dt : Da K All _ (.ref t1) (.tuple ds) := .tup (SqT.of upd_same) (g2.same s1)
          refine k _ (.tuple [.str (Str.ofString "#"), .str x, .tuple ds]) _ (.tup (SqT.of upd_same) (.cons (.str _) (.cons (.str x) (.cons (dt.same s2) .nil)))) ?_ (.mk x ds g5) ((g6.new hn1).new hn2) ((g7.lay hn1).lay hn2)
          exact (Fit.tup (.cons ((fit_sign (by decide +kernel)).le (Nat.le_refl _) (Nat.zero_le _)) (.cons ((fit_nm hx).le (Nat.le_refl _) (Nat.zero_le _)) (.cons (Fit.tup fa) (FitAll.nil (n := 0)))))).le (by omega) (by omega)
      · -- a choice
        refine ⟨_, rfl, _, rfl, _, _, rfl, rfl, p, c, _, rfl, by omega, by omega, hP1, fun va da H2 ha fa ta hP2 k2 => ?_⟩
        have k02 : Kp p H H2 := k1.trans k2
        refine ⟨Nat.zero_le _, fun L hL => ?_⟩
        have nLp : L ≠ p := hP2.neP hL
        have nLc : L ≠ c := hP2.neC hL
        have hL0 : H L = none := k02.none hL nLp
        refine ⟨_, rfl, p, c, 3, rfl, hP2.new hL, by decide, by decide, fun many H3 l0 l1 hP3 k3 => .inl ⟨_, _, rfl, rfl, ?_⟩⟩
        have eL : H3 L = some (.lst []) := k3 _ _ upd_same nLp
        refine ⟨_, rfl, by omega, by omega, for_range (lo := 0) (n := (1 + many).toNat) (fun i σ H' => ∃ (vs : List V) (cs : List (Str × List Str × PyData)) (v5 v7 : Option V), σ = [some (.ref p), some (.int z), some (.int road), some va, none, v5, some (.ref L), v7] ∧ H' L = some (.lst vs) ∧
            DaAll K All H' vs (cs.map fun c => .tuple [.str c.1, .tuple (c.2.1.map strD), c.2.2]) ∧ cs.length = i ∧ FitAll (i * (bT n' + 476)) (3 * n' + 3) (cs.map fun c => .tuple [.str c.1, .tuple (c.2.1.map strD), c.2.2]) ∧ (∀ c ∈ cs, Tm (n' + 1) c.2.2) ∧ Pen H' p c ∧ Kp p H H' ∧ Da K All H' va da)
          ⟨[], [], none, none, rfl, eL, .nil, rfl, .nil, fun _ z => (nomatch z), hP3, (k02.lay hL).trans k3, (ha.same (same_new hL)).kp k3 (hP2.new hL).noTup trivial⟩ ?_ ?_⟩
        · rintro i σ H4 hi ⟨vs, cs, v5, v7, rfl, g1, g2, g3, g4, g5, g6, g7, g8⟩
          refine ⟨_, rfl, _, rfl, p, c, 5, rfl, g6, by decide, by decide, fun m H5 m0 m1 hP5 k5 => ⟨p, c, m, rfl, m0, by omega, hP5, fun t1 xs H6 r1 r2 r3 hP6 k6 => ?_⟩⟩
          refine ⟨_, rfl, .inl ⟨rfl, _, SqL.of (k6 _ _ (k5 _ _ g1 nLp) nLp)⟩, _, rfl, p, c, rfl, hP6, fun x H7 hx hP7 k7 => ?_⟩
          have hT7 : SqT K H7 t1 (xs.map V.str) := sqT_kp k7 hP6.noTup r1
          refine ⟨_, rfl, _, rfl, _, rfl, _, _, rfl, rfl, p, c, _, rfl, by omega, by omega, hP7, fun vu du H8 hu fu tu hP8 k8 => ?_⟩
          refine ⟨le_line (by show 3 ≤ 16000000; decide), fun t2 hn2 => ?_⟩
          have s9 := same_new (H := H8) (o := .tup [V.str x, .ref t1, vu]) hn2
          have kk : Kp p H4 H8 := ((k5.trans k6).trans k7).trans k8
          have e8 : H8 L = some (.lst vs) := kk _ _ g1 nLp
          have n2L : t2 ≠ L := fun e => by
            rw [e, e8] at hn2
            cases hn2
          have e9 : (upd H8 t2 (.tup [V.str x, .ref t1, vu])) L = some (.lst vs) := by
            rw [upd_ne (Ne.symm n2L)]
            exact e8
          have hT8 : SqT K H8 t1 (xs.map V.str) := sqT_kp k8 hP7.noTup hT7
          have dc : Da K All (upd H8 t2 (.tup [V.str x, .ref t1, vu])) (.ref t2) (.tuple [.str x, .tuple (xs.map strD), du]) := .tup (SqT.of upd_same) (.cons (.str x) (.cons (.tup (sqT_same s9 hT8) (da_names xs)) (.cons (hu.same s9) .nil)))
          have q9 : DaAll K All (upd H8 t2 (.tup [V.str x, .ref t1, vu])) (vs ++ [.ref t2]) ((cs ++ [(x, xs, du)]).map fun c => .tuple [.str c.1, .tuple (c.2.1.map strD), c.2.2]) := by
            rw [List.map_append]
            exact ((g2.kp kk g6.noTup trivial).same s9).append (.cons dc .nil)
          refine ⟨L, _, _, rfl, rfl, e9, ?_, vs ++ [.ref t2], cs ++ [(x, xs, du)], _, _, rfl, upd_same, q9.put e9 (fun _ => by simp) (fun _ _ => by simp) trivial, ?_, ?_, ?_, (hP8.new hn2).keep nLp nLc, ((g7.trans kk).lay hn2).mut hL0, (((g8.kp kk g6.noTup trivial).same s9)).put e9 (fun _ => by simp) (fun _ _ => by simp) trivial⟩
          · rw [g2.length, List.length_map, g3]
            exact lt_line (by omega)
          · rw [List.length_append, g3]
            rfl
          · rw [List.map_append]
            have fc : Fit (bT n' + 474) (3 * n' + 3) (.tuple [.str x, .tuple (xs.map strD), du]) := by
              have fn := Fit.tup (fit_names r3)
              have hx4 : xs.length ≤ 4 := by omega
              exact (Fit.tup (.cons ((fit_nm hx).le (Nat.le_refl _) (Nat.zero_le _)) (.cons (fn.le (show 92 * xs.length + 4 ≤ 372 by omega) (by omega)) (.cons fu (FitAll.nil (n := 0)))))).le (by omega) (by omega)
            refine (g4.append (.cons fc (FitAll.nil (n := 0)))).le ?_ (Nat.le_refl _)
            rw [Nat.succ_mul]
            omega
          · intro e he
            rcases List.mem_append.mp he with he | he
            · exact g5 e he
            · rw [List.mem_singleton.mp he]
              exact tu
        · rintro σ H4 ⟨vs, cs, v5, v7, rfl, g1, g2, g3, g4, g5, g6, g7, g8⟩
          refine ⟨_, rfl, _, rfl, L, vs, rfl, .inl ⟨SqL.of g1, fun t1 hn1 => ?_⟩⟩
          have s1 := same_new (H := H4) (o := .tup vs) hn1
          refine ⟨le_line (by show 3 ≤ 16000000; decide), fun t2 hn2 => ?_⟩
          have s2 := same_new (o := .tup [V.str (Str.ofString "?"), va, .ref t1]) hn2
          have dt : Da K All _ (.ref t1) (.tuple _) := .tup (SqT.of upd_same) (g2.same s1)
          refine k _ (.tuple [.str (Str.ofString "?"), da, .tuple _]) _ (.tup (SqT.of upd_same) (.cons (.str _) (.cons ((g8.same s1).same s2) (.cons (dt.same s2) .nil)))) ?_ (.ch cs ta g5) ((g6.new hn1).new hn2) ((g7.lay hn1).lay hn2)
          have hi3 : (1 + many).toNat ≤ 3 := by omega
          have w4 : FitAll (3 * (bT n' + 476)) (3 * n' + 3) _ := g4.le (Nat.mul_le_mul_right _ hi3) (Nat.le_refl _)
          exact (Fit.tup (.cons ((fit_sign (by decide +kernel)).le (Nat.le_refl _) (Nat.zero_le _)) (.cons (fa.le (Nat.le_refl _) (by omega)) (.cons (Fit.tup w4) (FitAll.nil (n := 0)))))).le (by omega) (by omega)
  intro n
  induction n with
  | zero => exact body 0 _ ((D.none sc_law_rough).mono (by decide)) (fun m e => by omega)
  | succ n ih => exact body (n + 1) _ ih (fun m e => by
      obtain rfl : n = m := by omega
      rfl)
end

section
variable {P : Program} {w : World} {K : PySem.W.Frag} {mg : Str → Option Value} {base : Heap}
theorem ok_unlike (D : DefAt K mg "are_unlike" s_are_unlike ["names"]) (T : Bl mg) : CallOk P w K mg base 1 "are_unlike" ["names"] (spUnlike K) := by
  refine D.ok sc_are_unlike (fun vs H Q E h => ?_) (fun f cdv A outer s H vs Q E hr h => ?_)
  · obtain ⟨t, xs, rfl, _⟩ := h
    rfl
  · obtain ⟨t, xs, rfl, hT, hl, k⟩ := h
    refine ⟨_, (pss_one (ps_ret (pe_cmpR op_eq (pe_lenSetT rfl (by rfl) T.len_ (by rfl) T.set_ (pv 0)) (pe_callB call_len_seq (by rfl) T.len_ (by decide +kernel) (pa_cons (pv 0) pa_nil)) (nomark _)))), ?_⟩
    refine ⟨_, rfl, t, xs, rfl, hT, hl, _, rfl, t, _, rfl, hT.symm, rfl, ?_⟩
    rw [List.length_map]
    have e : decide (V.int ((dd [] xs).length : Int) = V.int (xs.length : Int)) = unlikeN xs := decide_eq_decide.mpr ⟨fun z => by
      injection z with z
      exact Int.ofNat.inj z, fun z => by rw [z]⟩
    rw [e]
    exact k
end

section
variable {P : Program} {w : World} {K : PySem.W.Frag} {mg : Str → Option Value} {base : Heap}
theorem ok_case (D : DefAt K mg "is_case" s_is_case ["thing"]) (T : Bl mg) (G_MOST_FIELDS : GV mg "MOST_FIELDS" (.int 4)) (C_is_row : CallOk P w K mg base 1 "is_row" ["thing", "least", "most"] (spIsRow K)) (C_is_name : CallOk P w K mg base 1 "is_name" ["thing"] (spIsName K))
    (C_are_unlike : CallOk P w K mg base 1 "are_unlike" ["names"] (spUnlike K)) : CallOk P w K mg base 2 "is_case" ["thing"] (spOf K caseOk) := by
  refine D.ok sc_is_case (fun vs H Q E h => ?_) (fun f cdv A outer s H vs Q E hr h => ?_)
  · obtain ⟨N, v, d, n, m, rfl, _⟩ := h
    rfl
  · obtain ⟨N, v, d, n, m, rfl, hd, hf, hn, k⟩ := h
    refine ⟨_, (pss_cons (ps_if (pt_not (pt_val (pe_callOk C_is_row hr (by omega) (by rfl) (pa_cons (pv 0) (pa_cons pe_int (pa_cons pe_int pa_nil)))))) (pss_one (ps_ret pe_bl)) pss_nil)
        (pss_cons (ps_asg (pv 0) (pg_tup rfl (pgs_cons (pg_name (i := 1) sc_is_case.nd rfl (Or.inl rfl) (by first | exact .inl rfl | exact .inr rfl)) (pgs_cons (pg_name (i := 2) sc_is_case.nd rfl (Or.inl rfl) (by first | exact .inl rfl | exact .inr rfl)) (pgs_cons (pg_name (i := 3) sc_is_case.nd rfl (Or.inl rfl) (by first | exact .inl rfl | exact .inr rfl)) pgs_nil)))))
        (pss_cons (ps_if (PW.pt (pw_or (pt_not (pt_val (pe_callOk C_is_name hr (by omega) (by rfl) (pa_cons (pv 1) pa_nil)))) (pw_or1 (pt_not (pt_val (pe_callOk C_is_row hr (by omega) (by rfl) (pa_cons (pv 2) (pa_cons pe_int (pa_cons (pe_gv G_MOST_FIELDS rfl) pa_nil))))))))) (pss_one (ps_ret pe_bl)) pss_nil)
        (pss_one (ps_ret (pe_and (pe_callB (cr_all rfl) (by rfl) T.all_ (by decide +kernel) (pa_cons (pe_lc (own := [("name", 4)]) (g := gName 4) (tt := tYes) rfl sc_is_case.nd (pi_tup (pv 2)) (blkOk_by (N := sl_is_case) (sc := defScope s_is_case) (by decide +kernel)) (fun _ _ _ _ _ => pg_name (i := 4) sc_is_case.nd rfl (Or.inl rfl)) (fun _ _ _ _ _ => pts_nil) (fun _ _ _ _ _ => (pe_callOk C_is_name hr (by omega) (by rfl) (pa_cons (pv 4) pa_nil)))) pa_nil)) (pe_one (pe_callOk C_are_unlike hr (by omega) (by rfl) (pa_cons (pv 2) pa_nil))))))))), ?_⟩
    refine ⟨_, rfl, N, v, d, 3, 3, rfl, hd, ?_⟩
    cases hrow : isRowD d 3 3 with
    | false =>
      refine ⟨_, rfl, iteT ?_⟩
      rw [case_no hrow] at k
      exact k H (Same.refl H)
    | true =>
      refine ⟨_, rfl, iteF ?_⟩
      obtain ⟨a, b, c, rfl⟩ := row3 hrow
      obtain ⟨t, x, y, z, rfl, hT, ha, hb, hc⟩ := hd.tup3
      obtain ⟨fa, fb⟩ : Fit n m a ∧ Fit n m b := ⟨(fit3 hf).1, (fit3 hf).2.1⟩
      refine ⟨_, rfl, t, _, rfl, hT, rfl, x, _, rfl, y, _, rfl, z, _, rfl, rfl, ?_⟩
      refine ⟨_, rfl, N, x, a, n, m, rfl, ha, fa, hn, fun H1 s1 => ?_⟩
      rw [case_yes] at k
      cases hna : isNameD a with
      | false =>
        refine ⟨_, rfl, iteT (iteT ?_)⟩
        rw [hna] at k
        exact k H1 s1
      | true =>
        refine ⟨_, rfl, iteF ?_⟩
        rw [hna, Bool.true_and] at k
        refine ⟨_, rfl, N, y, b, 0, 4, rfl, hb.same s1, ?_⟩
        cases hrb : isRowD b 0 4 with
        | false =>
          refine ⟨_, rfl, iteT ?_⟩
          rw [hrb] at k
          exact k H1 s1
        | true =>
          refine ⟨_, rfl, iteF ?_⟩
          rw [hrb, Bool.true_and] at k
          obtain ⟨ns, rfl, _, h4⟩ := row_tup hrb
          obtain ⟨t2, us, rfl, hT2, hA⟩ := (hb.same s1).tupInv
          have hlu := hA.length
          have fns := fb.inner
          refine ⟨_, rfl, t2, rfl, ⟨_, hT2⟩, fun L hL => ?_⟩
          refine lc_tup (K := K) (xs := us) (fun i H' => H' L = some (.lst (((ns.take i).map isNameD).map V.bl)) ∧ Same H1 H') ⟨upd_same, same_new hL⟩ (fun i H' _ p => sqT_same p.2 hT2) ?_ ?_
          · rintro i u H2 hu ⟨e2, s2⟩
            obtain ⟨dx, hdx, hxd⟩ := hA.get hu
            have hi : i < us.length := (List.getElem?_eq_some_iff.mp hu).1
            refine ⟨rfl, ?_⟩
            simp only [tYes, if_true]
            refine ⟨_, rfl, N, u, dx, n, m, rfl, hxd.same s2, fns.mem (List.mem_of_getElem? hdx), hn, fun H3 s3 => ⟨_, s3 _ _ e2, ?_, ?_, Same.mut (s2.trans s3) hL⟩⟩
            · rw [List.length_map, List.length_map, List.length_take]
              exact lt_line (by omega)
            · rw [upd_same, List.take_add_one, hdx, List.map_append, List.map_append]
              rfl
          · rintro H2 ⟨e2, s2⟩
            rw [List.take_of_length_le (by omega)] at e2
            have eall : (ns.map isNameD).all id = ns.all isNameD := by
              rw [List.all_map]
              rfl
            refine ⟨L, ns.map isNameD, rfl, SqL.of e2, ?_⟩
            rw [eall]
            cases hal : ns.all isNameD with
            | false =>
              refine ⟨_, rfl, iteF ?_⟩
              rw [show (itD (.tuple ns)).all isNameD = false from hal] at k
              exact k H2 (s1.trans s2)
            | true =>
              refine ⟨_, rfl, iteT ?_⟩
              rw [show (itD (.tuple ns)).all isNameD = true from hal, Bool.true_and] at k
              obtain ⟨xs, rfl, _⟩ := names_of hal
              rw [List.length_map] at h4
              rw [show (itD (.tuple (xs.map strD))).map nmD = xs from nm_map xs] at k
              refine ⟨_, rfl, t2, xs, rfl, .inl ?_, by omega, k H2 (s1.trans s2)⟩
              rw [← da_strs hA]
              exact sqT_same s2 hT2
end

section
variable {P : Program} {w : World} {K : PySem.W.Frag} {mg : Str → Option Value} {base : Heap}
theorem ok_slot (D : DefAt K mg "fits_slot" s_fits_slot ["slot", "thing"]) (T : Bl mg) (G_MOST_FIELDS : GV mg "MOST_FIELDS" (.int 4)) (G_MOST_CASES : GV mg "MOST_CASES" (.int 6)) (C_is_row : CallOk P w K mg base 1 "is_row" ["thing", "least", "most"] (spIsRow K))
    (C_is_name : CallOk P w K mg base 1 "is_name" ["thing"] (spIsName K)) (C_is_kind : CallOk P w K mg base 8 "is_kind" ["thing"] (spKind K)) (C_is_case : CallOk P w K mg base 2 "is_case" ["thing"] (spOf K caseOk)) :
    CallOk P w K mg base 9 "fits_slot" ["slot", "thing"] (spSlot K) := by
  refine D.ok sc_fits_slot (fun vs H Q E h => ?_) (fun f cdv A outer s H vs Q E hr h => ?_)
  · obtain ⟨N, z, v, d, n, m, rfl, _⟩ := h
    rfl
  · obtain ⟨N, z, v, d, n, m, rfl, hd, hf, hn, k⟩ := h
    refine ⟨_, (pss_cons (ps_if (pt_cmpR op_eq (pv 0) pe_str (nomark _)) (pss_one (ps_ret (pe_callOk C_is_name hr (by omega) (by rfl) (pa_cons (pv 1) pa_nil)))) pss_nil)
        (pss_cons (ps_if (pt_cmpR op_eq (pv 0) pe_str (nomark _)) (pss_one (ps_ret (pe_callOk C_is_kind hr (by omega) (by rfl) (pa_cons (pv 1) pa_nil)))) pss_nil)
        (pss_cons (ps_if (pt_cmpR op_eq (pv 0) pe_str (nomark _)) (pss_one (ps_ret (pe_callOk C_is_row hr (by omega) (by rfl) (pa_cons (pv 1) (pa_cons pe_int (pa_cons (pe_gv G_MOST_FIELDS rfl) pa_nil)))))) pss_nil)
        (pss_cons (ps_if (pt_cmpR op_eq (pv 0) pe_str (nomark _)) (pss_one (ps_ret (pe_and (pe_callOk C_is_row hr (by omega) (by rfl) (pa_cons (pv 1) (pa_cons pe_int (pa_cons (pe_gv G_MOST_CASES rfl) pa_nil)))) (pe_one (pe_callB (cr_all rfl) (by rfl) T.all_ (by decide +kernel) (pa_cons (pe_lc (own := [("row", 2)]) (g := gName 2) (tt := tYes) rfl sc_fits_slot.nd (pi_tup (pv 1)) (blkOk_by (N := sl_fits_slot) (sc := defScope s_fits_slot) (by decide +kernel)) (fun _ _ _ _ _ => pg_name (i := 2) sc_fits_slot.nd rfl (Or.inl rfl)) (fun _ _ _ _ _ => pts_nil) (fun _ _ _ _ _ => (pe_callOk C_is_case hr (by omega) (by rfl) (pa_cons (pv 2) pa_nil)))) pa_nil)))))) pss_nil)
        (pss_one (ps_ret pe_bl)))))), ?_⟩
    unfold slotOk at k
    refine ⟨_, rfl, rfl, _, rfl, ?_⟩
    by_cases h1 : z = Str.ofString "name"
    · rw [if_pos h1] at k
      refine iteST h1 ?_
      exact ⟨_, rfl, N, v, d, n, m, rfl, hd, hf, hn, k⟩
    rw [if_neg h1] at k
    refine iteSF h1 ?_
    refine ⟨_, rfl, rfl, _, rfl, ?_⟩
    by_cases h2 : z = Str.ofString "kind"
    · rw [if_pos h2] at k
      refine iteST h2 ?_
      exact ⟨_, rfl, N, v, d, n, m, rfl, hd, hf, hn, k⟩
    rw [if_neg h2] at k
    refine iteSF h2 ?_
    refine ⟨_, rfl, rfl, _, rfl, ?_⟩
    by_cases h3 : z = Str.ofString "terms"
    · rw [if_pos h3] at k
      refine iteST h3 ?_
      exact ⟨_, rfl, N, v, d, 0, 4, rfl, hd, k H (Same.refl H)⟩
    rw [if_neg h3] at k
    refine iteSF h3 ?_
    refine ⟨_, rfl, rfl, _, rfl, ?_⟩
    by_cases h4 : z = Str.ofString "cases"
    · rw [if_pos h4] at k
      refine iteST h4 ?_
      refine ⟨_, rfl, N, v, d, 1, 6, rfl, hd, ?_⟩
      cases hrb : isRowD d 1 6 with
      | false =>
        refine ⟨_, rfl, iteF ?_⟩
        rw [hrb] at k
        exact k H (Same.refl H)
      | true =>
        refine ⟨_, rfl, iteT ?_⟩
        rw [hrb, Bool.true_and] at k
        obtain ⟨ns, rfl, _, h6⟩ := row_tup hrb
        obtain ⟨t2, us, rfl, hT2, hA⟩ := hd.tupInv
        have hlu := hA.length
        have fns := hf.inner
        refine ⟨_, rfl, t2, rfl, ⟨_, hT2⟩, fun L hL => ?_⟩
        refine lc_tup (K := K) (xs := us) (fun i H' => H' L = some (.lst (((ns.take i).map caseOk).map V.bl)) ∧ Same H H') ⟨upd_same, same_new hL⟩ (fun i H' _ p => sqT_same p.2 hT2) ?_ ?_
        · rintro i u H2 hu ⟨e2, s2⟩
          obtain ⟨dx, hdx, hxd⟩ := hA.get hu
          have hi : i < us.length := (List.getElem?_eq_some_iff.mp hu).1
          refine ⟨rfl, ?_⟩
          simp only [tYes, if_true]
          refine ⟨_, rfl, N, u, dx, n, m, rfl, hxd.same s2, fns.mem (List.mem_of_getElem? hdx), hn, fun H3 s3 => ⟨_, s3 _ _ e2, ?_, ?_, Same.mut (s2.trans s3) hL⟩⟩
          · rw [List.length_map, List.length_map, List.length_take]
            exact lt_line (by omega)
          · rw [upd_same, List.take_add_one, hdx, List.map_append, List.map_append]
            rfl
        · rintro H2 ⟨e2, s2⟩
          rw [List.take_of_length_le (by omega)] at e2
          refine ⟨L, ns.map caseOk, rfl, SqL.of e2, ?_⟩
          have eall : (ns.map caseOk).all id = (itD (.tuple ns)).all caseOk := by
            rw [List.all_map]
            rfl
          rw [eall]
          exact k H2 s2
    rw [if_neg h4] at k
    exact iteSF h4 (k H (Same.refl H))
end

section
variable {P : Program} {w : World} {K : PySem.W.Frag} {mg : Str → Option Value} {base : Heap}
theorem ok_formed {dF : Addr} (D : DefAt K mg "is_formed" s_is_formed ["thing"]) (T : Bl mg) (G_FORMS : GV mg "FORMS" (.ref dF)) (FT : Forms K w dF) (C_is_name : CallOk P w K mg base 1 "is_name" ["thing"] (spIsName K))
    (C_fits_slot : CallOk P w K mg base 9 "fits_slot" ["slot", "thing"] (spSlot K)) : CallOk P w K mg base 10 "is_formed" ["thing"] (spOf K formedD) := by
  refine D.ok sc_is_formed (fun vs H Q E h => ?_) (fun f cdv A outer s H vs Q E hr h => ?_)
  · obtain ⟨N, v, d, n, m, rfl, _⟩ := h
    rfl
  · obtain ⟨N, v, d, n, m, rfl, hd, hf, hn, k⟩ := h
    obtain ⟨es, en, D_FORMS⟩ := FT.dict
    refine ⟨_, (pss_cons (ps_if (pt_val (pe_callB call_isD (by rfl) T.isinstance_ (by decide +kernel) (pa_cons (pv 0) (pa_cons (pe_bltn (v := .ty "str") (by rfl) T.str_ (by decide +kernel) rfl) pa_nil)))) (pss_one (ps_ret (pe_callOk C_is_name hr (by omega) (by rfl) (pa_cons (pv 0) pa_nil)))) pss_nil)
        (pss_cons (ps_if (PW.pt (pw_or (pt_not (pt_val (pe_callB call_isD (by rfl) T.isinstance_ (by decide +kernel) (pa_cons (pv 0) (pa_cons (pe_bltn (v := .ty "tuple") (by rfl) T.tuple_ (by decide +kernel) rfl) pa_nil))))) (pw_or1 (pt_cmpR op_eq (pe_callB call_len_seq (by rfl) T.len_ (by decide +kernel) (pa_cons (pv 0) pa_nil)) pe_int (nomark _))))) (pss_one (ps_ret pe_bl)) pss_nil)
        (pss_cons (ps_if (PW.pt (pw_or (pt_not (pt_val (pe_callB call_isD (by rfl) T.isinstance_ (by decide +kernel) (pa_cons (pe_ix ix_tup (pv 0) pe_int (fun _ _ => rfl)) (pa_cons (pe_bltn (v := .ty "str") (by rfl) T.str_ (by decide +kernel) rfl) pa_nil))))) (pw_or1 (pt_cmpR (op_notIn_kd D_FORMS) (pe_ix ix_tup (pv 0) pe_int (fun _ _ => rfl)) (pe_gv G_FORMS rfl) (by rfl))))) (pss_one (ps_ret pe_bl)) pss_nil)
        (pss_cons (ps_set (i := 1) sc_is_formed.nd rfl (Or.inl rfl) (pe_ix ix_kdict (pe_gv G_FORMS rfl) (pe_ix ix_tup (pv 0) pe_int (fun _ _ => rfl)) (fun _ _ => rfl)))
        (pss_cons (ps_if (pt_cmpR op_ne (pe_callB call_len_seq (by rfl) T.len_ (by decide +kernel) (pa_cons (pv 0) pa_nil)) (pe_op opAdd pe_int (pe_callB call_len_seq (by rfl) T.len_ (by decide +kernel) (pa_cons (pv 1) pa_nil))) (nomark _)) (pss_one (ps_ret pe_bl)) pss_nil)
        (pss_cons (ps_if (pt_not (pt_val (pe_callB (cr_all rfl) (by rfl) T.all_ (by decide +kernel) (pa_cons (pe_lc (own := [("slot", 2), ("item", 3)]) (g := (gTup K 2 (gCons (gName 2) (gCons (gName 3) gNil)))) (tt := tYes) rfl sc_is_formed.nd (RZ.pi_zipA (by rfl) T.zip_ (pa_cons (pv 1) (pa_cons (pe_slice sl_tupA (pv 0) (po_some pe_int) po_none) pa_nil))) (blkOk_by (N := sl_is_formed) (sc := defScope s_is_formed) (by decide +kernel)) (fun _ _ _ _ _ => (pg_tup rfl (pgs_cons (pg_name (i := 2) sc_is_formed.nd rfl (Or.inl rfl) (by first | exact .inl rfl | exact .inr rfl)) (pgs_cons (pg_name (i := 3) sc_is_formed.nd rfl (Or.inl rfl) (by first | exact .inl rfl | exact .inr rfl)) pgs_nil)))) (fun _ _ _ _ _ => pts_nil) (fun _ _ _ _ _ => (pe_callOk C_fits_slot hr (by omega) (by rfl) (pa_cons (pv 2) (pa_cons (pv 3) pa_nil))))) pa_nil)))) (pss_one (ps_ret pe_bl)) pss_nil)
        (pss_one (ps_ret (pe_or (pe_cmpR op_notIn_seq (pe_ix ix_tup (pv 0) pe_int (fun _ _ => rfl)) (pe_tup (pa_cons pe_str (pa_cons pe_str pa_nil))) (by rfl)) (pe_one (pe_cmpR op_ne (pe_ix ix_tup (pv 0) pe_int (fun _ _ => rfl)) (pe_ix ix_tup (pv 0) pe_int (fun _ _ => rfl)) (nomark _)))))))))))), ?_⟩
    refine ⟨_, rfl, N, v, d, "str", rfl, hd, .inl rfl, _, rfl, ?_⟩
    by_cases hs : tyD d = "str"
    · obtain ⟨x, rfl⟩ := ty_str hs
      rw [decide_eq_true hs]
      exact iteT ⟨_, rfl, N, v, _, n, m, rfl, hd, hf, hn, k⟩
    rw [decide_eq_false hs]
    refine iteF ?_
    refine ⟨_, rfl, N, v, d, "tuple", rfl, hd, .inr (.inl rfl), _, rfl, ?_⟩
    by_cases htu : tyD d = "tuple"
    · obtain ⟨ds, rfl⟩ := ty_tup htu
      obtain ⟨t, xs, rfl, hT, hA⟩ := hd.tupInv
      refine iteF ?_
      refine ⟨_, rfl, t, xs, rfl, .inr hT, rfl, _, rfl, ?_⟩
      cases ds with
      | nil =>
        obtain rfl := hA.un0
        exact iteT (k H (Same.refl H))
      | cons d0 r =>
        obtain ⟨x0, ys, rfl, h0, hB⟩ := hA.unc
        have hlr := hB.length
        rw [show decide (V.int (((x0 :: ys).length : Nat) : Int) = V.int 0) = false from decide_eq_false (fun e => by
          injection e with e
          rw [List.length_cons] at e
          omega)]
        refine iteF ?_
        refine ⟨_, rfl, t, _, 0, _, rfl, rfl, hT, at_zero, N, x0, d0, "str", rfl, h0, .inl rfl, _, rfl, ?_⟩
        by_cases hs0 : tyD d0 = "str"
        · obtain ⟨z, rfl⟩ := ty_str hs0
          obtain rfl := h0.strInv
          refine iteF ?_
          refine ⟨_, rfl, t, _, 0, _, rfl, rfl, hT, at_zero, ?_⟩
          cases hfo : formOf z with
          | none =>
            refine ⟨z, none, rfl, rfl, FT.no z hfo, _, rfl, iteT ?_⟩
            rw [formed_none hfo] at k
            exact k H (Same.refl H)
          | some sl =>
            obtain ⟨a, hns, hS⟩ := FT.yes z sl hfo
            have h4 := form_len hfo
            refine ⟨z, _, rfl, rfl, hns, _, rfl, iteF ?_⟩
            refine ⟨_, rfl, t, _, 0, _, rfl, rfl, hT, at_zero, dF, z, .ref a, rfl, rfl, ⟨es, en, .ref a, D_FORMS.at_, D_FORMS.lit, hns, rfl⟩, ?_⟩
            refine ⟨_, rfl, t, _, rfl, .inr hT, _, rfl, a, _, rfl, .inr (hS H), .inl ⟨1, _, rfl, rfl, rfl, _, rfl, ?_⟩⟩
            rw [formed_some hfo] at k
            by_cases hl : r.length = sl.length
            · refine iteNS (by
                show V.int ((ys.length + 1 : Nat) : Int) = V.int (1 + (((sl.map V.str).length : Nat) : Int))
                rw [List.length_map]
                congr 1
                omega) ?_
              rw [decide_eq_true hl, Bool.true_and] at k
              refine ⟨_, rfl, _, rfl, 1, rfl, ?_⟩
              dsimp only [tNoPart]
              refine cut_any hT fun t1 H1 s1 hT1 => ?_
              rw [cut_one] at hT1
              have hB1 := hB.same s1
              have fr := hf.inner
              refine ⟨a, t1, sl.map V.str, ys, rfl, .inr ⟨hS H1, hT1, fun L hL => ?_⟩⟩
              have hll : (sl.map V.str).length = ys.length := by
                rw [List.length_map]
                omega
              refine lc_zip2 (K := K) (xs := sl.map V.str) (ys := ys) hll (fun i H' => H' L = some (.lst ((((sl.zip r).take i).map fun p => slotOk p.1 p.2).map V.bl)) ∧ Same H1 H') ⟨upd_same, same_new hL⟩ (fun i H' p => ⟨hS H', sqT_same p.2 hT1⟩) ?_ ?_
              · rintro i x y q H2 hx hy ⟨e2, s2⟩ hq
                rw [List.getElem?_map] at hx
                obtain ⟨c, hc, rfl⟩ := Option.map_eq_some_iff.mp hx
                obtain ⟨dx, hdx, hxd⟩ := hB1.get hy
                have sq : Same H2 (upd H2 q (.tup [V.str c, y])) := same_new hq
                have hz : (sl.zip r)[i]? = some (c, dx) := by
                  rw [List.getElem?_zip_eq_some]
                  exact ⟨hc, hdx⟩
                refine ⟨q, _, rfl, SqT.of upd_same, rfl, .str c, _, rfl, y, _, rfl, rfl, rfl, ?_⟩
                simp only [tYes, if_true]
                refine ⟨_, rfl, _, rfl, N, c, y, dx, n, m, rfl, (hxd.same s2).same sq, fr.mem (List.mem_cons_of_mem _ (List.mem_of_getElem? hdx)), hn, fun H3 s3 => ⟨_, s3 _ _ (sq _ _ e2), ?_, ?_, Same.mut ((s2.trans sq).trans s3) hL⟩⟩
                · rw [List.length_map, List.length_map, List.length_take, List.length_zip]
                  exact lt_line (by omega)
                · rw [upd_same, List.take_add_one, hz, List.map_append, List.map_append]
                  rfl
              · rintro H2 ⟨e2, s2⟩
                rw [List.take_of_length_le (by rw [List.length_zip, List.length_map]; omega)] at e2
                have s02 := s1.trans s2
                refine ⟨L, _, rfl, SqL.of e2, ?_⟩
                rw [all_zip]
                cases hal : (sl.zip r).all fun p => slotOk p.1 p.2 with
                | false =>
                  refine ⟨_, rfl, iteT ?_⟩
                  rw [hal] at k
                  exact k H2 s02
                | true =>
                  refine ⟨_, rfl, iteF ?_⟩
                  rw [hal, Bool.true_and] at k
                  have hT2 := sqT_same s02 hT
                  refine ⟨_, rfl, t, _, 0, _, rfl, rfl, hT2, at_zero, le_line (by show 2 ≤ 16000000; decide), fun q hq => ⟨q, m2.map V.str, rfl, .inr (SqT.of upd_same), rfl, rfl, ?_⟩⟩
                  have sq : Same H2 (upd H2 q (.tup (m2.map V.str))) := same_new hq
                  rw [if_pos rfl, in_strs]
                  by_cases hm : z ∈ m2
                  · rw [decide_eq_true hm] at k ⊢
                    refine ⟨_, rfl, iteF ?_⟩
                    obtain rfl := form_m2 hfo hm
                    obtain ⟨a0, b0, c0, e0, rfl⟩ := len4 hl
                    simp only [List.zip_cons_cons, List.zip_nil_left, List.all_cons, List.all_nil, slot_name, slot_term, Bool.and_true, Bool.true_and, Bool.and_eq_true] at hal
                    obtain ⟨x, rfl⟩ := name_str hal.1
                    obtain ⟨y, rfl⟩ := name_str hal.2
                    obtain ⟨tt, x1, x2, x3, x4, x5, e1, hTa, g1, g2, g3, g4, g5⟩ := hd.tup5
                    obtain rfl := g3.strInv
                    obtain rfl := g4.strInv
                    cases e1
                    have hTb := sqT_same (s02.trans sq) hTa
                    rw [same_str (e := e0)] at k
                    refine ⟨_, rfl, t, _, 2, _, rfl, rfl, hTb, rfl, _, rfl, t, _, 3, _, rfl, rfl, hTb, rfl, rfl, ?_⟩
                    have e3 : decide (V.str x = V.str y) = decide (x = y) := decide_eq_decide.mpr ⟨fun z => by injection z, fun z => by rw [z]⟩
                    rw [e3]
                    exact k _ (s02.trans sq)
                  · rw [decide_eq_false hm] at k ⊢
                    exact ⟨_, rfl, iteT (k _ (s02.trans sq))⟩
            · refine iteNF (fun e => hl (by
                have e : V.int ((ys.length + 1 : Nat) : Int) = V.int (1 + (((sl.map V.str).length : Nat) : Int)) := e
                injection e with e
                rw [List.length_map] at e
                omega)) ?_
              rw [decide_eq_false hl] at k
              exact k H (Same.refl H)
        · rw [decide_eq_false hs0]
          refine iteT (iteT ?_)
          rw [formed_nos hs0] at k
          exact k H (Same.refl H)
    · rw [decide_eq_false htu]
      refine iteT (iteT ?_)
      rw [formed_no hs htu] at k
      exact k H (Same.refl H)
end

section
variable {P : Program} {w : World} {K : PySem.W.Frag} {mg : Str → Option Value} {base : Heap}
theorem ok_below (D : DefAt K mg "below" s_below ["term"]) (T : Bl mg) : CallOk P w K mg base 1 "below" ["term"] (spKidsS K) := by
  refine D.ok sc_below (fun vs H Q E h => ?_) (fun f cdv A outer s H vs Q E hr h => ?_)
  · obtain ⟨N, H0, v, d, rfl, _⟩ := h
    rfl
  · obtain ⟨N, H0, v, d, rfl, z0, hd, ht, k⟩ := h
    refine ⟨_, (pss_cons (ps_if (PW.pt (pw_or (pt_val (pe_callB call_isD (by rfl) T.isinstance_ (by decide +kernel) (pa_cons (pv 0) (pa_cons (pe_bltn (v := .ty "str") (by rfl) T.str_ (by decide +kernel) rfl) pa_nil)))) (pw_or1 (pt_cmpR op_eq (pe_ix ix_tup (pv 0) pe_int (fun _ _ => rfl)) pe_str (nomark _))))) (pss_one (ps_ret (pe_lst pa_nil))) pss_nil)
        (pss_cons (ps_if (pt_cmpR op_eq (pe_ix ix_tup (pv 0) pe_int (fun _ _ => rfl)) pe_str (nomark _)) (pss_one (ps_ret (pe_lst (pa_cons (pe_tup (pa_cons (pe_tup (pa_cons (pe_ix ix_tup (pv 0) pe_int (fun _ _ => rfl)) pa_nil)) (pa_cons (pe_ix ix_tup (pv 0) pe_int (fun _ _ => rfl)) pa_nil))) pa_nil)))) pss_nil)
        (pss_cons (ps_if (pt_cmpR op_in_seq (pe_ix ix_tup (pv 0) pe_int (fun _ _ => rfl)) (pe_tup (pa_cons pe_str (pa_cons pe_str pa_nil))) (by rfl)) (pss_one (ps_ret (pe_lst (pa_cons (pe_tup (pa_cons (pe_tup pa_nil) (pa_cons (pe_ix ix_tup (pv 0) pe_int (fun _ _ => rfl)) pa_nil))) (pa_cons (pe_tup (pa_cons (pe_tup (pa_cons (pe_ix ix_tup (pv 0) pe_int (fun _ _ => rfl)) (pa_cons (pe_ix ix_tup (pv 0) pe_int (fun _ _ => rfl)) pa_nil))) (pa_cons (pe_ix ix_tup (pv 0) pe_int (fun _ _ => rfl)) pa_nil))) pa_nil))))) pss_nil)
        (pss_cons (ps_if (pt_cmpR op_eq (pe_ix ix_tup (pv 0) pe_int (fun _ _ => rfl)) pe_str (nomark _)) (pss_one (ps_ret (pe_lc (own := [("inner", 1)]) (g := gName 1) (tt := tYes) rfl sc_below.nd (pi_tup (pe_ix ix_tup (pv 0) pe_int (fun _ _ => rfl))) (blkOk_by (N := sl_below) (sc := defScope s_below) (by decide +kernel)) (fun _ _ _ _ _ => pg_name (i := 1) sc_below.nd rfl (Or.inl rfl)) (fun _ _ _ _ _ => pts_nil) (fun _ _ _ _ _ => (pe_tup (pa_cons (pe_tup pa_nil) (pa_cons (pv 1) pa_nil))))))) pss_nil)
        (pss_cons (ps_if (pt_cmpR op_eq (pe_ix ix_tup (pv 0) pe_int (fun _ _ => rfl)) pe_str (nomark _)) (pss_one (ps_ret (pe_op opAdd (pe_lst (pa_cons (pe_tup (pa_cons (pe_tup pa_nil) (pa_cons (pe_ix ix_tup (pv 0) pe_int (fun _ _ => rfl)) pa_nil))) pa_nil)) (pe_lc (own := [("_", 2), ("names", 3), ("inner", 1)]) (g := (gTup K 3 (gCons (gName 2) (gCons (gName 3) (gCons (gName 1) gNil))))) (tt := tYes) rfl sc_below.nd (pi_tup (pe_ix ix_tup (pv 0) pe_int (fun _ _ => rfl))) (blkOk_by (N := sl_below) (sc := defScope s_below) (by decide +kernel)) (fun _ _ _ _ _ => (pg_tup rfl (pgs_cons (pg_name (i := 2) sc_below.nd rfl (Or.inl rfl) (by first | exact .inl rfl | exact .inr rfl)) (pgs_cons (pg_name (i := 3) sc_below.nd rfl (Or.inl rfl) (by first | exact .inl rfl | exact .inr rfl)) (pgs_cons (pg_name (i := 1) sc_below.nd rfl (Or.inl rfl) (by first | exact .inl rfl | exact .inr rfl)) pgs_nil))))) (fun _ _ _ _ _ => pts_nil) (fun _ _ _ _ _ => (pe_tup (pa_cons (pv 3) (pa_cons (pv 1) pa_nil)))))))) pss_nil)
        (pss_one (ps_ret (pe_lst (pa_cons (pe_tup (pa_cons (pe_tup pa_nil) (pa_cons (pe_ix ix_tup (pv 0) pe_int (fun _ _ => rfl)) pa_nil))) (pa_cons (pe_tup (pa_cons (pe_tup pa_nil) (pa_cons (pe_ix ix_tup (pv 0) pe_int (fun _ _ => rfl)) pa_nil))) pa_nil)))))))))), ?_⟩
    refine ⟨_, rfl, N, v, d, "str", rfl, hd.same z0, .inl rfl, _, rfl, ?_⟩
    have hkl := kidsS_len ht
    cases ht with
    | name x hx =>
      refine iteT (iteT ?_)
      refine ⟨Nat.zero_le _, fun L hL => k L [] _ (same_new hL) hL upd_same .nil⟩
    | «at» x hx =>
      refine iteF ?_
      obtain ⟨t, x0, x1, rfl, hT0, h0, h1⟩ := hd.tup2
      have hT := sqT_same z0 hT0
      obtain rfl := h0.strInv
      refine ⟨_, rfl, t, _, 0, _, rfl, rfl, hT, rfl, rfl, _, rfl, ?_⟩
      refine iteST rfl ?_
      refine ⟨Nat.zero_le _, fun L hL => k L [] _ (same_new hL) hL upd_same .nil⟩
    | lam x kk tt hx hk =>
      refine iteF ?_
      obtain ⟨t, x0, x1, x2, x3, rfl, hT0, h0, h1, h2, h3⟩ := hd.tup4
      have hT := sqT_same z0 hT0
      obtain rfl := h0.strInv
      obtain rfl := h1.strInv
      refine ⟨_, rfl, t, _, 0, _, rfl, rfl, hT, rfl, rfl, _, rfl, ?_⟩
      refine iteSF (by decide +kernel) ?_
      refine ⟨_, rfl, t, _, 0, _, rfl, rfl, hT, rfl, rfl, _, rfl, ?_⟩
      refine iteST rfl ?_
      refine ⟨_, rfl, t, _, 1, _, rfl, rfl, hT, rfl, le_line (by show 1 ≤ 16000000; decide), fun a ha => ?_⟩
      have s1 : Same _ _ := same_new (o := .tup [V.str x]) ha
      refine ⟨_, rfl, t, _, 3, _, rfl, rfl, sqT_same s1 hT, rfl, le_line (by show 2 ≤ 16000000; decide), fun b hb => ?_⟩
      have s2 : Same _ _ := same_new (o := .tup [V.ref a, x3]) hb
      refine ⟨le_line (by show 1 ≤ 16000000; decide), fun L hL => ?_⟩
      have s3 : Same _ _ := same_new (o := .lst [V.ref b]) hL
      refine k L [.ref b] _ ((s1.trans s2).trans s3) (none_same (s1.trans s2) hL) upd_same (.cons ?_ .nil)
      exact krow (xs := [x]) (sqT_same s3 (SqT.of upd_same)) (sqT_same (s2.trans s3) (SqT.of upd_same)) h3
    | five sgn x y tt uu hs hx hy hxy =>
      refine iteF ?_
      obtain ⟨t, x0, x1, x2, x3, x4, rfl, hT0, h0, h1, h2, h3, h4⟩ := hd.tup5
      have hT := sqT_same z0 hT0
      obtain rfl := h0.strInv
      obtain rfl := h2.strInv
      obtain rfl := h3.strInv
      refine ⟨_, rfl, t, _, 0, _, rfl, rfl, hT, rfl, rfl, _, rfl, ?_⟩
      refine iteSF (ne_mem hs (by decide +kernel)) ?_
      refine ⟨_, rfl, t, _, 0, _, rfl, rfl, hT, rfl, rfl, _, rfl, ?_⟩
      refine iteSF (ne_mem hs (by decide +kernel)) ?_
      refine ⟨_, rfl, t, _, 0, _, rfl, rfl, hT, rfl, le_line (by show 2 ≤ 16000000; decide), fun q hq => ⟨q, m2.map V.str, rfl, .inr (SqT.of upd_same), rfl, rfl, _, rfl, ?_⟩⟩
      have sq : Same H (upd H q (.tup (m2.map V.str))) := same_new hq
      have hTq := sqT_same sq hT
      refine iteInT hs ?_
      refine ⟨Nat.zero_le _, fun a ha => ?_⟩
      have s1 := Same.lay (o := .tup []) sq ha
      refine ⟨_, rfl, t, _, 1, _, rfl, rfl, sqT_same s1 hT, rfl, le_line (by show 2 ≤ 16000000; decide), fun b hb => ?_⟩
      have s2 := Same.lay (o := .tup [V.ref a, x1]) s1 hb
      refine ⟨_, rfl, t, _, 2, _, rfl, rfl, sqT_same s2 hT, rfl, _, rfl, t, _, 3, _, rfl, rfl, sqT_same s2 hT, rfl, le_line (by show 2 ≤ 16000000; decide), fun c hc => ?_⟩
      have s3 := Same.lay (o := .tup [V.str x, V.str y]) s2 hc
      refine ⟨_, rfl, t, _, 4, _, rfl, rfl, sqT_same s3 hT, rfl, le_line (by show 2 ≤ 16000000; decide), fun e he => ?_⟩
      have s4 := Same.lay (o := .tup [V.ref c, x4]) s3 he
      refine ⟨le_line (by show 2 ≤ 16000000; decide), fun L hL => ?_⟩
      have s5 := Same.lay (o := .lst [V.ref b, V.ref e]) s4 hL
      have r5 : Same _ _ := same_new (o := .lst [V.ref b, V.ref e]) hL
      have r4 := (same_new (o := .tup [V.ref c, x4]) he).trans r5
      have r3 := (same_new (o := .tup [V.str x, V.str y]) hc).trans r4
      have r2 := (same_new (o := .tup [V.ref a, x1]) hb).trans r3
      rw [kids_five] at k
      refine k L [.ref b, .ref e] _ s5 (none_same s4 hL) upd_same (.cons ?_ (.cons ?_ .nil))
      · exact krow (xs := []) (sqT_same r3 (SqT.of upd_same)) (sqT_same r2 (SqT.of upd_same)) h1
      · exact krow (xs := [x, y]) (sqT_same r5 (SqT.of upd_same)) (sqT_same r4 (SqT.of upd_same)) h4
    | mk c ts hc h4 =>
      refine iteF ?_
      obtain ⟨t, x0, x1, x2, rfl, hT0, h0, h1, h2⟩ := hd.tup3
      have hT := sqT_same z0 hT0
      obtain rfl := h0.strInv
      obtain ⟨t2, xs, rfl, hT20, hA⟩ := h2.tupInv
      have hT2 := sqT_same z0 hT20
      rw [kids_mk] at k hkl
      rw [List.length_map] at hkl
      have hlx := hA.length
      refine ⟨_, rfl, t, _, 0, _, rfl, rfl, hT, rfl, rfl, _, rfl, ?_⟩
      refine iteSF (by decide +kernel) ?_
      refine ⟨_, rfl, t, _, 0, _, rfl, rfl, hT, rfl, rfl, _, rfl, ?_⟩
      refine iteSF (by decide +kernel) ?_
      refine ⟨_, rfl, t, _, 0, _, rfl, rfl, hT, rfl, le_line (by show 2 ≤ 16000000; decide), fun q hq => ⟨q, m2.map V.str, rfl, .inr (SqT.of upd_same), rfl, rfl, _, rfl, ?_⟩⟩
      have sq : Same H (upd H q (.tup (m2.map V.str))) := same_new hq
      have hTq := sqT_same sq hT
      refine iteInF (by decide +kernel) ?_
      refine ⟨_, rfl, t, _, 0, _, rfl, rfl, hTq, rfl, rfl, _, rfl, ?_⟩
      refine iteST rfl ?_
      refine ⟨_, rfl, t, _, 2, _, rfl, rfl, hTq, rfl, t2, rfl, ⟨_, sqT_same sq hT2⟩, fun L hL => ?_⟩
      have hLn := none_same sq hL
      refine lc_tup (K := K) (xs := xs) (fun i H' => ∃ us, H' L = some (.lst us) ∧ AP (KRow K N H0 H') us ((ts.take i).map fun t => ([], t)) ∧ Same H H') ⟨[], upd_same, .nil, Same.lay sq hL⟩ (fun i H' _ p => sqT_same p.choose_spec.2.2 hT2) ?_ ?_
      · rintro i x H1 hx ⟨us, e1, g1, s1⟩
        obtain ⟨dx, hdx, hxd⟩ := hA.get hx
        have hi : i < xs.length := (List.getElem?_eq_some_iff.mp hx).1
        refine ⟨rfl, ?_⟩
        simp only [tYes, if_true]
        refine ⟨Nat.zero_le _, fun a ha => ?_⟩
        have s2 : Same _ _ := same_new (o := .tup []) ha
        refine ⟨_, rfl, le_line (by show 2 ≤ 16000000; decide), fun b hb => ?_⟩
        have s3 : Same _ _ := same_new (o := .tup [V.ref a, x]) hb
        have e2 := (s2.trans s3) _ _ e1
        refine ⟨us, e2, ?_, us ++ [.ref b], upd_same, ?_, Same.mut (s1.trans (s2.trans s3)) hLn⟩
        · rw [g1.length, List.length_map, List.length_take]
          exact lt_line (by omega)
        · rw [List.take_add_one, hdx, List.map_append]
          exact acc_ap e2 (g1.same (s2.trans s3)) (krow (xs := []) (SqT.of upd_same) (sqT_same s3 (SqT.of upd_same)) hxd)
      · rintro H1 ⟨us, e1, g1, s1⟩
        rw [List.take_of_length_le (by omega)] at g1
        exact k L us H1 s1 hLn e1 g1
    | ch tt cs hc1 hc6 hcs =>
      refine iteF ?_
      obtain ⟨t, x0, x1, x2, rfl, hT0, h0, h1, h2⟩ := hd.tup3
      have hT := sqT_same z0 hT0
      obtain rfl := h0.strInv
      obtain ⟨t2, xs, rfl, hT20, hA⟩ := h2.tupInv
      have hT2 := sqT_same z0 hT20
      rw [kids_ch] at k hkl
      rw [List.length_cons, List.length_map] at hkl
      have hlx := hA.length
      rw [List.length_map] at hlx
      refine ⟨_, rfl, t, _, 0, _, rfl, rfl, hT, rfl, rfl, _, rfl, ?_⟩
      refine iteSF (by decide +kernel) ?_
      refine ⟨_, rfl, t, _, 0, _, rfl, rfl, hT, rfl, rfl, _, rfl, ?_⟩
      refine iteSF (by decide +kernel) ?_
      refine ⟨_, rfl, t, _, 0, _, rfl, rfl, hT, rfl, le_line (by show 2 ≤ 16000000; decide), fun q hq => ⟨q, m2.map V.str, rfl, .inr (SqT.of upd_same), rfl, rfl, _, rfl, ?_⟩⟩
      have sq : Same H (upd H q (.tup (m2.map V.str))) := same_new hq
      have hTq := sqT_same sq hT
      refine iteInF (by decide +kernel) ?_
      refine ⟨_, rfl, t, _, 0, _, rfl, rfl, hTq, rfl, rfl, _, rfl, ?_⟩
      refine iteSF (by decide +kernel) ?_
      refine ⟨_, rfl, t, _, 0, _, rfl, rfl, hTq, rfl, rfl, _, rfl, ?_⟩
      refine iteST rfl ?_
      refine ⟨Nat.zero_le _, fun a ha => ?_⟩
      have s1 := Same.lay (o := .tup []) sq ha
      refine ⟨_, rfl, t, _, 1, _, rfl, rfl, sqT_same s1 hT, rfl, le_line (by show 2 ≤ 16000000; decide), fun b hb => ?_⟩
      have s2 := Same.lay (o := .tup [V.ref a, x1]) s1 hb
      have hrow : KRow K N H0 _ (.ref b) ([], tt) := krow (xs := []) (SqT.of upd_same) (sqT_same (same_new hb) (SqT.of upd_same)) h1
      refine ⟨le_line (by show 1 ≤ 16000000; decide), fun L1 hL1 => ?_⟩
      have s3 := Same.lay (o := .lst [V.ref b]) s2 hL1
      refine ⟨_, rfl, t, _, 2, _, rfl, rfl, sqT_same s3 hT, rfl, t2, rfl, ⟨_, sqT_same s3 hT2⟩, fun L hL => ?_⟩
      have hLn := none_same s3 hL
      have hrow3 := hrow.same (same_new (o := .lst [V.ref b]) hL1)
      refine lc_tup (K := K) (xs := xs) (fun i H' => ∃ us, H' L = some (.lst us) ∧ AP (KRow K N H0 H') us ((cs.take i).map (·.2)) ∧ Same (upd _ L1 (HO.lst [V.ref b])) H') ⟨[], upd_same, .nil, same_new hL⟩ (fun i H' _ p => sqT_same (s3.trans p.choose_spec.2.2) hT2) ?_ ?_
      · rintro i x H1 hx ⟨us, e1, g1, s4⟩
        obtain ⟨dx, hdx, hxd⟩ := hA.get hx
        have hi : i < xs.length := (List.getElem?_eq_some_iff.mp hx).1
        obtain ⟨c, hc, rfl⟩ : ∃ c, cs[i]? = some c ∧ PyData.tuple [.str c.1, .tuple (c.2.1.map strD), c.2.2] = dx := by
          rw [List.getElem?_map] at hdx
          obtain ⟨c, hc, e⟩ := Option.map_eq_some_iff.mp hdx
          exact ⟨c, hc, e⟩
        obtain ⟨tc, y0, y1, y2, rfl, hTc0, g0, gn, g2⟩ := hxd.tup3
        obtain ⟨tn, rfl, hTn0⟩ := gn.names
        have hTc := sqT_same (s3.trans s4) (sqT_same z0 hTc0)
        have hTn := sqT_same (s3.trans s4) (sqT_same z0 hTn0)
        refine ⟨tc, _, rfl, hTc, rfl, y0, _, rfl, V.ref tn, _, rfl, y2, _, rfl, rfl, ?_⟩
        refine ⟨rfl, ?_⟩
        simp only [tYes, if_true]
        refine ⟨_, rfl, _, rfl, le_line (by show 2 ≤ 16000000; decide), fun z hz => ?_⟩
        have s5 : Same _ _ := same_new (o := .tup [V.ref tn, y2]) hz
        have e2 := s5 _ _ e1
        refine ⟨us, e2, ?_, us ++ [.ref z], upd_same, ?_, Same.mut (s4.trans s5) hL⟩
        · rw [g1.length, List.length_map, List.length_take]
          exact lt_line (by omega)
        · rw [List.take_add_one, hc, List.map_append]
          exact acc_ap e2 (g1.same s5) (krow (xs := c.2.1) (SqT.of upd_same) (sqT_same s5 hTn) g2)
      · rintro H1 ⟨us, e1, g1, s4⟩
        rw [List.take_of_length_le (by omega)] at g1
        refine .inr (.inr (.inr ⟨L1, L, [.ref b], us, rfl, rfl, s4 _ _ upd_same, e1, ?_, fun F hF => ?_⟩))
        · have := g1.length
          rw [List.length_map] at this
          rw [List.length_cons, List.length_nil]
          exact le_line (by omega)
        · have s6 : Same _ _ := same_new (o := .lst ([V.ref b] ++ us)) hF
          refine k F (.ref b :: us) _ ((s3.trans s4).trans s6) (none_same (s3.trans s4) hF) upd_same ?_
          exact .cons (hrow3.same (s4.trans s6)) (g1.same s6)
    | two sgn tt uu hs =>
      refine iteF ?_
      obtain ⟨t, x0, x1, x2, rfl, hT0, h0, h1, h2⟩ := hd.tup3
      have hT := sqT_same z0 hT0
      obtain rfl := h0.strInv
      rw [kids_two _ _ hs] at k
      refine ⟨_, rfl, t, _, 0, _, rfl, rfl, hT, rfl, rfl, _, rfl, ?_⟩
      refine iteSF (ne_mem hs (by decide +kernel)) ?_
      refine ⟨_, rfl, t, _, 0, _, rfl, rfl, hT, rfl, rfl, _, rfl, ?_⟩
      refine iteSF (ne_mem hs (by decide +kernel)) ?_
      refine ⟨_, rfl, t, _, 0, _, rfl, rfl, hT, rfl, le_line (by show 2 ≤ 16000000; decide), fun q hq => ⟨q, m2.map V.str, rfl, .inr (SqT.of upd_same), rfl, rfl, _, rfl, ?_⟩⟩
      have sq : Same H (upd H q (.tup (m2.map V.str))) := same_new hq
      have hTq := sqT_same sq hT
      refine iteInF (fun bad => by have q := ne_mem (z := sgn) hs; revert hs bad; intro hs bad; simp only [List.mem_cons, List.not_mem_nil, or_false] at bad; rcases bad with rfl | rfl <;> exact absurd hs (by decide +kernel)) ?_
      refine ⟨_, rfl, t, _, 0, _, rfl, rfl, hTq, rfl, rfl, _, rfl, ?_⟩
      refine iteSF (ne_mem hs (by decide +kernel)) ?_
      refine ⟨_, rfl, t, _, 0, _, rfl, rfl, hTq, rfl, rfl, _, rfl, ?_⟩
      refine iteSF (ne_mem hs (by decide +kernel)) ?_
      refine ⟨Nat.zero_le _, fun a ha => ?_⟩
      have s1 := Same.lay (o := .tup []) sq ha
      refine ⟨_, rfl, t, _, 1, _, rfl, rfl, sqT_same s1 hT, rfl, le_line (by show 2 ≤ 16000000; decide), fun b hb => ?_⟩
      have s2 := Same.lay (o := .tup [V.ref a, x1]) s1 hb
      refine ⟨Nat.zero_le _, fun c hc => ?_⟩
      have s3 := Same.lay (o := .tup []) s2 hc
      refine ⟨_, rfl, t, _, 2, _, rfl, rfl, sqT_same s3 hT, rfl, le_line (by show 2 ≤ 16000000; decide), fun e he => ?_⟩
      have s4 := Same.lay (o := .tup [V.ref c, x2]) s3 he
      refine ⟨le_line (by show 2 ≤ 16000000; decide), fun L hL => ?_⟩
      have s5 := Same.lay (o := .lst [V.ref b, V.ref e]) s4 hL
      have r5 : Same _ _ := same_new (o := .lst [V.ref b, V.ref e]) hL
      have r4 := (same_new (o := .tup [V.ref c, x2]) he).trans r5
      have r3 := (same_new (o := .tup []) hc).trans r4
      have r2 := (same_new (o := .tup [V.ref a, x1]) hb).trans r3
      refine k L [.ref b, .ref e] _ s5 (none_same s4 hL) upd_same (.cons ?_ (.cons ?_ .nil))
      · exact krow (xs := []) (sqT_same r3 (SqT.of upd_same)) (sqT_same r2 (SqT.of upd_same)) h1
      · exact krow (xs := []) (sqT_same r5 (SqT.of upd_same)) (sqT_same r4 (SqT.of upd_same)) h2
end

section
variable {P : Program} {w : World} {K : PySem.W.Frag} {mg : Str → Option Value} {base : Heap}
def WT (K : PySem.W.Frag) (N : Addr → Prop) (H : Hp) (v : V) (R : Addr) (w m : Nat) (d : PyData) (m' : Nat) (σ : L2.St) (H' : Hp) : Prop :=
  ∃ (rows : List V) (qs : List (PyData × Nat)) (many : Nat) (v3 v4 : Option V), σ = [some v, some (.ref R), some (.int many), v3, v4, none, none] ∧ H' R = some (.lst rows) ∧ AP (RT K N H H') rows qs ∧
    termD d = okSum many qs ∧ (∀ q ∈ qs, Fit w m q.1 ∧ q.2 ≤ 31) ∧ Same H H' ∧ rows.length ≤ 7 * many + 1 ∧ many ≤ 200 ∧ m' = 201 - many
theorem ok_is_term (D : DefAt K mg "is_term" s_is_term ["thing"]) (T : Bl mg) (G_MOST_PARTS : GV mg "MOST_PARTS" (.int 200)) (G_MOST_TERMS_WITHIN : GV mg "MOST_TERMS_WITHIN" (.int 30)) (C_is_formed : CallOk P w K mg base 10 "is_formed" ["thing"] (spOf K formedD))
    (C_below : CallOk P w K mg base 1 "below" ["term"] (spKidsS K)) : CallOk P w K mg base 11 "is_term" ["thing"] (spOf K termD) := by
  refine D.ok sc_is_term (fun vs H Q E h => ?_) (fun f cdv A outer s H vs Q E hr h => ?_)
  · obtain ⟨N, v, d, n, m, rfl, _⟩ := h
    rfl
  · obtain ⟨N, v, d, n, m, rfl, hd, hf, hn, k⟩ := h
    refine ⟨_, (pss_cons (ps_set (i := 1) sc_is_term.nd rfl (Or.inl rfl) (pe_lst (pa_cons (pe_tup (pa_cons (pv 0) (pa_cons pe_int pa_nil))) pa_nil)))
        (pss_cons (ps_set (i := 2) sc_is_term.nd rfl (Or.inl rfl) pe_int)
        (pss_cons (ps_while PassesOwn.never (pt_truth (pv 1) (by intro _; rfl)) (pss_cons (ps_asg (pe_bm0 PySem.F.plainAttrs_list PySem.F.slot_list_pop PySem.F.type_list_pop mt_pop (pv 1)) (pg_tup rfl (pgs_cons (pg_name (i := 3) sc_is_term.nd rfl (Or.inl rfl) (by first | exact .inl rfl | exact .inr rfl)) (pgs_cons (pg_name (i := 4) sc_is_term.nd rfl (Or.inr rfl) (by first | exact .inl rfl | exact .inr rfl)) pgs_nil))))
        (pss_cons (ps_aug (i := 2) sc_is_term.nd rfl (.inl rfl) pe_int ip_add)
        (pss_cons (ps_if (PW.pt (pw_or (pt_cmpR op_gt (pv 2) (pe_gv G_MOST_PARTS rfl) (nomark _)) (pw_or (pt_cmpR op_gt (pv 4) (pe_gv G_MOST_TERMS_WITHIN rfl) (nomark _)) (pw_or1 (pt_not (pt_val (pe_callOk C_is_formed hr (by omega) (by rfl) (pa_cons (pv 3) pa_nil)))))))) (pss_one (ps_ret pe_bl)) pss_nil)
        (pss_one (ps_expr (pe_bm PySem.F.plainAttrs_list PySem.F.slot_list_extend PySem.F.type_list_extend mt_extend (pv 1) (pa_cons (pe_lc (own := [("_", 5), ("inner", 6)]) (g := (gTup K 2 (gCons (gName 5) (gCons (gName 6) gNil)))) (tt := tYes) rfl sc_is_term.nd (pi_list (pe_callOk C_below hr (by omega) (by rfl) (pa_cons (pv 3) pa_nil))) (blkOk_by (N := sl_is_term) (sc := defScope s_is_term) (by decide +kernel)) (fun _ _ _ _ _ => (pg_tup rfl (pgs_cons (pg_name (i := 5) sc_is_term.nd rfl (Or.inl rfl) (by first | exact .inl rfl | exact .inr rfl)) (pgs_cons (pg_name (i := 6) sc_is_term.nd rfl (Or.inl rfl) (by first | exact .inl rfl | exact .inr rfl)) pgs_nil)))) (fun _ _ _ _ _ => pts_nil) (fun _ _ _ _ _ => (pe_tup (pa_cons (pv 6) (pa_cons (pe_op (opAddK (K := K) rfl) (pv 4) pe_int) pa_nil))))) pa_nil))))))))
        (pss_one (ps_ret pe_bl))))), ?_⟩
    refine ⟨_, rfl, le_line (by show 2 ≤ 16000000; decide), fun b hb => ⟨le_line (by show 1 ≤ 16000000; decide), fun R hR => ?_⟩⟩
    have s1 : Same H (upd H b (.tup [v, V.int 1])) := same_new hb
    have s0 := Same.trans s1 (same_new (o := .lst [V.ref b]) hR)
    have hR0 := none_same s1 hR
    refine ⟨WT K N H v R n m d, ⟨_, [.ref b], [(d, 1)], 0, none, none, rfl, upd_same, .cons ⟨b, v, rfl, sqT_same (same_new hR) (SqT.of upd_same), hd⟩ .nil, (okSum_one d).symm, ?_, s0, by show 1 ≤ 7 * 0 + 1; omega, by omega, rfl⟩, ?_⟩
    · intro q hq
      rw [List.mem_singleton.mp hq]
      exact ⟨hf, by show 1 ≤ 31; omega⟩
    rintro m' σ H1 ⟨rows, qs, many, v3, v4, rfl, eR, gr, hok, hall, sH, hlen, hmany, rfl⟩
    refine ⟨_, rfl, !rows.isEmpty, .inl ⟨_, SqL.of eR, rfl⟩, ?_⟩
    rcases List.eq_nil_or_concat qs with rfl | ⟨qs', q, rfl⟩
    · obtain rfl := gr.nil_of
      refine iteF ?_
      rw [okSum_nil hmany] at hok
      rw [hok] at k
      exact k H1 sH
    · rw [List.concat_eq_append] at gr hok hall
      obtain ⟨us, y, rfl, gu, gy⟩ := gr.snoc
      rw [show (!(us ++ [y]).isEmpty) = true by simp]
      refine iteT ?_
      obtain ⟨fq, q31⟩ := hall q (by simp)
      refine ⟨fun σ' H' => ∃ m'', m'' < _ ∧ WT K N H v R n m d m'' σ' H', fun _ _ h => h, ?_⟩
      refine ⟨_, rfl, .inl ⟨rfl, _, SqL.of eR⟩, R, us ++ [y], y, rfl, rfl, eR, by simp, ?_⟩
      rw [List.dropLast_concat]
      have p2 : Ts K H1 (upd H1 R (.lst us)) := Ts.put eR
      have eR2 : (upd H1 R (.lst us)) R = some (.lst us) := upd_same
      have s2 : Same H (upd H1 R (.lst us)) := Same.mut sH hR0
      have gu2 := gu.mono (RT.ts p2)
      obtain ⟨t, a1, rfl, hT, ga⟩ := RT.ts p2 y q gy
      refine ⟨t, _, rfl, hT, rfl, a1, _, rfl, _, _, rfl, rfl, ?_⟩
      generalize (upd H1 R (.lst us)) = H2 at eR2 s2 gu2 hT ⊢
      refine ⟨_, rfl, _, _, rfl, rfl, ?_⟩
      refine ⟨_, rfl, _, _, rfl, rfl, _, rfl, ?_⟩
      by_cases h1 : (200 : Int) < (many : Int) + 1
      · rw [decide_eq_true h1]
        refine iteT (iteT ?_)
        rw [okSum_full (by omega)] at hok
        rw [hok] at k
        exact k H2 s2
      rw [decide_eq_false h1]
      refine iteF ?_
      refine ⟨_, rfl, _, _, rfl, rfl, _, rfl, ?_⟩
      by_cases h2 : (30 : Int) < (q.2 : Int)
      · rw [decide_eq_true h2]
        refine iteT (iteT ?_)
        rw [okSum_none (by rw [show 31 - q.2 = 0 by omega]; rfl)] at hok
        rw [hok] at k
        exact k H2 s2
      rw [decide_eq_false h2]
      refine iteF ?_
      refine ⟨_, rfl, N, a1, q.1, n, m, rfl, ga.same s2, fq, hn, fun H3 s3 => ?_⟩
      cases hfd : formedD q.1 with
      | false =>
        refine ⟨_, rfl, iteT ?_⟩
        rw [okSum_none (by rw [show 31 - q.2 = (30 - q.2) + 1 by omega, sizedD, if_neg (by rw [hfd]; exact Bool.false_ne_true)])] at hok
        rw [hok] at k
        exact k H3 (s2.trans s3)
      | true =>
        refine ⟨_, rfl, iteF ?_⟩
        have hsh := formed_sh hfd
        have s23 := s2.trans s3
        have eR3 := s3 _ _ eR2
        have gu3 := gu2.mono (RT.ts (Ts.of s3))
        have hkl := kidsS_len hsh
        have hfk := kidsS_fit hsh fq
        rw [← okSum_step hfd (by omega)] at hok
        refine ⟨_, rfl, .inl ⟨rfl, _, SqL.of eR3⟩, _, rfl, N, H, a1, q.1, rfl, s23, ga, hsh, fun B bs H4 s4 hB eB gb => ?_⟩
        refine ⟨B, rfl, ⟨_, SqL.of eB⟩, fun C hC => ?_⟩
        have hlb := gb.length
        refine lc_list (K := K) (xs := bs) (fun i H' => ∃ cs, H' C = some (.lst cs) ∧ AP (RT K N H H') cs (((kids q.1).take i).map fun k => (k.2, q.2 + 1)) ∧ Same H4 H') ⟨[], upd_same, .nil, same_new hC⟩ (fun i H' _ p => SqL.of (p.choose_spec.2.2 _ _ eB)) ?_ ?_
        · rintro i x H5 hx ⟨cs, e5, g5, s5⟩
          obtain ⟨kk, hk, hkr⟩ := gb.get hx
          have hi : i < bs.length := (List.getElem?_eq_some_iff.mp hx).1
          obtain ⟨t', tn, b2, rfl, hT', hTn, hb2⟩ := hkr.same s5
          refine ⟨t', _, rfl, hT', rfl, .ref tn, _, rfl, b2, _, rfl, rfl, rfl, ?_⟩
          simp only [tYes, if_true]
          refine ⟨_, rfl, _, rfl, .inl ⟨_, _, rfl, rfl, le_line (by show 2 ≤ 16000000; decide), fun z hz => ?_⟩⟩
          have s6 : Same H5 (upd H5 z (.tup [b2, V.int ((q.2 : Int) + 1)])) := same_new hz
          have e6 := s6 _ _ e5
          refine ⟨cs, e6, ?_, cs ++ [.ref z], upd_same, ?_, Same.mut (s5.trans s6) hC⟩
          · rw [g5.length, List.length_map, List.length_take]
            exact lt_line (by omega)
          · rw [List.take_add_one, hk, List.map_append]
            exact ((g5.mono (RT.ts (Ts.of s6))).append (.cons ⟨z, b2, rfl, SqT.of upd_same, hb2⟩ .nil)).mono (RT.ts (Ts.put e6))
        · rintro H5 ⟨cs, e5, g5, s5⟩
          rw [List.take_of_length_le (by omega)] at g5
          have s35 := s4.trans s5
          have eR5 := s35 _ _ eR3
          have hlu : us.length ≤ 7 * many := by
            rw [List.length_append] at hlen
            have : [V.ref t].length = 1 := rfl
            omega
          have hlc : cs.length ≤ 7 := by
            rw [g5.length, List.length_map]
            omega
          refine ⟨R, C, us, cs, rfl, rfl, eR5, e5, le_line (by omega), ?_⟩
          have p6 : Ts K H5 (upd H5 R (.lst (us ++ cs))) := Ts.put eR5
          refine ⟨201 - (many + 1), by omega, us ++ cs, qs' ++ (kids q.1).map (fun k => (k.2, q.2 + 1)), many + 1, _, _, rfl, upd_same, ?_, hok, ?_, Same.mut (s23.trans s35) hR0, ?_, by omega, rfl⟩
          · exact ((gu3.mono (RT.ts (Ts.of s35))).append g5).mono (RT.ts p6)
          · intro e he
            rcases List.mem_append.mp he with he | he
            · exact hall e (List.mem_append_left _ he)
            · obtain ⟨kk, hk, rfl⟩ := List.mem_map.mp he
              exact ⟨hfk.mem (List.mem_map_of_mem (f := (·.2)) hk), by show q.2 + 1 ≤ 31; omega⟩
          · rw [List.length_append]
            omega
end

section
variable {P : Program} {w : World} {K : PySem.W.Frag} {mg : Str → Option Value} {base : Heap}
theorem ok_lunlike (D : DefAt K mg "_law_are_unlike" s_law_are_unlike ["_law_thing", "_law_often"]) (T : Bl mg) (C_law_is_name : CallOk P w K mg base 1 "_law_is_name" ["_law_thing"] (spIsName K)) : CallOk P w K mg base 2 "_law_are_unlike" ["_law_thing", "_law_often"] (spLUnlike K) := by
  refine D.ok sc_law_are_unlike (fun vs H Q E h => ?_) (fun f cdv A outer s H vs Q E hr h => ?_)
  · obtain ⟨N, v, d, n, m, o, rfl, _⟩ := h
    rfl
  · obtain ⟨N, v, d, n, m, o, rfl, hd, hf, hn, ho, k⟩ := h
    refine ⟨_, (pss_cons (ps_if (PW.pt (pw_or (pt_not (pt_val (pe_callB call_isD (by rfl) T.isinstance_ (by decide +kernel) (pa_cons (pv 0) (pa_cons (pe_bltn (v := .ty "tuple") (by rfl) T.tuple_ (by decide +kernel) rfl) pa_nil))))) (pw_or (pt_cmpR op_gt (pe_callB call_len_seq (by rfl) T.len_ (by decide +kernel) (pa_cons (pv 0) pa_nil)) (pv 1) (nomark _)) (pw_or1 (pt_not (pt_val (pe_callB (cr_all rfl) (by rfl) T.all_ (by decide +kernel) (pa_cons (pe_lc (own := [("_law_one", 2)]) (g := gName 2) (tt := tYes) rfl sc_law_are_unlike.nd (pi_tup (pv 0)) (blkOk_by (N := sl_law_are_unlike) (sc := defScope s_law_are_unlike) (by decide +kernel)) (fun _ _ _ _ _ => pg_name (i := 2) sc_law_are_unlike.nd rfl (Or.inl rfl)) (fun _ _ _ _ _ => pts_nil) (fun _ _ _ _ _ => (pe_callOk C_law_is_name hr (by omega) (by rfl) (pa_cons (pv 2) pa_nil)))) pa_nil)))))))) (pss_one (ps_ret pe_bl)) pss_nil)
        (pss_one (ps_ret (pe_cmpR op_eq (pe_lenSetT rfl (by rfl) T.len_ (by rfl) T.set_ (pv 0)) (pe_callB call_len_seq (by rfl) T.len_ (by decide +kernel) (pa_cons (pv 0) pa_nil)) (nomark _))))), ?_⟩
    refine ⟨_, rfl, N, v, d, "tuple", rfl, hd, .inr (.inl rfl), _, rfl, ?_⟩
    by_cases htu : tyD d = "tuple"
    · obtain ⟨ds, rfl⟩ := ty_tup htu
      obtain ⟨t, us, rfl, hT, hA⟩ := hd.tupInv
      have hlu := hA.length
      have fds := hf.inner
      refine iteF ?_
      refine ⟨_, rfl, t, us, rfl, .inr hT, _, rfl, _, _, rfl, rfl, _, rfl, ?_⟩
      by_cases hl : (ds.length : Int) ≤ o
      · rw [decide_eq_false (by rw [hlu]; omega)]
        refine iteF ?_
        have k1 : ∀ H', Same H H' → Q (.bl (ds.all isNameD && unlikeN (ds.map nmD))) H' := by
          intro H' s'
          have := k H' s'
          rwa [show lunl o (.tuple ds) = (ds.all isNameD && unlikeN (ds.map nmD)) by show (decide _ && _) = _; rw [decide_eq_true hl, Bool.true_and]] at this
        refine ⟨_, rfl, t, rfl, ⟨_, hT⟩, fun L hL => ?_⟩
        refine lc_tup (K := K) (xs := us) (fun i H' => H' L = some (.lst (((ds.take i).map isNameD).map V.bl)) ∧ Same H H') ⟨upd_same, same_new hL⟩ (fun i H' _ p => sqT_same p.2 hT) ?_ ?_
        · rintro i u H2 hu ⟨e2, s2⟩
          obtain ⟨dx, hdx, hxd⟩ := hA.get hu
          have hi : i < us.length := (List.getElem?_eq_some_iff.mp hu).1
          refine ⟨rfl, ?_⟩
          simp only [tYes, if_true]
          refine ⟨_, rfl, N, u, dx, n, m, rfl, hxd.same s2, fds.mem (List.mem_of_getElem? hdx), hn, fun H3 s3 => ⟨_, s3 _ _ e2, ?_, ?_, Same.mut (s2.trans s3) hL⟩⟩
          · rw [List.length_map, List.length_map, List.length_take]
            exact lt_line (by omega)
          · rw [upd_same, List.take_add_one, hdx, List.map_append, List.map_append]
            rfl
        · rintro H2 ⟨e2, s2⟩
          rw [List.take_of_length_le (by omega)] at e2
          have eall : (ds.map isNameD).all id = ds.all isNameD := by
            rw [List.all_map]
            rfl
          refine ⟨L, ds.map isNameD, rfl, SqL.of e2, ?_⟩
          rw [eall]
          cases hal : ds.all isNameD with
          | false =>
            refine ⟨_, rfl, iteT ?_⟩
            have := k1 H2 s2
            rwa [hal] at this
          | true =>
            refine ⟨_, rfl, iteF ?_⟩
            obtain ⟨xs, rfl, _⟩ := names_of hal
            have k2 := k1 H2 s2
            rw [hal, Bool.true_and, nm_map] at k2
            have hT2 := sqT_same s2 hT
            rw [da_strs hA] at hT2
            rw [List.length_map] at hl
            refine ⟨_, rfl, t, xs, rfl, .inl hT2, by omega, _, rfl, t, _, rfl, .inr hT2, rfl, ?_⟩
            rw [List.length_map, dec_intN]
            exact k2
      · rw [decide_eq_true (by rw [hlu]; omega)]
        refine iteT (iteT ?_)
        have := k H (Same.refl H)
        rwa [show lunl o (.tuple ds) = false by show (decide _ && _) = _; rw [decide_eq_false hl]; rfl] at this
    · rw [decide_eq_false htu]
      refine iteT (iteT ?_)
      rw [lunl_no htu] at k
      exact k H (Same.refl H)
end

section
variable {P : Program} {w : World} {K : PySem.W.Frag} {mg : Str → Option Value} {base : Heap}
theorem ok_sizes (D : DefAt K mg "_law_sizes" s_law_sizes ["_law_some"]) (T : Bl mg) : CallOk P w K mg base 1 "_law_sizes" ["_law_some"] spSizes := by
  refine D.ok sc_law_sizes (fun vs H Q E h => ?_) (fun f cdv A outer s H vs Q E hr h => ?_)
  · obtain ⟨a, os, rfl, _⟩ := h
    rfl
  · obtain ⟨a, os, rfl, ha, hl, k⟩ := h
    refine ⟨_, (pss_one (ps_ret (pe_ifExp (pt_cmpR op_in_seq pe_non (pv 0) (by rfl)) pe_non (pe_callB (cr_sum rfl) (by rfl) T.sum_ (by decide +kernel) (pa_cons (pv 0) pa_nil))))), ?_⟩
    refine ⟨_, rfl, a, _, rfl, .inl (SqL.of ha), rfl, flat_oV os, _, rfl, ?_⟩
    rw [if_neg Bool.false_ne_true]
    rcases sizes_in os with ⟨h1, h2⟩ | ⟨h1, ns, h2, h3⟩
    · rw [h1]
      refine iteT ?_
      rw [h2] at k
      exact k
    · rw [h1]
      refine iteF ?_
      rw [h3] at k
      refine ⟨_, rfl, a, ns.map Int.ofNat, rfl, SqL.of (by rw [ha, h2]), ?_⟩
      rw [sum_cast]
      exact k
end

section
variable {P : Program} {w : World} {K : PySem.W.Frag} {mg : Str → Option Value} {base : Heap}
theorem ok_sized (D : DefAt K mg "_law_sized" s_law_sized ["_law_thing", "_law_deep"]) (T : Bl mg) (C_law_is_name : CallOk P w K mg base 1 "_law_is_name" ["_law_thing"] (spIsName K)) (C_law_is_kind : CallOk P w K mg base 7 "_law_is_kind" ["_law_thing", "_law_deep"] (spKindW K 6))
    (C_law_are_unlike : CallOk P w K mg base 2 "_law_are_unlike" ["_law_thing", "_law_often"] (spLUnlike K)) (C_law_sizes : CallOk P w K mg base 1 "_law_sizes" ["_law_some"] spSizes) : ∀ n : Nat, CallOk P w K mg base (n + 9) "_law_sized" ["_law_thing", "_law_deep"] (spSized K n) := by
  have body : ∀ (n : Nat) (sp' : Sp), CallOk P w K mg base (n + 8) "_law_sized" ["_law_thing", "_law_deep"] sp' → (∀ j, n = j + 1 → sp' = spSized K j) → CallOk P w K mg base (n + 9) "_law_sized" ["_law_thing", "_law_deep"] (spSized K n) := by
    intro n sp' C_law_sized hsp
    refine D.ok sc_law_sized (fun vs H Q E h => ?_) (fun f cdv A outer s H vs Q E hr h => ?_)
    · obtain ⟨N, v, d, a, b, z, rfl, _⟩ := h
      rfl
    · obtain ⟨N, v, d, a, b, z, rfl, hz, hd, hf, hn8, k⟩ := h
      have hn : a ≤ 16000000 := by omega
      refine ⟨_, (pss_cons (ps_if (pt_cmpR op_le (pv 1) pe_int (nomark _)) (pss_one (ps_ret pe_non)) pss_nil)
        (pss_cons (ps_if (pt_val (pe_callOk C_law_is_name hr (by omega) (by rfl) (pa_cons (pv 0) pa_nil))) (pss_one (ps_ret pe_int)) pss_nil)
        (pss_cons (ps_if (PW.pt (pw_or (pt_not (pt_val (pe_callB call_isD (by rfl) T.isinstance_ (by decide +kernel) (pa_cons (pv 0) (pa_cons (pe_bltn (v := .ty "tuple") (by rfl) T.tuple_ (by decide +kernel) rfl) pa_nil))))) (pw_or (pt_cmpR (op_eqU hr.units) (pv 0) (pe_tup pa_nil) (nomark _)) (pw_or1 (pt_not (pt_val (pe_callB call_isD (by rfl) T.isinstance_ (by decide +kernel) (pa_cons (pe_ix ix_tup (pv 0) pe_int (fun _ _ => rfl)) (pa_cons (pe_bltn (v := .ty "str") (by rfl) T.str_ (by decide +kernel) rfl) pa_nil))))))))) (pss_one (ps_ret pe_non)) pss_nil)
        (pss_cons (ps_par (i := 2) (j := 3) (by rfl) sc_law_sized.nd rfl rfl (by decide) rfl rfl (pa_cons (pe_ix ix_tup (pv 0) pe_int (fun _ _ => rfl)) (pa_cons (pe_callB call_len_seq (by rfl) T.len_ (by decide +kernel) (pa_cons (pv 0) pa_nil)) pa_nil)) (by rfl))
        (pss_cons (ps_set (i := 4) sc_law_sized.nd rfl (Or.inl rfl) pe_non)
        (Evl.pss_cut (ps_if (PW.pt (pw_and (pt_cmpR op_eq (pv 2) pe_str (nomark _)) (pw_and (pt_cmpR op_eq (pv 3) pe_int (nomark _)) (pw_and1 (pt_val (pe_callOk C_law_is_name hr (by omega) (by rfl) (pa_cons (pe_ix ix_tup (pv 0) pe_int (fun _ _ => rfl)) pa_nil))))))) (pss_one (ps_set (i := 4) sc_law_sized.nd rfl (Or.inl rfl) (pe_lst pa_nil))) pss_nil)
        (Evl.pss_cut (ps_if (PW.pt (pw_and (pt_cmpR op_eq (pv 2) pe_str (nomark _)) (pw_and (pt_cmpR op_eq (pv 3) pe_int (nomark _)) (pw_and (pt_val (pe_callOk C_law_is_name hr (by omega) (by rfl) (pa_cons (pe_ix ix_tup (pv 0) pe_int (fun _ _ => rfl)) pa_nil))) (pw_and1 (pt_val (pe_callOk C_law_is_kind hr (by omega) (by rfl) (pa_cons (pe_ix ix_tup (pv 0) pe_int (fun _ _ => rfl)) (pa_cons pe_int pa_nil))))))))) (pss_one (ps_set (i := 4) sc_law_sized.nd rfl (Or.inl rfl) (pe_lst (pa_cons (pe_ix ix_tup (pv 0) pe_int (fun _ _ => rfl)) pa_nil)))) pss_nil)
        (Evl.pss_cut (ps_if (PW.pt (pw_and (pt_cmpR op_in_seq (pv 2) (pe_tup (pa_cons pe_str (pa_cons pe_str (pa_cons pe_str pa_nil)))) (by rfl)) (pw_and1 (pt_cmpR op_eq (pv 3) pe_int (nomark _))))) (pss_one (ps_set (i := 4) sc_law_sized.nd rfl (Or.inl rfl) (pe_lst (pa_cons (pe_ix ix_tup (pv 0) pe_int (fun _ _ => rfl)) (pa_cons (pe_ix ix_tup (pv 0) pe_int (fun _ _ => rfl)) pa_nil))))) pss_nil)
        (Evl.pss_cut (ps_if (PW.pt (pw_and (pt_cmpR op_in_seq (pv 2) (pe_tup (pa_cons pe_str (pa_cons pe_str pa_nil))) (by rfl)) (pw_and (pt_cmpR op_eq (pv 3) pe_int (nomark _)) (pw_and1 (pt_val (pe_callOk C_law_are_unlike hr (by omega) (by rfl) (pa_cons (pe_slice sl_tupA (pv 0) (po_some pe_int) (po_some pe_int)) (pa_cons pe_int pa_nil)))))))) (pss_one (ps_set (i := 4) sc_law_sized.nd rfl (Or.inl rfl) (pe_lst (pa_cons (pe_ix ix_tup (pv 0) pe_int (fun _ _ => rfl)) (pa_cons (pe_ix ix_tup (pv 0) pe_int (fun _ _ => rfl)) pa_nil))))) pss_nil)
        (Evl.pss_cut (ps_if (PW.pt (pw_and (pt_cmpR op_eq (pv 2) pe_str (nomark _)) (pw_and (pt_cmpR op_eq (pv 3) pe_int (nomark _)) (pw_and (pt_val (pe_callOk C_law_is_name hr (by omega) (by rfl) (pa_cons (pe_ix ix_tup (pv 0) pe_int (fun _ _ => rfl)) pa_nil))) (pw_and (pt_val (pe_callB call_isD (by rfl) T.isinstance_ (by decide +kernel) (pa_cons (pe_ix ix_tup (pv 0) pe_int (fun _ _ => rfl)) (pa_cons (pe_bltn (v := .ty "tuple") (by rfl) T.tuple_ (by decide +kernel) rfl) pa_nil)))) (pw_and1 (pt_cmpR op_lt (pe_callB call_len_seq (by rfl) T.len_ (by decide +kernel) (pa_cons (pe_ix ix_tup (pv 0) pe_int (fun _ _ => rfl)) pa_nil)) pe_int (nomark _)))))))) (pss_one (ps_set (i := 4) sc_law_sized.nd rfl (Or.inl rfl) (pe_callTy call_list_of (by rfl) T.list_ (by decide +kernel) (pa_cons (pe_ix ix_tup (pv 0) pe_int (fun _ _ => rfl)) pa_nil)))) pss_nil)
        (Evl.pss_cut (ps_if (PW.pt (pw_and (pt_cmpR op_eq (pv 2) pe_str (nomark _)) (pw_and (pt_cmpR op_eq (pv 3) pe_int (nomark _)) (pw_and (pt_val (pe_callB call_isD (by rfl) T.isinstance_ (by decide +kernel) (pa_cons (pe_ix ix_tup (pv 0) pe_int (fun _ _ => rfl)) (pa_cons (pe_bltn (v := .ty "tuple") (by rfl) T.tuple_ (by decide +kernel) rfl) pa_nil)))) (pw_and1 (pt_chain op_le op_le pe_int (pe_callB call_len_seq (by rfl) T.len_ (by decide +kernel) (pa_cons (pe_ix ix_tup (pv 0) pe_int (fun _ _ => rfl)) pa_nil)) pe_int)))))) (pss_cons (ps_setLc (i := 5) (own := [("_law_one", 6)]) (g := gName 6) (tt := tYes) rfl sc_law_sized.nd rfl rfl (sw_true rfl rfl rfl (by decide +kernel)) (pi_tup (pe_ix ix_tup (pv 0) pe_int (fun _ _ => rfl))) (blkOk_by (N := sl_law_sized) (sc := defScope s_law_sized) (by decide +kernel)) (fun _ _ _ _ _ => pg_name (i := 6) sc_law_sized.nd rfl (Or.inl rfl)) (fun _ _ _ _ _ => pts_nil) (fun _ _ _ _ _ => (pe_and (pe_callB (isDK (K := K) rfl) (by rfl) T.isinstance_ (by decide +kernel) (pa_cons (pv 6) (pa_cons (pe_bltn (v := .ty "tuple") (by rfl) T.tuple_ (by decide +kernel) rfl) pa_nil))) (pe_one (pe_cmpR op_eq (pe_callB (lenK (K := K) rfl) (by rfl) T.len_ (by decide +kernel) (pa_cons (pv 6) pa_nil)) pe_int (nomark _))))))
        (pss_one (ps_if (PW.pt (pw_and (pt_val (pe_callB (cr_all rfl) (by rfl) T.all_ (by decide +kernel) (pa_cons (pv 5) pa_nil))) (pw_and1 (pt_val (pe_callB (cr_all rfl) (by rfl) T.all_ (by decide +kernel) (pa_cons (pe_lc (own := [("_law_one", 6)]) (g := gName 6) (tt := tYes) rfl sc_law_sized.nd (pi_tup (pe_ix ix_tup (pv 0) pe_int (fun _ _ => rfl))) (blkOk_by (N := sl_law_sized) (sc := defScope s_law_sized) (by decide +kernel)) (fun _ _ _ _ _ => pg_name (i := 6) sc_law_sized.nd rfl (Or.inl rfl)) (fun _ _ _ _ _ => pts_nil) (fun _ _ _ _ _ => (pe_and (pe_callOk C_law_is_name hr (by omega) (by rfl) (pa_cons (pe_ix (ix_tupK (K := K) rfl) (pv 6) pe_int (fun _ _ => rfl)) pa_nil)) (pe_one (pe_callOk C_law_are_unlike hr (by omega) (by rfl) (pa_cons (pe_ix (ix_tupK (K := K) rfl) (pv 6) pe_int (fun _ _ => rfl)) (pa_cons pe_int pa_nil))))))) pa_nil)))))) (pss_one (ps_set (i := 4) sc_law_sized.nd rfl (Or.inl rfl) (pe_op opAdd (pe_lst (pa_cons (pe_ix ix_tup (pv 0) pe_int (fun _ _ => rfl)) pa_nil)) (pe_lc (own := [("_law_one", 6)]) (g := gName 6) (tt := tYes) rfl sc_law_sized.nd (pi_tup (pe_ix ix_tup (pv 0) pe_int (fun _ _ => rfl))) (blkOk_by (N := sl_law_sized) (sc := defScope s_law_sized) (by decide +kernel)) (fun _ _ _ _ _ => pg_name (i := 6) sc_law_sized.nd rfl (Or.inl rfl)) (fun _ _ _ _ _ => pts_nil) (fun _ _ _ _ _ => (pe_ix (ix_tupK (K := K) rfl) (pv 6) pe_int (fun _ _ => rfl))))))) pss_nil))) pss_nil)
        (pss_cons (ps_if (pt_cmpR op_isN (pv 4) pe_non (nomark _)) (pss_one (ps_ret pe_non)) pss_nil)
        (pss_cons (ps_set (i := 7) sc_law_sized.nd rfl (Or.inl rfl) (pe_callOk C_law_sizes hr (by omega) (by rfl) (pa_cons (pe_lc (own := [("_law_one", 6)]) (g := gName 6) (tt := tYes) rfl sc_law_sized.nd (pi_list (pv 4)) (blkOk_by (N := sl_law_sized) (sc := defScope s_law_sized) (by decide +kernel)) (fun _ _ _ _ _ => pg_name (i := 6) sc_law_sized.nd rfl (Or.inl rfl)) (fun _ _ _ _ _ => pts_nil) (fun _ _ _ _ _ => (pe_callOk C_law_sized hr (by omega) (by rfl) (pa_cons (pv 6) (pa_cons (pe_op op_sub (pv 1) pe_int) pa_nil))))) pa_nil)))
        (pss_one (ps_ret (pe_ifExp (pt_cmpR op_isN (pv 7) pe_non (nomark _)) pe_non (pe_op opAdd pe_int (pv 7)))))))))))))))))), ?_⟩
      refine ⟨_, rfl, _, _, rfl, rfl, _, rfl, ?_⟩
      by_cases h0 : z ≤ 0
      · obtain rfl : n = 0 := by omega
        rw [decide_eq_true h0]
        exact iteT (k H (Same.refl H))
      rw [decide_eq_false h0]
      refine iteF ?_
      obtain ⟨j, rfl⟩ : ∃ j, n = j + 1 := ⟨n - 1, by omega⟩
      obtain rfl := hsp j rfl
      refine ⟨_, rfl, N, v, d, a, b, rfl, hd, hf, hn, fun H1 s1 => ⟨_, rfl, ?_⟩⟩
      cases hnm : isNameD d with
      | true =>
        refine iteT ?_
        rw [sized_name hnm] at k
        exact k H1 s1
      | false =>
        refine iteF ?_
        have hd1 := hd.same s1
        refine ⟨_, rfl, N, v, d, "tuple", rfl, hd1, .inr (.inl rfl), _, rfl, ?_⟩
        by_cases htu : tyD d = "tuple"
        · obtain ⟨ds, rfl⟩ := ty_tup htu
          obtain ⟨t, xs, rfl, hT0, hA⟩ := hd.tupInv
          have hT := sqT_same s1 hT0
          refine iteF ?_
          refine ⟨_, rfl, Nat.zero_le _, fun q hq => ?_⟩
          have sq : Same H1 (upd H1 q (.tup [])) := same_new hq
          refine ⟨t, q, xs, rfl, rfl, sqT_same sq hT, SqT.of upd_same, _, rfl, ?_⟩
          cases ds with
          | nil =>
            obtain rfl := hA.un0
            refine iteT (iteT ?_)
            rw [sized_no rfl] at k
            exact k _ (s1.trans sq)
          | cons d0 r =>
            obtain ⟨x0, ys, rfl, g0, hB⟩ := hA.unc
            have hlr := hB.length
            refine iteF ?_
            have hT1 := sqT_same sq hT
            refine ⟨_, rfl, t, _, 0, _, rfl, rfl, hT1, at_zero, N, x0, d0, "str", rfl, (g0.same s1).same sq, .inl rfl, _, rfl, ?_⟩
            by_cases hs0 : tyD d0 = "str"
            · obtain ⟨sgn, rfl⟩ := ty_str hs0
              obtain rfl := g0.strInv
              refine iteF ?_
              refine ⟨_, rfl, t, _, 0, _, rfl, rfl, hT1, at_zero, _, rfl, t, _, rfl, .inr hT1, ?_⟩
              refine ⟨_, _, rfl, ?_⟩
              have fr := hf.inner
              have s0 := s1.trans sq
              refine ⟨MidS K N H [Str.ofString "@"] (.ref t) z sgn (V.str sgn :: ys).length (.tuple (.str sgn :: r)), ?_, ?_⟩
              · have s2 := s0
                have hout : sgn ∉ ([] : List Str) → V.non = V.non := fun _ => rfl
                have hin : sgn ∈ ([] : List Str) → Res K N (.tuple (.str sgn :: r)) (upd H1 q (HO.tup [])) V.non := fun z => nomatch z
                have hT2 := sqT_same s2 hT0
                have hB2 := hB.same s2
                refine ⟨_, rfl, rfl, _, rfl, ?_⟩
                by_cases e : sgn = Str.ofString "@"
                case neg => exact iteSF e (iteF (MidS.skip s2 hin hout (Same.refl _) (fun h => by simpa [e] using h) (fun h => List.mem_cons_of_mem _ h)))
                subst e
                have hv := hout (by decide +kernel)
                refine iteST rfl ?_
                refine ⟨_, rfl, rfl, _, rfl, ?_⟩
                by_cases hl : r.length = 1
                case neg => exact iteDN (len_ne (k := 1) hlr hl rfl) (iteF (MidS.no s2 hv (fd_len f_at hl)))
                obtain ⟨a0, rfl⟩ := len1 hl
                obtain ⟨y0, us0, rfl, k0, kB0⟩ := hB2.unc
                obtain rfl := kB0.un0
                refine iteD rfl ?_
                refine ⟨_, rfl, t, _, 1, _, rfl, rfl, hT2, rfl, N, y0, a0, a, b, rfl, k0, (fr.mem (d := a0) (by simp)), hn, fun H3 s3 => ⟨_, rfl, ?_⟩⟩
                cases hna : isNameD a0 with
                | true => exact iteT ⟨Nat.zero_le _, fun L hL => MidS.yes (s2.trans (Same.lay s3 hL)) (by simp) (by rw [fd_at, hna]) upd_same .nil⟩
                | false => exact iteF (MidS.no (s2.trans s3) hv (by rw [fd_at, hna]))
              rintro σ H2 ⟨vi, v5, v6, rfl, s2, hin, hout⟩
              refine ⟨MidS K N H [Str.ofString "^", Str.ofString "@"] (.ref t) z sgn (V.str sgn :: ys).length (.tuple (.str sgn :: r)), ?_, ?_⟩
              · skip
                have hT2 := sqT_same s2 hT0
                have hB2 := hB.same s2
                refine ⟨_, rfl, rfl, _, rfl, ?_⟩
                by_cases e : sgn = Str.ofString "^"
                case neg => exact iteSF e (iteF (MidS.skip s2 hin hout (Same.refl _) (fun h => by simpa [e] using h) (fun h => List.mem_cons_of_mem _ h)))
                subst e
                have hv := hout (by decide +kernel)
                refine iteST rfl ?_
                refine ⟨_, rfl, rfl, _, rfl, ?_⟩
                by_cases hl : r.length = 3
                case neg => exact iteDN (len_ne (k := 3) hlr hl rfl) (iteF (MidS.no s2 hv (fd_len f_lam hl)))
                obtain ⟨a0, b0, c0, rfl⟩ := len3 hl
                obtain ⟨y0, us0, rfl, k0, kB0⟩ := hB2.unc
                obtain ⟨y1, us1, rfl, k1, kB1⟩ := kB0.unc
                obtain ⟨y2, us2, rfl, k2, kB2⟩ := kB1.unc
                obtain rfl := kB2.un0
                refine iteD rfl ?_
                refine ⟨_, rfl, t, _, 1, _, rfl, rfl, hT2, rfl, N, y0, a0, a, b, rfl, k0, (fr.mem (d := a0) (by simp)), hn, fun H3 s3 => ⟨_, rfl, ?_⟩⟩
                cases hna : isNameD a0 with
                | false => exact iteF (iteF (MidS.no (s2.trans s3) hv (by rw [fd_lam, hna]; rfl)))
                | true =>
                  refine iteT ⟨_, rfl, t, _, 2, _, rfl, rfl, sqT_same s3 hT2, rfl, N, y1, b0, a, b, 6, rfl, rfl, by decide, k1.same s3, (fr.mem (d := b0) (by simp)), hn, fun H4 s4 => ⟨_, rfl, ?_⟩⟩
                  have s24 := (s2.trans s3).trans s4
                  cases hkb : kindW 6 b0 with
                  | false => exact iteF (MidS.no s24 hv (by rw [fd_lam, hna, hkb]; rfl))
                  | true =>
                    refine iteT ⟨_, rfl, t, _, 3, _, rfl, rfl, sqT_same s24 hT0, rfl, le_line (by show 1 ≤ 16000000; decide), fun L hL => MidS.yes (Same.lay s24 hL) (by simp) (by rw [fd_lam, hna, hkb]; rfl) upd_same ?_⟩
                    exact .cons (((k2.same s3).same s4).same (same_new hL)) .nil
              rintro σ H2 ⟨vi, v5, v6, rfl, s2, hin, hout⟩
              refine ⟨MidS K N H [Str.ofString "!", Str.ofString "&", Str.ofString "-", Str.ofString "^", Str.ofString "@"] (.ref t) z sgn (V.str sgn :: ys).length (.tuple (.str sgn :: r)), ?_, ?_⟩
              · skip
                have hT2 := sqT_same s2 hT0
                have hB2 := hB.same s2
                refine ⟨_, rfl, le_line (by show 3 ≤ 16000000; decide), fun q2 hq2 => ⟨q2, m3.map V.str, rfl, .inr (SqT.of upd_same), rfl, rfl, _, rfl, ?_⟩⟩
                have sq2 : Same _ (upd _ q2 (.tup (m3.map V.str))) := same_new hq2
                by_cases e : sgn ∈ m3
                case neg =>
                  refine iteInF e (iteF (MidS.skip s2 hin hout sq2 (fun h => ?_) (fun h => ?_)))
                  · simp only [List.mem_cons, List.not_mem_nil, or_false, not_or] at h e ⊢
                    grind
                  · simp only [List.mem_cons, List.not_mem_nil, or_false] at h ⊢
                    grind
                have hv := hout (fun h => by
                  simp only [List.mem_cons, List.not_mem_nil, or_false] at e h
                  rcases e with rfl | rfl | rfl <;> revert h <;> decide +kernel)
                refine iteInT e ?_
                have s2 := s2.trans sq2
                have hT2 := sqT_same s2 hT0
                have hB2 := hB.same s2
                refine ⟨_, rfl, rfl, _, rfl, ?_⟩
                by_cases hl : r.length = 2
                case neg => exact iteDN (len_ne (k := 2) hlr hl rfl) (MidS.no s2 hv (fd_len (f_two e) hl))
                obtain ⟨a0, b0, rfl⟩ := len2 hl
                obtain ⟨y0, us0, rfl, k0, kB0⟩ := hB2.unc
                obtain ⟨y1, us1, rfl, k1, kB1⟩ := kB0.unc
                obtain rfl := kB1.un0
                refine iteD rfl ?_
                refine ⟨_, rfl, t, _, 1, _, rfl, rfl, hT2, rfl, _, rfl, t, _, 2, _, rfl, rfl, hT2, rfl, le_line (by show 2 ≤ 16000000; decide), fun L hL => MidS.yes (Same.lay s2 hL) ?_ (fd_two e a0 b0) upd_same ?_⟩
                · simp only [List.mem_cons, List.not_mem_nil, or_false] at e ⊢
                  grind
                · rw [kids_two _ _ e]
                  exact .cons (k0.same (same_new hL)) (.cons (k1.same (same_new hL)) .nil)
              rintro σ H2 ⟨vi, v5, v6, rfl, s2, hin, hout⟩
              refine ⟨MidS K N H [Str.ofString "/", Str.ofString "+", Str.ofString "!", Str.ofString "&", Str.ofString "-", Str.ofString "^", Str.ofString "@"] (.ref t) z sgn (V.str sgn :: ys).length (.tuple (.str sgn :: r)), ?_, ?_⟩
              · skip
                have hT2 := sqT_same s2 hT0
                have hB2 := hB.same s2
                refine ⟨_, rfl, le_line (by show 2 ≤ 16000000; decide), fun q2 hq2 => ⟨q2, m2.map V.str, rfl, .inr (SqT.of upd_same), rfl, rfl, _, rfl, ?_⟩⟩
                have sq2 : Same _ (upd _ q2 (.tup (m2.map V.str))) := same_new hq2
                by_cases e : sgn ∈ m2
                case neg =>
                  refine iteInF e (iteF (MidS.skip s2 hin hout sq2 (fun h => ?_) (fun h => ?_)))
                  · simp only [List.mem_cons, List.not_mem_nil, or_false, not_or] at h e ⊢
                    grind
                  · simp only [List.mem_cons, List.not_mem_nil, or_false] at h ⊢
                    grind
                have hv := hout (fun h => by
                  simp only [List.mem_cons, List.not_mem_nil, or_false] at e h
                  rcases e with rfl | rfl <;> revert h <;> decide +kernel)
                refine iteInT e ?_
                have s2 := s2.trans sq2
                have hT2 := sqT_same s2 hT0
                have hB2 := hB.same s2
                refine ⟨_, rfl, rfl, _, rfl, ?_⟩
                by_cases hl : r.length = 4
                case neg => exact iteDN (len_ne (k := 4) hlr hl rfl) (iteF (MidS.no s2 hv (fd_len (f_five e) hl)))
                obtain ⟨a0, b0, c0, e0, rfl⟩ := len4 hl
                obtain ⟨y0, us0, rfl, k0, kB0⟩ := hB2.unc
                obtain ⟨y1, us1, rfl, k1, kB1⟩ := kB0.unc
                obtain ⟨y2, us2, rfl, k2, kB2⟩ := kB1.unc
                obtain ⟨y3, us3, rfl, k3, kB3⟩ := kB2.unc
                obtain rfl := kB3.un0
                refine iteD rfl ?_
                refine ⟨_, rfl, 2, rfl, 4, rfl, cut_any hT2 fun c3 H3 s3 hT3 => ?_⟩
                have hT3 : SqT K H3 c3 [y1, y2] := hT3
                have fx : Fit (a + 4) (b + 1) (.tuple [b0, c0]) := Fit.tup (FitAll.sub (.cons _ (.cons _ (.cons_cons _ (.cons_cons _ (.cons _ .slnil))))) fr)
                have s23 := s2.trans s3
                refine ⟨N, .ref c3, .tuple [b0, c0], a + 4, b + 1, 2, rfl, .tup hT3 (.cons (k1.same s3) (.cons (k2.same s3) .nil)), fx, by omega, by decide, fun H4 s4 => ⟨_, rfl, ?_⟩⟩
                have s24 := s23.trans s4
                cases hlu : lunl 2 (.tuple [b0, c0]) with
                | false => exact iteF (MidS.no s24 hv (by rw [fd_five e, hlu]))
                | true =>
                  refine iteT ⟨_, rfl, t, _, 1, _, rfl, rfl, sqT_same s24 hT0, rfl, _, rfl, t, _, 4, _, rfl, rfl, sqT_same s24 hT0, rfl, le_line (by show 2 ≤ 16000000; decide), fun L hL => MidS.yes (Same.lay s24 hL) ?_ (by rw [fd_five e, hlu]) upd_same ?_⟩
                  · simp only [List.mem_cons, List.not_mem_nil, or_false] at e ⊢
                    grind
                  · exact .cons (((k0.same s3).same s4).same (same_new hL)) (.cons (((k3.same s3).same s4).same (same_new hL)) .nil)
              rintro σ H2 ⟨vi, v5, v6, rfl, s2, hin, hout⟩
              refine ⟨MidS K N H [Str.ofString "#", Str.ofString "/", Str.ofString "+", Str.ofString "!", Str.ofString "&", Str.ofString "-", Str.ofString "^", Str.ofString "@"] (.ref t) z sgn (V.str sgn :: ys).length (.tuple (.str sgn :: r)), ?_, ?_⟩
              · have hT2 := sqT_same s2 hT0
                have hB2 := hB.same s2
                refine ⟨_, rfl, rfl, _, rfl, ?_⟩
                by_cases e : sgn = Str.ofString "#"
                case neg => exact iteSF e (iteF (MidS.skip s2 hin hout (Same.refl _) (fun h => by simpa [e] using h) (fun h => List.mem_cons_of_mem _ h)))
                subst e
                have hv := hout (by decide +kernel)
                refine iteST rfl ?_
                refine ⟨_, rfl, rfl, _, rfl, ?_⟩
                by_cases hl : r.length = 2
                case neg => exact iteDN (len_ne (k := 2) hlr hl rfl) (iteF (MidS.no s2 hv (fd_len f_mk hl)))
                obtain ⟨a0, b0, rfl⟩ := len2 hl
                obtain ⟨y0, us0, rfl, k0, kB0⟩ := hB2.unc
                obtain ⟨y1, us1, rfl, k1, kB1⟩ := kB0.unc
                obtain rfl := kB1.un0
                refine iteD rfl ?_
                refine ⟨_, rfl, t, _, 1, _, rfl, rfl, hT2, rfl, N, y0, a0, a, b, rfl, k0, (fr.mem (d := a0) (by simp)), hn, fun H3 s3 => ⟨_, rfl, ?_⟩⟩
                have s23 := s2.trans s3
                cases hna : isNameD a0 with
                | false => exact iteF (iteF (MidS.no s23 hv (by rw [fd_mk, hna]; rfl)))
                | true =>
                  refine iteT ⟨_, rfl, t, _, 2, _, rfl, rfl, sqT_same s3 hT2, rfl, N, y1, b0, "tuple", rfl, k1.same s3, .inr (.inl rfl), _, rfl, ?_⟩
                  by_cases htb : tyD b0 = "tuple"
                  case neg => exact iteDN htb (iteF (MidS.no s23 hv (by rw [fd_mk, hna, row_no htb]; rfl)))
                  obtain ⟨ts, rfl⟩ := ty_tup htb
                  obtain ⟨t2, zs, rfl, hTz, hAz⟩ := (k1.same s3).tupInv
                  have hlz := hAz.length
                  refine iteD rfl ?_
                  refine ⟨_, rfl, t, _, 2, _, rfl, rfl, sqT_same s3 hT2, rfl, t2, _, rfl, .inr hTz, _, _, rfl, rfl, _, rfl, ?_⟩
                  by_cases h5 : (zs.length : Int) < 5
                  case neg => exact iteDN h5 (MidS.no s23 hv (by rw [fd_mk, hna, row_big (by omega)]; rfl))
                  refine iteD h5 ?_
                  refine ⟨_, rfl, t, _, 2, _, rfl, rfl, sqT_same s3 hT2, rfl, t2, _, rfl, .inr hTz, fun L hL => MidS.yes (Same.lay s23 hL) (by simp) (by rw [fd_mk, hna, row_ok (by omega) (by omega)]; rfl) upd_same ?_⟩
                  rw [kids_mk, List.map_map]
                  rw [show ts.map ((fun x : List Str × PyData => x.2) ∘ fun t => ([], t)) = ts from List.map_id _]
                  exact hAz.same (same_new hL)
              rintro σ H2 ⟨vi, v5, v6, rfl, s2, hin, hout⟩
              refine ⟨MidS K N H [Str.ofString "?", Str.ofString "#", Str.ofString "/", Str.ofString "+", Str.ofString "!", Str.ofString "&", Str.ofString "-", Str.ofString "^", Str.ofString "@"] (.ref t) z sgn (V.str sgn :: ys).length (.tuple (.str sgn :: r)), ?_, ?_⟩
              · have hT2 := sqT_same s2 hT0
                have hB2 := hB.same s2
                refine ⟨_, rfl, rfl, _, rfl, ?_⟩
                by_cases e : sgn = Str.ofString "?"
                case neg => exact iteSF e (iteF (MidS.skip s2 hin hout (Same.refl _) (fun h => by simpa [e] using h) (fun h => List.mem_cons_of_mem _ h)))
                subst e
                have hv := hout (by decide +kernel)
                refine iteST rfl ?_
                refine ⟨_, rfl, rfl, _, rfl, ?_⟩
                by_cases hl : r.length = 2
                case neg => exact iteDN (len_ne (k := 2) hlr hl rfl) (iteF (MidS.no s2 hv (fd_len f_ch hl)))
                obtain ⟨a0, b0, rfl⟩ := len2 hl
                obtain ⟨y0, us0, rfl, k0, kB0⟩ := hB2.unc
                obtain ⟨y1, us1, rfl, k1, kB1⟩ := kB0.unc
                obtain rfl := kB1.un0
                refine iteD rfl ?_
                refine ⟨_, rfl, t, _, 2, _, rfl, rfl, hT2, rfl, N, y1, b0, "tuple", rfl, k1, .inr (.inl rfl), _, rfl, ?_⟩
                by_cases htb : tyD b0 = "tuple"
                case neg => exact iteDN htb (iteF (MidS.no s2 hv (by rw [fd_ch, row_no htb]; rfl)))
                obtain ⟨ts, rfl⟩ := ty_tup htb
                obtain ⟨t2, zs, rfl, hTz, hAz⟩ := k1.tupInv
                have hlz := hAz.length
                refine iteD rfl ?_
                refine ⟨_, rfl, t, _, 2, _, rfl, rfl, hT2, rfl, t2, _, rfl, .inr hTz, _, _, rfl, rfl, _, rfl, ?_⟩
                by_cases h1 : (1 : Int) ≤ (zs.length : Int)
                case neg => exact iteDN h1 ⟨_, rfl, iteF (MidS.no s2 hv (by rw [fd_ch, row_is, decide_eq_false (by omega)]; rfl))⟩
                refine iteD h1 ⟨_, _, rfl, rfl, _, rfl, ?_⟩
                by_cases h6 : (zs.length : Int) ≤ 6
                case neg => exact iteDN h6 (MidS.no s2 hv (by rw [fd_ch, row_big (by omega)]; rfl))
                refine iteD h6 ?_
                have hrw : isRowD (.tuple ts) 1 6 = true := row_ok (by omega) (by omega)
                refine ⟨_, rfl, t, _, 2, _, rfl, rfl, hT2, rfl, t2, rfl, ⟨_, hTz⟩, fun L hL => ?_⟩
                refine lc_tup (K := K) (xs := zs) (fun i H' => H' L = some (.lst (((ts.take i).map fun d => isRowD d 3 3).map V.bl)) ∧ Same H2 H') ⟨upd_same, same_new hL⟩ (fun i H' _ p => sqT_same p.2 hTz) ?_ ?_
                · rintro i u H3 hu ⟨e3, s3⟩
                  obtain ⟨dx, hdx, hxd⟩ := hAz.get hu
                  have hi : i < zs.length := (List.getElem?_eq_some_iff.mp hu).1
                  have fin : ∀ bb, bb = isRowD dx 3 3 → ∃ acc, H3 L = some (.lst acc) ∧ acc.length < sizeLine ∧ (upd H3 L (.lst (acc ++ [V.bl bb]))) L = some (.lst (((ts.take (i + 1)).map fun d => isRowD d 3 3).map V.bl)) ∧ Same H2 (upd H3 L (.lst (acc ++ [V.bl bb]))) := by
                    rintro bb rfl
                    refine ⟨_, e3, ?_, ?_, Same.mut s3 hL⟩
                    · rw [List.length_map, List.length_map, List.length_take]
                      exact lt_line (by omega)
                    · rw [upd_same, List.take_add_one, hdx, List.map_append, List.map_append]
                      rfl
                  refine ⟨rfl, ?_⟩
                  simp only [tYes, if_true]
                  refine ⟨_, rfl, N, u, dx, "tuple", rfl, hxd.same s3, .inr (.inl rfl), _, rfl, ?_⟩
                  by_cases htx : tyD dx = "tuple"
                  · obtain ⟨es, rfl⟩ := ty_tup htx
                    obtain ⟨tx, ws, rfl, hTx, hAx⟩ := (hxd.same s3).tupInv
                    refine iteD rfl ⟨_, rfl, tx, ws, rfl, .inr hTx, rfl, fin _ ?_⟩
                    rw [hAx.length]
                    exact row_len es
                  · exact iteDN htx (fin false (row_no htx).symm)
                rintro H3 ⟨e3, s3⟩
                rw [List.take_of_length_le (by omega)] at e3
                have s23 := s2.trans s3
                have hTz3 := sqT_same s3 hTz
                have eall : ∀ g : PyData → Bool, (ts.map g).all id = ts.all g := fun g => by
                  rw [List.all_map]
                  rfl
                refine ⟨_, rfl, L, _, rfl, SqL.of e3, _, rfl, ?_⟩
                rw [eall]
                cases hgo : ts.all (fun d => isRowD d 3 3) with
                | false => exact iteF (iteF (MidS.no s23 hv (by rw [fd_ch, show (itD (.tuple ts)).all caseOk = false from rows_no hgo, Bool.and_false])))
                | true =>
                  refine iteT ?_
                  rw [List.all_eq_true] at hgo
                  refine ⟨_, rfl, t, _, 2, _, rfl, rfl, sqT_same s3 hT2, rfl, t2, rfl, ⟨_, hTz3⟩, fun L2 hL2 => ?_⟩
                  refine lc_tup (K := K) (xs := zs) (fun i H' => H' L2 = some (.lst (((ts.take i).map caseOk).map V.bl)) ∧ Same H3 H') ⟨upd_same, same_new hL2⟩ (fun i H' _ p => sqT_same p.2 hTz3) ?_ ?_
                  · rintro i u H4 hu ⟨e4, s4⟩
                    obtain ⟨dx, hdx, hxd⟩ := hAz.get hu
                    have hi : i < zs.length := (List.getElem?_eq_some_iff.mp hu).1
                    have hmx := List.mem_of_getElem? hdx
                    obtain ⟨m1, n1, u1, rfl⟩ := row3 (hgo dx hmx)
                    obtain ⟨tx, w1, w2, w3, rfl, hTx, j1, j2, j3⟩ := ((hxd.same s3).same s4).tup3
                    have fx : Fit a b (.tuple [m1, n1, u1]) := (fr.mem (d := .tuple ts) (by simp)).inner.mem hmx
                    obtain ⟨fm, fn⟩ : Fit a b m1 ∧ Fit a b n1 := ⟨(fit3 fx).1, (fit3 fx).2.1⟩
                    have fin : ∀ bb H5, Same H4 H5 → bb = caseOk (.tuple [m1, n1, u1]) → ∃ acc, H5 L2 = some (.lst acc) ∧ acc.length < sizeLine ∧ (upd H5 L2 (.lst (acc ++ [V.bl bb]))) L2 = some (.lst (((ts.take (i + 1)).map caseOk).map V.bl)) ∧ Same H3 (upd H5 L2 (.lst (acc ++ [V.bl bb]))) := by
                      rintro bb H5 s5 rfl
                      refine ⟨_, s5 _ _ e4, ?_, ?_, Same.mut (s4.trans s5) hL2⟩
                      · rw [List.length_map, List.length_map, List.length_take]
                        exact lt_line (by omega)
                      · rw [upd_same, List.take_add_one, hdx, List.map_append, List.map_append]
                        rfl
                    refine ⟨rfl, ?_⟩
                    simp only [tYes, if_true]
                    refine ⟨_, rfl, tx, _, 0, _, rfl, rfl, hTx, rfl, N, w1, m1, a, b, rfl, j1, fm, hn, fun H5 s5 => ⟨_, rfl, ?_⟩⟩
                    cases hm1 : isNameD m1 with
                    | false => exact iteF (fin false H5 s5 (by rw [case_lunl, hm1]; rfl))
                    | true =>
                      refine iteT ⟨_, rfl, tx, _, 1, _, rfl, rfl, sqT_same s5 hTx, rfl, N, w2, n1, a, b, 4, rfl, j2.same s5, fn, hn, by decide, fun H6 s6 => fin _ H6 (s5.trans s6) ?_⟩
                      rw [case_lunl, hm1, Bool.true_and]
                  rintro H4 ⟨e4, s4⟩
                  rw [List.take_of_length_le (by omega)] at e4
                  have s24 := s23.trans s4
                  refine ⟨L2, _, rfl, SqL.of e4, _, rfl, ?_⟩
                  rw [eall]
                  cases hca : ts.all caseOk with
                  | false => exact iteF (MidS.no s24 hv (by rw [fd_ch, show (itD (.tuple ts)).all caseOk = false from hca, Bool.and_false]))
                  | true =>
                    refine iteT ?_
                    have s34 := s3.trans s4
                    refine ⟨_, rfl, t, _, 1, _, rfl, rfl, sqT_same s34 hT2, rfl, le_line (by show 1 ≤ 16000000; decide), fun L3 hL3 => ?_⟩
                    have s5 : Same H4 (upd H4 L3 (.lst [y0])) := same_new hL3
                    have s35 := s34.trans s5
                    refine ⟨_, rfl, t, _, 2, _, rfl, rfl, sqT_same s35 hT2, rfl, t2, rfl, ⟨_, sqT_same s35 hTz⟩, fun L4 hL4 => ?_⟩
                    refine lc_tup (K := K) (xs := zs) (fun i H' => ∃ us, H' L4 = some (.lst us) ∧ DaAll K N H2 us ((ts.take i).map fun c => (caseD c).2) ∧ Same (upd H4 L3 (.lst [y0])) H') ⟨[], upd_same, .nil, same_new hL4⟩ (fun i H' _ p => sqT_same (s35.trans p.choose_spec.2.2) hTz) ?_ ?_
                    · rintro i u H5 hu ⟨us, e5, g5, s6⟩
                      obtain ⟨dx, hdx, hxd⟩ := hAz.get hu
                      have hi : i < zs.length := (List.getElem?_eq_some_iff.mp hu).1
                      obtain ⟨m1, n1, u1, rfl⟩ := row3 (hgo dx (List.mem_of_getElem? hdx))
                      obtain ⟨tx, w1, w2, w3, rfl, hTx, j1, j2, j3⟩ := hxd.tup3
                      refine ⟨rfl, ?_⟩
                      simp only [tYes, if_true]
                      refine ⟨_, rfl, tx, _, 2, _, rfl, rfl, sqT_same (s35.trans s6) hTx, rfl, us, e5, ?_, us ++ [w3], upd_same, ?_, Same.mut s6 hL4⟩
                      · rw [g5.length, List.length_map, List.length_take]
                        exact lt_line (by omega)
                      · rw [List.take_add_one, hdx, List.map_append]
                        refine g5.append (.cons ?_ .nil)
                        have hcx : caseOk (.tuple [m1, n1, u1]) = true := List.all_eq_true.mp hca _ (List.mem_of_getElem? hdx)
                        exact j3
                    · rintro H5 ⟨us, e5, g5, s6⟩
                      rw [List.take_of_length_le (by omega)] at g5
                      have hlg := g5.length
                      rw [List.length_map] at hlg
                      refine .inr (.inr (.inr ⟨L3, L4, [y0], us, rfl, rfl, s6 _ _ upd_same, e5, ?_, fun F hF => ?_⟩))
                      · rw [List.length_cons, List.length_nil]
                        exact le_line (by omega)
                      · have s7 := Same.trans (s35.trans s6) (same_new (o := .lst ([y0] ++ us)) hF)
                        refine MidS.yes (s2.trans s7) (by simp) (by rw [fd_ch, hrw, show (itD (.tuple ts)).all caseOk = true from hca]; rfl) upd_same ?_
                        rw [kids_all hca]
                        exact .cons (k0.same s7) (g5.same s7)
              rintro σ H2 ⟨vi, v5, v6, rfl, s2, hin, hout⟩
              have res : Res K N (.tuple (.str sgn :: r)) H2 vi := by
                by_cases hS : sgn ∈ S6
                · exact hin hS
                · exact .inl ⟨formed_none (form_not hS), hout hS⟩
              refine ⟨_, rfl, rfl, _, rfl, ?_⟩
              rcases res with ⟨hfd, rfl⟩ | ⟨hfd, L, us, rfl, eL, gL⟩
              · refine iteD rfl ?_
                rw [sized_no hfd] at k
                exact k H2 s2
              · refine iteDN (fun e => by cases e) ?_
                have hsh := formed_sh hfd
                have hkl := kidsS_len hsh
                have hfk := kidsS_fit hsh hf
                have hlg := gL.length
                rw [List.length_map] at hlg
                refine ⟨_, rfl, L, rfl, ⟨_, SqL.of eL⟩, fun C hC => ?_⟩
                refine lc_list (K := K) (xs := us) (fun i H' => H' C = some (.lst (((((kids (.tuple (.str sgn :: r))).map (·.2)).take i).map (sizedD j)).map oV)) ∧ Same H2 H') ⟨upd_same, same_new hC⟩ (fun i H' _ p => SqL.of (p.2 _ _ eL)) ?_ ?_
                · rintro i u H3 hu ⟨e3, s3⟩
                  obtain ⟨dx, hdx, hxd⟩ := gL.get hu
                  have hi : i < us.length := (List.getElem?_eq_some_iff.mp hu).1
                  refine ⟨rfl, ?_⟩
                  simp only [tYes, if_true]
                  refine ⟨_, rfl, _, rfl, _, _, rfl, rfl, N, u, dx, a, b, _, rfl, by omega, hxd.same s3, hfk.mem (List.mem_of_getElem? hdx), hn8, fun H4 s4 => ⟨_, s4 _ _ e3, ?_, ?_, Same.mut (s3.trans s4) hC⟩⟩
                  · rw [List.length_map, List.length_map, List.length_take]
                    exact lt_line (by omega)
                  · rw [upd_same, List.take_add_one, hdx, List.map_append, List.map_append]
                    rfl
                · rintro H3 ⟨e3, s3⟩
                  rw [List.take_of_length_le (by rw [List.length_map]; omega)] at e3
                  refine ⟨C, ((kids (.tuple (.str sgn :: r))).map (·.2)).map (sizedD j), rfl, e3, by rw [List.length_map, List.length_map]; omega, ?_⟩
                  have e : sizedD (j + 1) (.tuple (.str sgn :: r)) = addO (some 1) (sumO (((kids (.tuple (.str sgn :: r))).map (·.2)).map (sizedD j))) := by
                    rw [sizedD, if_pos hfd, List.map_map]
                    rfl
                  rw [e] at k
                  refine ⟨_, rfl, rfl, _, rfl, ?_⟩
                  cases hsu : sumO (((kids (.tuple (.str sgn :: r))).map (·.2)).map (sizedD j)) with
                  | none =>
                    refine iteD rfl ?_
                    rw [hsu] at k
                    exact k H3 (s2.trans s3)
                  | some m1 =>
                    refine iteDN (fun e => by cases e) ?_
                    rw [hsu] at k
                    refine ⟨_, rfl, .inl ⟨1, (m1 : Int), rfl, rfl, ?_⟩⟩
                    have k2 := k H3 (s2.trans s3)
                    have c : oV (addO (some 1) (some m1)) = V.int (1 + (m1 : Int)) := by
                      show V.int (((1 + m1 : Nat)) : Int) = _
                      congr 1
                    rw [c] at k2
                    exact k2
            · rw [decide_eq_false hs0]
              refine iteT ?_
              rw [sized_no (formed_nos hs0)] at k
              exact k _ (s1.trans sq)
        · rw [decide_eq_false htu]
          refine iteT (iteT ?_)
          have hfd : formedD d = false := by
            by_cases e : tyD d = "str"
            · obtain ⟨x, rfl⟩ := ty_str e
              exact hnm
            · exact formed_no e htu
          rw [sized_no hfd] at k
          exact k H1 s1
  intro n
  induction n with
  | zero => exact body 0 _ ((D.none sc_law_sized).mono (by decide)) (fun m e => by omega)
  | succ n ih => exact body (n + 1) _ ih (fun m e => by
      obtain rfl : n = m := by omega
      rfl)
end

section
variable {P : Program} {w : World} {K : PySem.W.Frag} {mg : Str → Option Value} {base : Heap}
theorem ok_lis_term (D : DefAt K mg "_law_is_term" s_law_is_term ["_law_thing"]) (T : Bl mg) (C_law_sized : CallOk P w K mg base 39 "_law_sized" ["_law_thing", "_law_deep"] (spSized K 30)) : CallOk P w K mg base 40 "_law_is_term" ["_law_thing"] (spOf8 K termD) := by
  refine D.ok sc_law_is_term (fun vs H Q E h => ?_) (fun f cdv A outer s H vs Q E hr h => ?_)
  · obtain ⟨N, v, d, n, m, rfl, _⟩ := h
    rfl
  · obtain ⟨N, v, d, n, m, rfl, hd, hf, hn, k⟩ := h
    refine ⟨_, (pss_cons (ps_set (i := 1) sc_law_is_term.nd rfl (Or.inl rfl) (pe_callOk C_law_sized hr (by omega) (by rfl) (pa_cons (pv 0) (pa_cons pe_int pa_nil))))
        (pss_one (ps_ret (pe_and (pe_cmpR op_notN (pv 1) pe_non (nomark _)) (pe_one (pe_cmpR op_le (pv 1) pe_int (nomark _))))))), ?_⟩
    refine ⟨_, rfl, N, v, d, n, m, 30, rfl, rfl, hd, hf, hn, fun H1 s1 => ?_⟩
    have k1 := k H1 s1
    unfold termD at k1
    refine ⟨_, rfl, rfl, ?_⟩
    cases hs : sizedD 30 d with
    | none =>
      rw [hs] at k1
      exact ⟨_, rfl, iteF k1⟩
    | some j =>
      rw [hs] at k1
      refine ⟨_, rfl, ?_⟩
      refine iteT ⟨_, rfl, _, _, rfl, rfl, ?_⟩
      have e : decide ((j : Int) ≤ 200) = upTo 200 (some j) := decide_eq_decide.mpr (by omega)
      show Q (.bl (decide ((j : Int) ≤ 200))) H1
      rw [e]
      exact k1
end

section
variable {P : Program} {w : World} {K : PySem.W.Frag} {mg : Str → Option Value} {base : Heap}
theorem ok_maker (D : DefAt K mg "is_maker" s_is_maker ["thing"]) (T : Bl mg) (G_MOST_FIELDS : GV mg "MOST_FIELDS" (.int 4)) (C_is_row : CallOk P w K mg base 1 "is_row" ["thing", "least", "most"] (spIsRow K)) (C_is_name : CallOk P w K mg base 1 "is_name" ["thing"] (spIsName K)) :
    CallOk P w K mg base 2 "is_maker" ["thing"] (spOf K makerOk) := by
  refine D.ok sc_is_maker (fun vs H Q E h => ?_) (fun f cdv A outer s H vs Q E hr h => ?_)
  · obtain ⟨N, v, d, n, m, rfl, _⟩ := h
    rfl
  · obtain ⟨N, v, d, n, m, rfl, hd, hf, hn, k⟩ := h
    refine ⟨_, (pss_cons (ps_if (PW.pt (pw_or (pt_not (pt_val (pe_callOk C_is_row hr (by omega) (by rfl) (pa_cons (pv 0) (pa_cons pe_int (pa_cons pe_int pa_nil)))))) (pw_or (pt_not (pt_val (pe_callOk C_is_name hr (by omega) (by rfl) (pa_cons (pe_ix ix_tup (pv 0) pe_int (fun _ _ => rfl)) pa_nil)))) (pw_or1 (pt_not (pt_val (pe_callOk C_is_row hr (by omega) (by rfl) (pa_cons (pe_ix ix_tup (pv 0) pe_int (fun _ _ => rfl)) (pa_cons pe_int (pa_cons (pe_gv G_MOST_FIELDS rfl) pa_nil)))))))))) (pss_one (ps_ret pe_bl)) pss_nil)
        (pss_one (ps_ret (pe_callB (cr_all rfl) (by rfl) T.all_ (by decide +kernel) (pa_cons (pe_lc (own := [("field", 1)]) (g := gName 1) (tt := tYes) rfl sc_is_maker.nd (pi_tup (pe_ix ix_tup (pv 0) pe_int (fun _ _ => rfl))) (blkOk_by (N := sl_is_maker) (sc := defScope s_is_maker) (by decide +kernel)) (fun _ _ _ _ _ => pg_name (i := 1) sc_is_maker.nd rfl (Or.inl rfl)) (fun _ _ _ _ _ => pts_nil) (fun _ _ _ _ _ => (pe_callOk C_is_name hr (by omega) (by rfl) (pa_cons (pv 1) pa_nil)))) pa_nil))))), ?_⟩
    refine ⟨_, rfl, N, v, d, 2, 2, rfl, hd, ?_⟩
    cases hrow : isRowD d 2 2 with
    | false =>
      refine ⟨_, rfl, iteT (iteT ?_)⟩
      rw [maker_no hrow] at k
      exact k H (Same.refl H)
    | true =>
      refine ⟨_, rfl, iteF ?_⟩
      obtain ⟨a, b, rfl⟩ := row2 hrow
      obtain ⟨t, x, y, rfl, hT, ha, hb⟩ := hd.tup2
      obtain ⟨fa, fb⟩ := fit2 hf
      have k : ∀ H', Same H H' → Q (.bl (isNameD a && (isRowD b 0 4 && (itD b).all isNameD))) H' := k
      refine ⟨_, rfl, t, _, 0, _, rfl, rfl, hT, rfl, N, x, a, n, m, rfl, ha, fa, hn, fun H1 s1 => ?_⟩
      cases hna : isNameD a with
      | false =>
        refine ⟨_, rfl, iteT (iteT ?_)⟩
        rw [hna] at k
        exact k H1 s1
      | true =>
        refine ⟨_, rfl, iteF ?_⟩
        rw [hna, Bool.true_and] at k
        refine ⟨_, rfl, t, _, 1, _, rfl, rfl, sqT_same s1 hT, rfl, N, y, b, 0, 4, rfl, hb.same s1, ?_⟩
        cases hrb : isRowD b 0 4 with
        | false =>
          refine ⟨_, rfl, iteT ?_⟩
          rw [hrb] at k
          exact k H1 s1
        | true =>
          refine ⟨_, rfl, iteF ?_⟩
          rw [hrb, Bool.true_and] at k
          obtain ⟨ns, rfl, _, h4⟩ := row_tup hrb
          obtain ⟨t2, us, rfl, hT2, hA⟩ := (hb.same s1).tupInv
          have hlu := hA.length
          have fns := fb.inner
          refine ⟨_, rfl, t, _, 1, _, rfl, rfl, sqT_same s1 hT, rfl, t2, rfl, ⟨_, hT2⟩, fun L hL => ?_⟩
          refine lc_tup (K := K) (xs := us) (fun i H' => H' L = some (.lst (((ns.take i).map isNameD).map V.bl)) ∧ Same H1 H') ⟨upd_same, same_new hL⟩ (fun i H' _ p => sqT_same p.2 hT2) ?_ ?_
          · rintro i u H2 hu ⟨e2, s2⟩
            obtain ⟨dx, hdx, hxd⟩ := hA.get hu
            have hi : i < us.length := (List.getElem?_eq_some_iff.mp hu).1
            refine ⟨rfl, ?_⟩
            simp only [tYes, if_true]
            refine ⟨_, rfl, N, u, dx, n, m, rfl, hxd.same s2, fns.mem (List.mem_of_getElem? hdx), hn, fun H3 s3 => ⟨_, s3 _ _ e2, ?_, ?_, Same.mut (s2.trans s3) hL⟩⟩
            · rw [List.length_map, List.length_map, List.length_take]
              exact lt_line (by omega)
            · rw [upd_same, List.take_add_one, hdx, List.map_append, List.map_append]
              rfl
          · rintro H2 ⟨e2, s2⟩
            rw [List.take_of_length_le (by omega)] at e2
            refine ⟨L, ns.map isNameD, rfl, SqL.of e2, ?_⟩
            rw [all_id]
            exact k H2 (s1.trans s2)
end

section
variable {P : Program} {w : World} {K : PySem.W.Frag} {mg : Str → Option Value} {base : Heap}
theorem ok_data (D : DefAt K mg "is_data" s_is_data ["thing"]) (T : Bl mg) (G_MOST_MAKERS : GV mg "MOST_MAKERS" (.int 6)) (C_is_row : CallOk P w K mg base 1 "is_row" ["thing", "least", "most"] (spIsRow K)) (C_is_name : CallOk P w K mg base 1 "is_name" ["thing"] (spIsName K)) (C_is_maker : CallOk P w K mg base 2 "is_maker" ["thing"] (spOf K makerOk)) :
    CallOk P w K mg base 3 "is_data" ["thing"] (spOf K dataOk) := by
  refine D.ok sc_is_data (fun vs H Q E h => ?_) (fun f cdv A outer s H vs Q E hr h => ?_)
  · obtain ⟨N, v, d, n, m, rfl, _⟩ := h
    rfl
  · obtain ⟨N, v, d, n, m, rfl, hd, hf, hn, k⟩ := h
    refine ⟨_, (pss_cons (ps_if (PW.pt (pw_or (pt_not (pt_val (pe_callOk C_is_row hr (by omega) (by rfl) (pa_cons (pv 0) (pa_cons pe_int (pa_cons pe_int pa_nil)))))) (pw_or (pt_not (pt_val (pe_callOk C_is_name hr (by omega) (by rfl) (pa_cons (pe_ix ix_tup (pv 0) pe_int (fun _ _ => rfl)) pa_nil)))) (pw_or1 (pt_not (pt_val (pe_callOk C_is_row hr (by omega) (by rfl) (pa_cons (pe_ix ix_tup (pv 0) pe_int (fun _ _ => rfl)) (pa_cons pe_int (pa_cons (pe_gv G_MOST_MAKERS rfl) pa_nil)))))))))) (pss_one (ps_ret pe_bl)) pss_nil)
        (pss_one (ps_ret (pe_callB (cr_all rfl) (by rfl) T.all_ (by decide +kernel) (pa_cons (pe_lc (own := [("row", 1)]) (g := gName 1) (tt := tYes) rfl sc_is_data.nd (pi_tup (pe_ix ix_tup (pv 0) pe_int (fun _ _ => rfl))) (blkOk_by (N := sl_is_data) (sc := defScope s_is_data) (by decide +kernel)) (fun _ _ _ _ _ => pg_name (i := 1) sc_is_data.nd rfl (Or.inl rfl)) (fun _ _ _ _ _ => pts_nil) (fun _ _ _ _ _ => (pe_callOk C_is_maker hr (by omega) (by rfl) (pa_cons (pv 1) pa_nil)))) pa_nil))))), ?_⟩
    refine ⟨_, rfl, N, v, d, 2, 2, rfl, hd, ?_⟩
    cases hrow : isRowD d 2 2 with
    | false =>
      refine ⟨_, rfl, iteT (iteT ?_)⟩
      rw [data_no hrow] at k
      exact k H (Same.refl H)
    | true =>
      refine ⟨_, rfl, iteF ?_⟩
      obtain ⟨a, b, rfl⟩ := row2 hrow
      obtain ⟨t, x, y, rfl, hT, ha, hb⟩ := hd.tup2
      obtain ⟨fa, fb⟩ := fit2 hf
      have k : ∀ H', Same H H' → Q (.bl (isNameD a && (isRowD b 1 6 && (itD b).all makerOk))) H' := k
      refine ⟨_, rfl, t, _, 0, _, rfl, rfl, hT, rfl, N, x, a, n, m, rfl, ha, fa, hn, fun H1 s1 => ?_⟩
      cases hna : isNameD a with
      | false =>
        refine ⟨_, rfl, iteT (iteT ?_)⟩
        rw [hna] at k
        exact k H1 s1
      | true =>
        refine ⟨_, rfl, iteF ?_⟩
        rw [hna, Bool.true_and] at k
        refine ⟨_, rfl, t, _, 1, _, rfl, rfl, sqT_same s1 hT, rfl, N, y, b, 1, 6, rfl, hb.same s1, ?_⟩
        cases hrb : isRowD b 1 6 with
        | false =>
          refine ⟨_, rfl, iteT ?_⟩
          rw [hrb] at k
          exact k H1 s1
        | true =>
          refine ⟨_, rfl, iteF ?_⟩
          rw [hrb, Bool.true_and] at k
          obtain ⟨ns, rfl, _, h4⟩ := row_tup hrb
          obtain ⟨t2, us, rfl, hT2, hA⟩ := (hb.same s1).tupInv
          have hlu := hA.length
          have fns := fb.inner
          refine ⟨_, rfl, t, _, 1, _, rfl, rfl, sqT_same s1 hT, rfl, t2, rfl, ⟨_, hT2⟩, fun L hL => ?_⟩
          refine lc_tup (K := K) (xs := us) (fun i H' => H' L = some (.lst (((ns.take i).map makerOk).map V.bl)) ∧ Same H1 H') ⟨upd_same, same_new hL⟩ (fun i H' _ p => sqT_same p.2 hT2) ?_ ?_
          · rintro i u H2 hu ⟨e2, s2⟩
            obtain ⟨dx, hdx, hxd⟩ := hA.get hu
            have hi : i < us.length := (List.getElem?_eq_some_iff.mp hu).1
            refine ⟨rfl, ?_⟩
            simp only [tYes, if_true]
            refine ⟨_, rfl, N, u, dx, n, m, rfl, hxd.same s2, fns.mem (List.mem_of_getElem? hdx), hn, fun H3 s3 => ⟨_, s3 _ _ e2, ?_, ?_, Same.mut (s2.trans s3) hL⟩⟩
            · rw [List.length_map, List.length_map, List.length_take]
              exact lt_line (by omega)
            · rw [upd_same, List.take_add_one, hdx, List.map_append, List.map_append]
              rfl
          · rintro H2 ⟨e2, s2⟩
            rw [List.take_of_length_le (by omega)] at e2
            refine ⟨L, ns.map makerOk, rfl, SqL.of e2, ?_⟩
            rw [all_id]
            exact k H2 (s1.trans s2)
end

section
variable {P : Program} {w : World} {K : PySem.W.Frag} {mg : Str → Option Value} {base : Heap}
theorem ok_def (D : DefAt K mg "is_def" s_is_def ["thing"]) (T : Bl mg) (C_is_row : CallOk P w K mg base 1 "is_row" ["thing", "least", "most"] (spIsRow K)) (C_is_name : CallOk P w K mg base 1 "is_name" ["thing"] (spIsName K))
    (C_is_kind : CallOk P w K mg base 8 "is_kind" ["thing"] (spKind K)) (C_is_term : CallOk P w K mg base 11 "is_term" ["thing"] (spOf K termD)) : CallOk P w K mg base 12 "is_def" ["thing"] (spOf K defOk) := by
  refine D.ok sc_is_def (fun vs H Q E h => ?_) (fun f cdv A outer s H vs Q E hr h => ?_)
  · obtain ⟨N, v, d, n, m, rfl, _⟩ := h
    rfl
  · obtain ⟨N, v, d, n, m, rfl, hd, hf, hn, k⟩ := h
    refine ⟨_, (pss_one (ps_ret (pe_and (pe_callOk C_is_row hr (by omega) (by rfl) (pa_cons (pv 0) (pa_cons pe_int (pa_cons pe_int pa_nil)))) (pe_and (pe_callOk C_is_name hr (by omega) (by rfl) (pa_cons (pe_ix ix_tup (pv 0) pe_int (fun _ _ => rfl)) pa_nil)) (pe_and (pe_callOk C_is_kind hr (by omega) (by rfl) (pa_cons (pe_ix ix_tup (pv 0) pe_int (fun _ _ => rfl)) pa_nil)) (pe_one (pe_callOk C_is_term hr (by omega) (by rfl) (pa_cons (pe_ix ix_tup (pv 0) pe_int (fun _ _ => rfl)) pa_nil)))))))), ?_⟩
    refine ⟨_, rfl, N, v, d, 3, 3, rfl, hd, ?_⟩
    cases hrow : isRowD d 3 3 with
    | false =>
      refine ⟨_, rfl, iteF ?_⟩
      rw [def_no hrow] at k
      exact k H (Same.refl H)
    | true =>
      refine ⟨_, rfl, iteT ?_⟩
      obtain ⟨a, b, c, rfl⟩ := row3 hrow
      obtain ⟨t, x, y, z, rfl, hT, ha, hb, hc⟩ := hd.tup3
      obtain ⟨fa, fb, fc⟩ := fit3' hf
      have k : ∀ H', Same H H' → Q (.bl (isNameD a && (kindW 6 b && termD c))) H' := k
      refine ⟨_, rfl, t, _, 0, _, rfl, rfl, hT, rfl, N, x, a, n, m, rfl, ha, fa, hn, fun H1 s1 => ?_⟩
      cases hna : isNameD a with
      | false =>
        refine ⟨_, rfl, iteF ?_⟩
        rw [hna] at k
        exact k H1 s1
      | true =>
        refine ⟨_, rfl, iteT ?_⟩
        rw [hna, Bool.true_and] at k
        refine ⟨_, rfl, t, _, 1, _, rfl, rfl, sqT_same s1 hT, rfl, N, y, b, n, m, rfl, hb.same s1, fb, hn, fun H2 s2 => ?_⟩
        cases hkb : kindW 6 b with
        | false =>
          refine ⟨_, rfl, iteF ?_⟩
          rw [hkb] at k
          exact k H2 (s1.trans s2)
        | true =>
          refine ⟨_, rfl, iteT ?_⟩
          rw [hkb, Bool.true_and] at k
          exact ⟨_, rfl, t, _, 2, _, rfl, rfl, sqT_same (s1.trans s2) hT, rfl, N, z, c, n, m, rfl, hc.same (s1.trans s2), fc, hn, fun H3 s3 => k H3 ((s1.trans s2).trans s3)⟩
end

section
variable {P : Program} {w : World} {K : PySem.W.Frag} {mg : Str → Option Value} {base : Heap}
theorem ok_defs (D : DefAt K mg "are_defs" s_are_defs ["thing"]) (T : Bl mg) (G_MOST_DEFS : GV mg "MOST_DEFS" (.int 16)) (C_is_row : CallOk P w K mg base 1 "is_row" ["thing", "least", "most"] (spIsRow K)) (C_is_def : CallOk P w K mg base 12 "is_def" ["thing"] (spOf K defOk))
    (C_are_unlike : CallOk P w K mg base 1 "are_unlike" ["names"] (spUnlike K)) : CallOk P w K mg base 13 "are_defs" ["thing"] (spOf K defsOk) := by
  refine D.ok sc_are_defs (fun vs H Q E h => ?_) (fun f cdv A outer s H vs Q E hr h => ?_)
  · obtain ⟨N, v, d, n, m, rfl, _⟩ := h
    rfl
  · obtain ⟨N, v, d, n, m, rfl, hd, hf, hn, k⟩ := h
    refine ⟨_, (pss_cons (ps_if (PW.pt (pw_or (pt_not (pt_val (pe_callOk C_is_row hr (by omega) (by rfl) (pa_cons (pv 0) (pa_cons pe_int (pa_cons (pe_gv G_MOST_DEFS rfl) pa_nil)))))) (pw_or1 (pt_not (pt_val (pe_callB (cr_all rfl) (by rfl) T.all_ (by decide +kernel) (pa_cons (pe_lc (own := [("row", 1)]) (g := gName 1) (tt := tYes) rfl sc_are_defs.nd (pi_tup (pv 0)) (blkOk_by (N := sl_are_defs) (sc := defScope s_are_defs) (by decide +kernel)) (fun _ _ _ _ _ => pg_name (i := 1) sc_are_defs.nd rfl (Or.inl rfl)) (fun _ _ _ _ _ => pts_nil) (fun _ _ _ _ _ => (pe_callOk C_is_def hr (by omega) (by rfl) (pa_cons (pv 1) pa_nil)))) pa_nil))))))) (pss_one (ps_ret pe_bl)) pss_nil)
        (pss_one (ps_ret (pe_callOk C_are_unlike hr (by omega) (by rfl) (pa_cons (pe_lc (own := [("name", 2), ("_", 3)]) (g := (gTup K 3 (gCons (gName 2) (gCons (gName 3) (gCons (gName 3) gNil))))) (tt := tYes) rfl sc_are_defs.nd (pi_tup (pv 0)) (blkOk_by (N := sl_are_defs) (sc := defScope s_are_defs) (by decide +kernel)) (fun _ _ _ _ _ => (pg_tup rfl (pgs_cons (pg_name (i := 2) sc_are_defs.nd rfl (Or.inl rfl) (by first | exact .inl rfl | exact .inr rfl)) (pgs_cons (pg_name (i := 3) sc_are_defs.nd rfl (Or.inl rfl) (by first | exact .inl rfl | exact .inr rfl)) (pgs_cons (pg_name (i := 3) sc_are_defs.nd rfl (Or.inl rfl) (by first | exact .inl rfl | exact .inr rfl)) pgs_nil))))) (fun _ _ _ _ _ => pts_nil) (fun _ _ _ _ _ => (pv 2))) pa_nil))))), ?_⟩
    unfold defsOk at k
    refine ⟨_, rfl, N, v, d, 0, 16, rfl, hd, ?_⟩
    cases hrb : isRowD d 0 16 with
    | false =>
      refine ⟨_, rfl, iteT (iteT ?_)⟩
      rw [hrb] at k
      exact k H (Same.refl H)
    | true =>
      refine ⟨_, rfl, iteF ?_⟩
      rw [hrb, Bool.true_and] at k
      obtain ⟨ns, rfl, _, h16⟩ := row_tup hrb
      obtain ⟨t2, us, rfl, hT2, hA⟩ := hd.tupInv
      have hlu := hA.length
      have fns := hf.inner
      refine ⟨_, rfl, t2, rfl, ⟨_, hT2⟩, fun L hL => ?_⟩
      refine lc_tup (K := K) (xs := us) (fun i H' => H' L = some (.lst (((ns.take i).map defOk).map V.bl)) ∧ Same H H') ⟨upd_same, same_new hL⟩ (fun i H' _ p => sqT_same p.2 hT2) ?_ ?_
      · rintro i u H2 hu ⟨e2, s2⟩
        obtain ⟨dx, hdx, hxd⟩ := hA.get hu
        have hi : i < us.length := (List.getElem?_eq_some_iff.mp hu).1
        refine ⟨rfl, ?_⟩
        simp only [tYes, if_true]
        refine ⟨_, rfl, N, u, dx, n, m, rfl, hxd.same s2, fns.mem (List.mem_of_getElem? hdx), hn, fun H3 s3 => ⟨_, s3 _ _ e2, ?_, ?_, Same.mut (s2.trans s3) hL⟩⟩
        · rw [List.length_map, List.length_map, List.length_take]
          exact lt_line (by omega)
        · rw [upd_same, List.take_add_one, hdx, List.map_append, List.map_append]
          rfl
      · rintro H2 ⟨e2, s2⟩
        rw [List.take_of_length_le (by omega)] at e2
        refine ⟨L, ns.map defOk, rfl, SqL.of e2, ?_⟩
        rw [all_id]
        cases hal : ns.all defOk with
        | false =>
          refine ⟨_, rfl, iteT ?_⟩
          rw [show (itD (.tuple ns)).all defOk = false from hal] at k
          exact k H2 s2
        | true =>
          refine ⟨_, rfl, iteF ?_⟩
          rw [show (itD (.tuple ns)).all defOk = true from hal, Bool.true_and] at k
          have k : ∀ H', Same H H' → Q (.bl (unlikeN (ns.map defName))) H' := k
          rw [List.all_eq_true] at hal
          refine ⟨_, rfl, t2, rfl, ⟨_, sqT_same s2 hT2⟩, fun L2 hL2 => ?_⟩
          refine lc_tup (K := K) (xs := us) (fun i H' => H' L2 = some (.lst (((ns.take i).map defName).map V.str)) ∧ Same H2 H') ⟨upd_same, same_new hL2⟩ (fun i H' _ p => sqT_same (s2.trans p.2) hT2) ?_ ?_
          · rintro i u H3 hu ⟨e3, s3⟩
            obtain ⟨dx, hdx, hxd⟩ := hA.get hu
            have hi : i < us.length := (List.getElem?_eq_some_iff.mp hu).1
            have hok := hal dx (List.mem_of_getElem? hdx)
            have hr3 : isRowD dx 3 3 = true := by
              cases e : isRowD dx 3 3 with
              | true => rfl
              | false =>
                rw [def_no e] at hok
                cases hok
            obtain ⟨a, b, c, rfl⟩ := row3 hr3
            obtain ⟨t, x, y, z, rfl, hT, ha, hb, hc⟩ := hxd.tup3
            have hna : isNameD a = true := by
              have e : (isNameD a && (kindW 6 b && termD c)) = true := hok
              rw [Bool.and_eq_true] at e
              exact e.1
            obtain ⟨nm, rfl⟩ := name_str hna
            obtain rfl := ha.strInv
            refine ⟨t, _, rfl, sqT_same (s2.trans s3) hT, rfl, .str nm, _, rfl, y, _, rfl, z, _, rfl, rfl, rfl, ?_⟩
            simp only [tYes, if_true]
            refine ⟨_, rfl, _, e3, ?_, ?_, Same.mut s3 hL2⟩
            · rw [List.length_map, List.length_map, List.length_take]
              exact lt_line (by omega)
            · rw [upd_same, List.take_add_one, hdx, List.map_append, List.map_append]
              rfl
          · rintro H3 ⟨e3, s3⟩
            rw [List.take_of_length_le (by omega)] at e3
            exact ⟨L2, _, rfl, .inr (SqL.of e3), by rw [List.length_map]; omega, k H3 (s2.trans s3)⟩
end

section
variable {P : Program} {w : World} {K : PySem.W.Frag} {mg : Str → Option Value} {base : Heap}
set_option maxHeartbeats 0 in
theorem ok_datas (D : DefAt K mg "are_datas" s_are_datas ["thing"]) (T : Bl mg) (G_MOST_DATAS : GV mg "MOST_DATAS" (.int 6)) (C_is_row : CallOk P w K mg base 1 "is_row" ["thing", "least", "most"] (spIsRow K)) (C_is_data : CallOk P w K mg base 3 "is_data" ["thing"] (spOf K dataOk))
    (C_are_unlike : CallOk P w K mg base 1 "are_unlike" ["names"] (spUnlike K)) : CallOk P w K mg base 4 "are_datas" ["thing"] (spOf K datasOk) := by
  refine D.ok sc_are_datas (fun vs H Q E h => ?_) (fun f cdv A outer s H vs Q E hr h => ?_)
  · obtain ⟨N, v, d, n, m, rfl, _⟩ := h
    rfl
  · obtain ⟨N, v, d, n, m, rfl, hd, hf, hn, k⟩ := h
    refine ⟨_, (pss_cons (ps_if (PW.pt (pw_or (pt_not (pt_val (pe_callOk C_is_row hr (by omega) (by rfl) (pa_cons (pv 0) (pa_cons pe_int (pa_cons (pe_gv G_MOST_DATAS rfl) pa_nil)))))) (pw_or1 (pt_not (pt_val (pe_callB (cr_all rfl) (by rfl) T.all_ (by decide +kernel) (pa_cons (pe_lc (own := [("row", 1)]) (g := gName 1) (tt := tYes) rfl sc_are_datas.nd (pi_tup (pv 0)) (blkOk_by (N := sl_are_datas) (sc := defScope s_are_datas) (by decide +kernel)) (fun _ _ _ _ _ => pg_name (i := 1) sc_are_datas.nd rfl (Or.inl rfl)) (fun _ _ _ _ _ => pts_nil) (fun _ _ _ _ _ => (pe_callOk C_is_data hr (by omega) (by rfl) (pa_cons (pv 1) pa_nil)))) pa_nil))))))) (pss_one (ps_ret pe_bl)) pss_nil)
        (pss_cons (ps_set (i := 2) sc_are_datas.nd rfl (Or.inr rfl) (pe_lc (own := [("name", 3), ("_", 4)]) (g := (gTup K 2 (gCons (gName 3) (gCons (gName 4) gNil)))) (tt := tYes) rfl sc_are_datas.nd (pi_tup (pv 0)) (blkOk_by (N := sl_are_datas) (sc := defScope s_are_datas) (by decide +kernel)) (fun _ _ _ _ _ => (pg_tup rfl (pgs_cons (pg_name (i := 3) sc_are_datas.nd rfl (Or.inl rfl) (by first | exact .inl rfl | exact .inr rfl)) (pgs_cons (pg_name (i := 4) sc_are_datas.nd rfl (Or.inl rfl) (by first | exact .inl rfl | exact .inr rfl)) pgs_nil)))) (fun _ _ _ _ _ => pts_nil) (fun _ _ _ _ _ => (pv 3))))
        (pss_cons (ps_setLcN (i := 5) (own := [("_", 4), ("rows", 6), ("maker", 7)]) (c := ⟨_, _, _, _, (gTup K 2 (gCons (gName 4) (gCons (gName 6) gNil))), tYes, [4, 6, 7]⟩) (cs := [⟨_, _, _, _, (gTup K 2 (gCons (gName 7) (gCons (gName 4) gNil))), tYes, [7, 4]⟩]) rfl sc_are_datas.nd rfl rfl (sw_true rfl rfl rfl (by decide +kernel)) (pi_tup (pv 0)) (blkOk_by (N := sl_are_datas) (sc := defScope s_are_datas) (by decide +kernel)) rfl (by simp [NestVs, topVs]) (fun _ _ _ _ _ => (pg_tup rfl (pgs_cons (pg_name (i := 4) sc_are_datas.nd rfl (Or.inl rfl) (by first | exact .inl rfl | exact .inr rfl)) (pgs_cons (pg_name (i := 6) sc_are_datas.nd rfl (Or.inl rfl) (by first | exact .inl rfl | exact .inr rfl)) pgs_nil)))) (fun _ _ _ _ _ => pts_nil) (fun _ _ _ _ _ => (ok_cons (pi_tupK (K := K) rfl (pv 6)) (pg_tup rfl (pgs_cons (pg_name (i := 7) sc_are_datas.nd rfl (Or.inl rfl) (by first | exact .inl rfl | exact .inr rfl)) (pgs_cons (pg_name (i := 4) sc_are_datas.nd rfl (Or.inl rfl) (by first | exact .inl rfl | exact .inr rfl)) pgs_nil))) pts_nil (fun _ _ => rfl) ok_nil)) (fun _ _ _ _ _ => (pv 7)))
        (pss_cons (ps_setLcN (i := 8) (own := [("_", 4), ("rows", 6), ("row", 1), ("field", 9)]) (c := ⟨_, _, _, _, (gTup K 2 (gCons (gName 4) (gCons (gName 6) gNil))), tYes, [4, 6, 1, 9]⟩) (cs := [⟨_, _, _, _, (gTup K 2 (gCons (gName 4) (gCons (gName 1) gNil))), tYes, [4, 1, 9]⟩, ⟨_, _, _, _, (gName 9), tYes, [9]⟩]) rfl sc_are_datas.nd rfl rfl (sw_true rfl rfl rfl (by decide +kernel)) (pi_tup (pv 0)) (blkOk_by (N := sl_are_datas) (sc := defScope s_are_datas) (by decide +kernel)) rfl (by simp [NestVs, topVs]) (fun _ _ _ _ _ => (pg_tup rfl (pgs_cons (pg_name (i := 4) sc_are_datas.nd rfl (Or.inl rfl) (by first | exact .inl rfl | exact .inr rfl)) (pgs_cons (pg_name (i := 6) sc_are_datas.nd rfl (Or.inl rfl) (by first | exact .inl rfl | exact .inr rfl)) pgs_nil)))) (fun _ _ _ _ _ => pts_nil) (fun _ _ _ _ _ => (ok_cons (pi_tupK (K := K) rfl (pv 6)) (pg_tup rfl (pgs_cons (pg_name (i := 4) sc_are_datas.nd rfl (Or.inl rfl) (by first | exact .inl rfl | exact .inr rfl)) (pgs_cons (pg_name (i := 1) sc_are_datas.nd rfl (Or.inl rfl) (by first | exact .inl rfl | exact .inr rfl)) pgs_nil))) pts_nil (fun _ _ => rfl) (ok_cons (pi_tupK (K := K) rfl (pv 1)) (pg_name (i := 9) sc_are_datas.nd rfl (Or.inl rfl)) pts_nil (fun _ _ => rfl) ok_nil))) (fun _ _ _ _ _ => (pv 9)))
        (pss_one (ps_ret (pe_and (pe_callOk C_are_unlike hr (by omega) (by rfl) (pa_cons (pv 2) pa_nil)) (pe_and (pe_callOk C_are_unlike hr (by omega) (by rfl) (pa_cons (pv 5) pa_nil)) (pe_one (pe_callB (cr_all rfl) (by rfl) T.all_ (by decide +kernel) (pa_cons (pe_lc (own := [("field", 9)]) (g := gName 9) (tt := tYes) rfl sc_are_datas.nd (pi_list (pv 8)) (blkOk_by (N := sl_are_datas) (sc := defScope s_are_datas) (by decide +kernel)) (fun _ _ _ _ _ => pg_name (i := 9) sc_are_datas.nd rfl (Or.inl rfl)) (fun _ _ _ _ _ => pts_nil) (fun _ _ _ _ _ => (pe_cmpR (in_seqK (K := K) rfl) (pv 9) (pv 2) (by rfl)))) pa_nil))))))))))), ?_⟩
    refine ⟨_, rfl, N, v, d, 1, 6, rfl, hd, ?_⟩
    cases hrb : isRowD d 1 6 with
    | false =>
      refine ⟨_, rfl, iteT (iteT ?_)⟩
      unfold datasOk at k
      rw [hrb] at k
      exact k H (Same.refl H)
    | true =>
      refine ⟨_, rfl, iteF ?_⟩
      obtain ⟨ns, rfl, h1, h6⟩ := row_tup hrb
      obtain ⟨t2, us, rfl, hT2, hA⟩ := hd.tupInv
      have hlu := hA.length
      have fns := hf.inner
      refine ⟨_, rfl, t2, rfl, ⟨_, hT2⟩, fun L hL => ?_⟩
      refine lc_tup (K := K) (xs := us) (fun i H' => H' L = some (.lst (((ns.take i).map dataOk).map V.bl)) ∧ Same H H') ⟨upd_same, same_new hL⟩ (fun i H' _ p => sqT_same p.2 hT2) ?_ ?_
      · rintro i u H2 hu ⟨e2, s2⟩
        obtain ⟨dx, hdx, hxd⟩ := hA.get hu
        have hi : i < us.length := (List.getElem?_eq_some_iff.mp hu).1
        refine ⟨rfl, ?_⟩
        simp only [tYes, if_true]
        refine ⟨_, rfl, N, u, dx, n, m, rfl, hxd.same s2, fns.mem (List.mem_of_getElem? hdx), hn, fun H3 s3 => ⟨_, s3 _ _ e2, ?_, ?_, Same.mut (s2.trans s3) hL⟩⟩
        · rw [List.length_map, List.length_map, List.length_take]
          exact lt_line (by omega)
        · rw [upd_same, List.take_add_one, hdx, List.map_append, List.map_append]
          rfl
      · rintro H2 ⟨e2, s2⟩
        rw [List.take_of_length_le (by omega)] at e2
        refine ⟨L, ns.map dataOk, rfl, SqL.of e2, ?_⟩
        rw [all_id]
        cases hal : ns.all dataOk with
        | false =>
          refine ⟨_, rfl, iteT ?_⟩
          unfold datasOk at k
          rw [hrb, show (itD (.tuple ns)).all dataOk = false from hal] at k
          exact k H2 s2
        | true =>
          refine ⟨_, rfl, iteF ?_⟩
          obtain ⟨ps, rfl, hps⟩ := datas_of hal
          rw [datas_eq, hrb, hal, Bool.true_and, Bool.true_and] at k
          rw [List.length_map] at h6 hlu
          have hp6 : ps.length ≤ 6 := by omega
          have hmk := mks_len hps
          have hfl := flds_len hps
          -- the data kinds' names
          refine ⟨_, rfl, t2, rfl, ⟨_, sqT_same s2 hT2⟩, fun L2 hL2 => ?_⟩
          refine lc_tup (K := K) (xs := us) (fun i H' => H' L2 = some (.lst (((ps.take i).map (·.1)).map V.str)) ∧ Same H2 H') ⟨upd_same, same_new hL2⟩ (fun i H' _ p => sqT_same (s2.trans p.2) hT2) ?_ ?_
          · rintro i u H3 hu ⟨e3, s3⟩
            obtain ⟨dx, hdx, hxd⟩ := hA.get hu
            obtain ⟨p, hp, rfl⟩ := map_get hdx
            have hi : i < us.length := (List.getElem?_eq_some_iff.mp hu).1
            obtain ⟨t, tm, ums, rfl, hT, _, _⟩ := hxd.dt
            refine ⟨t, _, rfl, sqT_same (s2.trans s3) hT, rfl, _, _, rfl, _, _, rfl, rfl, rfl, ?_⟩
            simp only [tYes, if_true]
            refine ⟨_, rfl, _, e3, ?_, ?_, Same.mut s3 hL2⟩
            · rw [List.length_map, List.length_map, List.length_take]
              exact lt_line (by omega)
            · rw [upd_same, List.take_add_one, hp, List.map_append, List.map_append]
              rfl
          rintro H3 ⟨e3, s3⟩
          rw [List.take_of_length_le (by omega)] at e3
          have s03 := s2.trans s3
          -- the makers' names
          refine ⟨_, rfl, t2, rfl, ⟨_, sqT_same s03 hT2⟩, fun L3 hL3 => ?_⟩
          refine over_tup (K := K) (xs := us) (fun i H' => H' L3 = some (.lst (((mksOf (ps.take i)).map (·.1)).map V.str)) ∧ Same H3 H') ⟨upd_same, same_new hL3⟩ (fun i H' _ p => sqT_same (s03.trans p.2) hT2) ?_ ?_
          · rintro i u H4 hu ⟨e4, s4⟩
            obtain ⟨dx, hdx, hxd⟩ := hA.get hu
            obtain ⟨p, hp, rfl⟩ := map_get hdx
            have hi : i < us.length := (List.getElem?_eq_some_iff.mp hu).1
            obtain ⟨t, tm, ums, rfl, hT, hTm, hAm⟩ := hxd.dt
            have hlm := hAm.length
            rw [List.length_map] at hlm
            have hm6 := (hps p (List.mem_of_getElem? hp)).len
            have hpre : (mksOf (ps.take i)).length ≤ 36 := Nat.le_trans (mks_len fun q hq => hps q (List.mem_of_mem_take hq)) (by rw [List.length_take]; omega)
            refine ⟨t, _, rfl, sqT_same (s03.trans s4) hT, rfl, _, _, rfl, _, _, rfl, rfl, rfl, ?_⟩
            simp only [tYes, if_true]
            refine ⟨_, rfl, tm, rfl, ⟨_, sqT_same (s03.trans s4) hTm⟩, ?_⟩
            refine over_tup (K := K) (xs := ums) (fun j H' => H' L3 = some (.lst (((mksOf (ps.take i) ++ p.2.take j).map (·.1)).map V.str)) ∧ Same H3 H') ⟨by rw [List.take_zero, List.append_nil]; exact e4, s4⟩ (fun j H' _ q => sqT_same (s03.trans q.2) hTm) ?_ ?_
            · rintro j um H5 hum ⟨e5, s5⟩
              obtain ⟨dm, hdm, hmd⟩ := hAm.get hum
              obtain ⟨m', hm', rfl⟩ := map_get hdm
              obtain ⟨tk, tf, rfl, hTk, _⟩ := hmd.mk
              refine ⟨tk, _, rfl, sqT_same (s03.trans s5) hTk, rfl, _, _, rfl, _, _, rfl, rfl, rfl, ?_⟩
              simp only [tYes, if_true]
              refine ⟨_, rfl, _, e5, ?_, ?_, Same.mut s5 hL3⟩
              · rw [List.length_map, List.length_map, List.length_append, List.length_take]
                exact lt_line (by omega)
              · rw [upd_same, List.take_add_one, hm', List.map_append, List.map_append, List.map_append, List.map_append]
                simp
            · rintro H5 ⟨e5, s5⟩
              rw [List.take_of_length_le (l := p.2) (by omega)] at e5
              exact ⟨by rw [mks_take hp]; exact e5, s5⟩
          rintro H4 ⟨e4, s4⟩
          rw [List.take_of_length_le (by omega)] at e4
          have s04 := s03.trans s4
          have e34 := s4 _ _ e3
          -- the fields
          refine ⟨_, rfl, t2, rfl, ⟨_, sqT_same s04 hT2⟩, fun L4 hL4 => ?_⟩
          refine over_tup (K := K) (xs := us) (fun i H' => H' L4 = some (.lst ((fldsOf (ps.take i)).map V.str)) ∧ Same H4 H') ⟨upd_same, same_new hL4⟩ (fun i H' _ p => sqT_same (s04.trans p.2) hT2) ?_ ?_
          · rintro i u H5 hu ⟨e5, s5⟩
            obtain ⟨dx, hdx, hxd⟩ := hA.get hu
            obtain ⟨p, hp, rfl⟩ := map_get hdx
            have hi : i < us.length := (List.getElem?_eq_some_iff.mp hu).1
            obtain ⟨t, tm, ums, rfl, hT, hTm, hAm⟩ := hxd.dt
            have hlm := hAm.length
            rw [List.length_map] at hlm
            have hpo := hps p (List.mem_of_getElem? hp)
            have hm6 := hpo.len
            have hpre : (fldsOf (ps.take i)).length ≤ 144 := Nat.le_trans (flds_len fun q hq => hps q (List.mem_of_mem_take hq)) (by rw [List.length_take]; omega)
            refine ⟨t, _, rfl, sqT_same (s04.trans s5) hT, rfl, _, _, rfl, _, _, rfl, rfl, rfl, ?_⟩
            simp only [tYes, if_true]
            refine ⟨_, rfl, tm, rfl, ⟨_, sqT_same (s04.trans s5) hTm⟩, ?_⟩
            refine over_tup (K := K) (xs := ums) (fun j H' => H' L4 = some (.lst ((fldsOf (ps.take i) ++ (p.2.take j).flatMap (·.2)).map V.str)) ∧ Same H4 H') ⟨by rw [List.take_zero, List.flatMap_nil, List.append_nil]; exact e5, s5⟩ (fun j H' _ q => sqT_same (s04.trans q.2) hTm) ?_ ?_
            · rintro j um H6 hum ⟨e6, s6⟩
              obtain ⟨dm, hdm, hmd⟩ := hAm.get hum
              obtain ⟨m', hm', rfl⟩ := map_get hdm
              obtain ⟨tk, tf, rfl, hTk, hTf⟩ := hmd.mk
              have hf4 := (hpo.all m' (List.mem_of_getElem? hm')).len
              have hpr2 : ((p.2.take j).flatMap (·.2)).length ≤ 24 := Nat.le_trans (flat_len (k := 4) fun q hq => (hpo.all q (List.mem_of_mem_take hq)).len) (by rw [List.length_take]; omega)
              refine ⟨tk, _, rfl, sqT_same (s04.trans s6) hTk, rfl, _, _, rfl, _, _, rfl, rfl, rfl, ?_⟩
              simp only [tYes, if_true]
              refine ⟨_, rfl, tf, rfl, ⟨_, sqT_same (s04.trans s6) hTf⟩, ?_⟩
              refine over_tup (K := K) (xs := m'.2.map V.str) (fun o H' => H' L4 = some (.lst ((fldsOf (ps.take i) ++ ((p.2.take j).flatMap (·.2) ++ m'.2.take o)).map V.str)) ∧ Same H4 H') ⟨by rw [List.take_zero, List.append_nil]; exact e6, s6⟩ (fun o H' _ q => sqT_same (s04.trans q.2) hTf) ?_ ?_
              · rintro o uf H7 huf ⟨e7, s7⟩
                obtain ⟨fx, hfx, rfl⟩ := map_get huf
                refine ⟨rfl, ?_⟩
                simp only [tYes, if_true]
                refine ⟨_, rfl, _, e7, ?_, ?_, Same.mut s7 hL4⟩
                · rw [List.length_map, List.length_append, List.length_append, List.length_take]
                  exact lt_line (by omega)
                · rw [upd_same, List.take_add_one, hfx, ← List.append_assoc, ← List.append_assoc, ← List.append_assoc, List.map_append (l₂ := (some fx).toList)]
                  rfl
              · rintro H7 ⟨e7, s7⟩
                rw [List.length_map, List.take_of_length_le (Nat.le_refl _)] at e7
                exact ⟨by rw [flat_take hm']; exact e7, s7⟩
            · rintro H6 ⟨e6, s6⟩
              rw [List.take_of_length_le (l := p.2) (by omega)] at e6
              exact ⟨by rw [flds_take hp]; exact e6, s6⟩
          rintro H5 ⟨e5, s5⟩
          rw [List.take_of_length_le (by omega)] at e5
          have s05 := s04.trans s5
          -- the answer
          refine ⟨_, rfl, L2, _, rfl, .inr (SqL.of (s5 _ _ e34)), by rw [List.length_map]; omega, ?_⟩
          cases hu1 : unlikeN (ps.map (·.1)) with
          | false =>
            refine ⟨_, rfl, iteF ?_⟩
            rw [hu1] at k
            exact k H5 s05
          | true =>
            refine ⟨_, rfl, iteT ?_⟩
            rw [hu1, Bool.true_and] at k
            refine ⟨_, rfl, L3, _, rfl, .inr (SqL.of (s5 _ _ e4)), by rw [List.length_map]; omega, ?_⟩
            cases hu2 : unlikeN ((mksOf ps).map (·.1)) with
            | false =>
              refine ⟨_, rfl, iteF ?_⟩
              rw [hu2] at k
              exact k H5 s05
            | true =>
              refine ⟨_, rfl, iteT ?_⟩
              rw [hu2, Bool.true_and] at k
              refine ⟨_, rfl, L4, rfl, ⟨_, SqL.of e5⟩, fun L5 hL5 => ?_⟩
              refine lc_list (K := K) (xs := (fldsOf ps).map V.str) (fun i H' => H' L5 = some (.lst ((((fldsOf ps).take i).map fun f => decide (f ∈ ps.map (·.1))).map V.bl)) ∧ Same H5 H') ⟨upd_same, same_new hL5⟩ (fun i H' _ p => SqL.of (p.2 _ _ e5)) ?_ ?_
              · rintro i u H6 hu ⟨e6, s6⟩
                obtain ⟨fx, hfx, rfl⟩ := map_get hu
                have hi : i < (fldsOf ps).length := (List.getElem?_eq_some_iff.mp hfx).1
                refine ⟨rfl, ?_⟩
                simp only [tYes, if_true]
                refine ⟨_, rfl, _, rfl, L2, _, rfl, .inl (SqL.of (s6 _ _ (s5 _ _ e34))), rfl, flat_strs _, ?_⟩
                refine ⟨_, e6, ?_, ?_, Same.mut s6 hL5⟩
                · rw [List.length_map, List.length_map, List.length_take]
                  exact lt_line (by omega)
                · rw [upd_same, List.take_add_one, hfx, List.map_append, List.map_append, in_strs]
                  rfl
              · rintro H6 ⟨e6, s6⟩
                rw [List.length_map, List.take_of_length_le (Nat.le_refl _)] at e6
                refine ⟨L5, _, rfl, SqL.of e6, ?_⟩
                rw [List.all_map]
                exact k H6 (s05.trans s6)
end

section
variable {P : Program} {w : World} {K : PySem.W.Frag} {mg : Str → Option Value} {base : Heap}
theorem prog_no {d : PyData} (h : isRowD d 2 2 = false) : progOk d = false := by
  unfold progOk
  split
  · simp [isRowD] at h
  · rfl
theorem ok_program (D : DefAt K mg "is_program" s_is_program ["thing"]) (T : Bl mg) (C_is_row : CallOk P w K mg base 1 "is_row" ["thing", "least", "most"] (spIsRow K)) (C_are_datas : CallOk P w K mg base 4 "are_datas" ["thing"] (spOf K datasOk))
    (C_are_defs : CallOk P w K mg base 13 "are_defs" ["thing"] (spOf K defsOk)) : CallOk P w K mg base 14 "is_program" ["thing"] (spOf K progOk) := by
  refine D.ok sc_is_program (fun vs H Q E h => ?_) (fun f cdv A outer s H vs Q E hr h => ?_)
  · obtain ⟨N, v, d, n, m, rfl, _⟩ := h
    rfl
  · obtain ⟨N, v, d, n, m, rfl, hd, hf, hn, k⟩ := h
    refine ⟨_, (pss_one (ps_ret (pe_and (pe_callOk C_is_row hr (by omega) (by rfl) (pa_cons (pv 0) (pa_cons pe_int (pa_cons pe_int pa_nil)))) (pe_and (pe_callOk C_are_datas hr (by omega) (by rfl) (pa_cons (pe_ix ix_tup (pv 0) pe_int (fun _ _ => rfl)) pa_nil)) (pe_one (pe_callOk C_are_defs hr (by omega) (by rfl) (pa_cons (pe_ix ix_tup (pv 0) pe_int (fun _ _ => rfl)) pa_nil))))))), ?_⟩
    refine ⟨_, rfl, N, v, d, 2, 2, rfl, hd, ?_⟩
    cases hrow : isRowD d 2 2 with
    | false =>
      refine ⟨_, rfl, iteF ?_⟩
      rw [prog_no hrow] at k
      exact k H (Same.refl H)
    | true =>
      refine ⟨_, rfl, iteT ?_⟩
      obtain ⟨a, b, rfl⟩ := row2 hrow
      obtain ⟨t, x, y, rfl, hT, ha, hb⟩ := hd.tup2
      obtain ⟨fa, fb⟩ := fit2 hf
      have k : ∀ H', Same H H' → Q (.bl (datasOk a && defsOk b)) H' := k
      refine ⟨_, rfl, t, _, 0, _, rfl, rfl, hT, rfl, N, x, a, n, m, rfl, ha, fa, hn, fun H1 s1 => ?_⟩
      cases hda : datasOk a with
      | false =>
        refine ⟨_, rfl, iteF ?_⟩
        rw [hda] at k
        exact k H1 s1
      | true =>
        refine ⟨_, rfl, iteT ?_⟩
        rw [hda, Bool.true_and] at k
        exact ⟨_, rfl, t, _, 1, _, rfl, rfl, sqT_same s1 hT, rfl, N, y, b, n, m, rfl, hb.same s1, fb, hn, fun H2 s2 => k H2 (s1.trans s2)⟩
end

section
variable {P : Program} {w : World} {K : PySem.W.Frag} {mg : Str → Option Value} {base : Heap}
theorem ok_rprog (D : DefAt K mg "_law_rough_program" s_law_rough_program ["_law_pen_here", "_law_datas", "_law_makers", "_law_fields", "_law_defs"]) (T : Bl mg) (C_law_draw : CallOk P w K mg base 2 "_law_draw" ["_law_pen_here", "_law_below"] spDraw)
    (C_law_name : CallOk P w K mg base 3 "_law_name" ["_law_pen_here", "_law_gone"] spName) (C_law_rough_kind : CallOk P w K mg base 6 "_law_rough_kind" ["_law_pen_here", "_law_deep"] (spRough K 2))
    (C_law_rough : CallOk P w K mg base 10 "_law_rough" ["_law_pen_here", "_law_deep"] (spRoughT K 3)) : CallOk P w K mg base 11 "_law_rough_program" ["_law_pen_here", "_law_datas", "_law_makers", "_law_fields", "_law_defs"] (spProg K) := by
  refine D.ok sc_law_rough_program (fun vs H Q E h => ?_) (fun f cdv A outer s H vs Q E hr h => ?_)
  · obtain ⟨p, c, a, b, fl, n, rfl, _⟩ := h
    rfl
  · obtain ⟨p, c, a, b, fl, n, rfl, a1, a7, b1, b7, f0, f5, n0, n17, hP, k⟩ := h
    refine ⟨_, (pss_cons (ps_asg (pe_tup (pa_cons (pe_lst pa_nil) (pa_cons (pe_lst pa_nil) (pa_cons (pe_lst pa_nil) pa_nil)))) (pg_tup rfl (pgs_cons (pg_name (i := 5) sc_law_rough_program.nd rfl (Or.inr rfl) (by first | exact .inl rfl | exact .inr rfl)) (pgs_cons (pg_name (i := 6) sc_law_rough_program.nd rfl (Or.inl rfl) (by first | exact .inl rfl | exact .inr rfl)) (pgs_cons (pg_name (i := 7) sc_law_rough_program.nd rfl (Or.inl rfl) (by first | exact .inl rfl | exact .inr rfl)) pgs_nil)))))
        (pss_cons (ps_for PassesOwn.never rfl (pi_range1 (by rfl) T.range_ (pa_cons (pv 1) pa_nil)) (pg_name (i := 8) sc_law_rough_program.nd rfl (Or.inl rfl) (by first | exact .inl rfl | exact .inr rfl)) (pss_one (ps_expr (pe_bm PySem.F.plainAttrs_list PySem.F.slot_list_append PySem.F.type_list_append mt_append (pv 5) (pa_cons (pe_callOk C_law_name hr (by omega) (by rfl) (pa_cons (pv 0) (pa_cons (pv 5) pa_nil))) pa_nil)))))
        (pss_cons (ps_for PassesOwn.never rfl (pi_list (pv 5)) (pg_name (i := 9) sc_law_rough_program.nd rfl (Or.inl rfl) (by first | exact .inl rfl | exact .inr rfl)) (pss_cons (ps_set (i := 10) sc_law_rough_program.nd rfl (Or.inl rfl) (pe_lst pa_nil))
        (pss_cons (ps_for PassesOwn.never rfl (pi_range1 (by rfl) T.range_ (pa_cons (pv 2) pa_nil)) (pg_name (i := 8) sc_law_rough_program.nd rfl (Or.inl rfl) (by first | exact .inl rfl | exact .inr rfl)) (pss_cons (ps_expr (pe_bm PySem.F.plainAttrs_list PySem.F.slot_list_append PySem.F.type_list_append mt_append (pv 6) (pa_cons (pe_callOk C_law_name hr (by omega) (by rfl) (pa_cons (pv 0) (pa_cons (pv 6) pa_nil))) pa_nil)))
        (pss_cons (ps_set (i := 11) sc_law_rough_program.nd rfl (Or.inl rfl) (pe_callOk C_law_draw hr (by omega) (by rfl) (pa_cons (pv 0) (pa_cons (pe_op opAdd (pv 3) pe_int) pa_nil))))
        (pss_one (ps_expr (pe_bm PySem.F.plainAttrs_list PySem.F.slot_list_append PySem.F.type_list_append mt_append (pv 10) (pa_cons (pe_tup (pa_cons (pe_ix ix_list (pv 6) (pe_un un_neg pe_int) (fun _ _ => rfl)) (pa_cons (pe_callTy call_tuple_of (by rfl) T.tuple_ (by decide +kernel) (pa_cons (pe_lc (own := [("_law_k", 12)]) (g := gName 12) (tt := tYes) rfl sc_law_rough_program.nd (pi_range1 (by rfl) T.range_ (pa_cons (pv 11) pa_nil)) (blkOk_by (N := sl_law_rough_program) (sc := defScope s_law_rough_program) (by decide +kernel)) (fun _ _ _ _ _ => pg_name (i := 12) sc_law_rough_program.nd rfl (Or.inl rfl)) (fun _ _ _ _ _ => pts_nil) (fun _ _ _ _ _ => (pe_ix (ix_listK (K := K) rfl) (pv 5) (pe_callOk C_law_draw hr (by omega) (by rfl) (pa_cons (pv 0) (pa_cons (pv 1) pa_nil))) (fun _ _ => rfl)))) pa_nil)) pa_nil))) pa_nil)))))))
        (pss_one (ps_expr (pe_bm PySem.F.plainAttrs_list PySem.F.slot_list_append PySem.F.type_list_append mt_append (pv 7) (pa_cons (pe_tup (pa_cons (pv 9) (pa_cons (pe_callTy call_tuple_of (by rfl) T.tuple_ (by decide +kernel) (pa_cons (pv 10) pa_nil)) pa_nil))) pa_nil)))))))
        (pss_cons (ps_par (i := 13) (j := 14) (by rfl) sc_law_rough_program.nd rfl rfl (by decide) rfl rfl (pa_cons (pe_lst pa_nil) (pa_cons (pe_lst pa_nil) pa_nil)) (by rfl))
        (pss_cons (ps_for PassesOwn.never rfl (pi_range1 (by rfl) T.range_ (pa_cons (pv 4) pa_nil)) (pg_name (i := 8) sc_law_rough_program.nd rfl (Or.inl rfl) (by first | exact .inl rfl | exact .inr rfl)) (pss_cons (ps_expr (pe_bm PySem.F.plainAttrs_list PySem.F.slot_list_append PySem.F.type_list_append mt_append (pv 13) (pa_cons (pe_callOk C_law_name hr (by omega) (by rfl) (pa_cons (pv 0) (pa_cons (pv 13) pa_nil))) pa_nil)))
        (pss_one (ps_expr (pe_bm PySem.F.plainAttrs_list PySem.F.slot_list_append PySem.F.type_list_append mt_append (pv 14) (pa_cons (pe_tup (pa_cons (pe_ix ix_list (pv 13) (pe_un un_neg pe_int) (fun _ _ => rfl)) (pa_cons (pe_callOk C_law_rough_kind hr (by omega) (by rfl) (pa_cons (pv 0) (pa_cons pe_int pa_nil))) (pa_cons (pe_callOk C_law_rough hr (by omega) (by rfl) (pa_cons (pv 0) (pa_cons pe_int pa_nil))) pa_nil)))) pa_nil))))))
        (pss_one (ps_ret (pe_tup (pa_cons (pe_callTy call_tuple_of (by rfl) T.tuple_ (by decide +kernel) (pa_cons (pv 7) pa_nil)) (pa_cons (pe_callTy call_tuple_of (by rfl) T.tuple_ (by decide +kernel) (pa_cons (pv 14) pa_nil)) pa_nil)))))))))), ?_⟩
    refine ⟨Nat.zero_le _, fun S hS => ⟨Nat.zero_le _, fun G hG => ⟨Nat.zero_le _, fun F hF => ?_⟩⟩⟩
    have hG1 : H G = none := none_same (same_new hS) hG
    have hF1 : H F = none := none_same (Same.trans (same_new hS) (same_new hG)) hF
    have nSp := hP.neP hS
    have nGp := hP.neP hG1
    have nFp := hP.neP hF1
    have nSc := hP.neC hS
    have nGc := hP.neC hG1
    have nFc := hP.neC hF1
    have nGS : G ≠ S := (ne_of_none upd_same hG).symm
    have nFG : F ≠ G := (ne_of_none upd_same hF).symm
    have nFS : F ≠ S := (ne_of_none (by rw [upd_ne nGS.symm]; exact upd_same) hF).symm
    refine ⟨le_line (by show 3 ≤ 16000000; decide), fun t0 ht0 => ⟨t0, _, rfl, SqT.of upd_same, rfl, _, _, rfl, _, _, rfl, _, _, rfl, rfl, ?_⟩⟩
    have sm0 := Same.trans (Same.trans (same_new (o := .lst []) hS) (Same.trans (same_new (o := .lst []) hG) (same_new (o := .lst []) hF))) (same_new (o := .tup [V.ref S, V.ref G, V.ref F]) ht0)
    have hP0 := hP.same sm0
    have eF0 : (upd (upd (upd (upd H S (.lst [])) G (.lst [])) F (.lst [])) t0 (.tup [V.ref S, V.ref G, V.ref F])) F = some (.lst []) := same_new ht0 _ _ upd_same
    have eG0 : (upd (upd (upd (upd H S (.lst [])) G (.lst [])) F (.lst [])) t0 (.tup [V.ref S, V.ref G, V.ref F])) G = some (.lst []) := same_new ht0 _ _ (same_new hF _ _ upd_same)
    have eS0 : (upd (upd (upd (upd H S (.lst [])) G (.lst [])) F (.lst [])) t0 (.tup [V.ref S, V.ref G, V.ref F])) S = some (.lst []) := same_new ht0 _ _ (same_new hF _ _ (same_new hG _ _ upd_same))
    -- the data kinds' names
    refine ⟨_, rfl, a, rfl, by omega, by omega, for_range (lo := 0) (n := a.toNat) (fun i σ H' => ∃ (xs : List Str) (v8 : Option V), σ = [some (.ref p), some (.int a), some (.int b), some (.int fl), some (.int n), some (.ref S), some (.ref G), some (.ref F), v8, none, none, none, none, none, none] ∧
        H' S = some (.lst (xs.map V.str)) ∧ xs.length = i ∧ (∀ x ∈ xs, Nm x) ∧ H' G = some (.lst []) ∧ H' F = some (.lst []) ∧ Pen H' p c ∧ Kp p H H') ⟨[], none, rfl, eS0, rfl, fun _ z => (nomatch z), eG0, eF0, hP0, Kp.of sm0⟩ ?_ ?_⟩
    · rintro i σ H1 hi ⟨xs, v8, rfl, g1, g2, g3, g4, g5, hP1, k1⟩
      refine ⟨_, rfl, .inl ⟨rfl, _, SqL.of g1⟩, _, rfl, _, rfl, p, c, S, xs, rfl, hP1, g1, nSp, by omega, fun x H2 hx hP2 k2 => ?_⟩
      refine ⟨S, _, _, rfl, rfl, k2 _ _ g1 nSp, ?_, xs ++ [x], _, rfl, ?_, by rw [List.length_append, g2]; rfl, ?_, ?_, ?_, hP2.keep nSp nSc, (k1.trans k2).mut hS⟩
      · rw [List.length_map]
        exact lt_line (by omega)
      · rw [upd_same, List.map_append]
        rfl
      · intro y hy
        rcases List.mem_append.mp hy with hy | hy
        · exact g3 y hy
        · rw [List.mem_singleton.mp hy]
          exact hx
      · rw [upd_ne nGS]
        exact k2 _ _ g4 nGp
      · rw [upd_ne nFS]
        exact k2 _ _ g5 nFp
    rintro σ H1 ⟨xs, v8, rfl, g1, g2, g3, g4, g5, hP1, k1⟩
    have lx : xs.length ≤ 7 := by omega
    -- the data kinds with their makers
    refine ⟨_, rfl, S, rfl, ⟨_, SqL.of g1⟩, for_list (K := K) (xs := xs.map V.str) (fun i σ H' => ∃ (gs : List Str) (vs : List V) (qs : List DtT) (v8 v9 v10 v11 : Option V), σ = [some (.ref p), some (.int a), some (.int b), some (.int fl), some (.int n), some (.ref S), some (.ref G), some (.ref F), v8, v9, v10, v11, none, none, none] ∧
        H' S = some (.lst (xs.map V.str)) ∧ H' G = some (.lst (gs.map V.str)) ∧ gs.length = i * b.toNat ∧ H' F = some (.lst vs) ∧ DaAll K All H' vs (qs.map dtD) ∧ qs.length = i ∧ (∀ q ∈ qs, DtS q) ∧ Pen H' p c ∧ Kp p H H')
      ⟨[], [], [], _, _, _, _, rfl, g1, g4, (Nat.zero_mul _).symm, g5, .nil, rfl, fun _ z => (nomatch z), hP1, k1⟩ (fun i σ H' _ q => ?_) ?_ ?_⟩
    · obtain ⟨gs, vs, qs, _, _, _, _, _, e, _⟩ := q
      exact SqL.of e
    · rintro i sv σ H2 hsv ⟨gs, vs, qs, w8, w9, w10, w11, rfl, e1, e2, e3, e4, e5, e6, e7, hP2, k2⟩
      obtain ⟨sx, hsx, rfl⟩ := map_get hsv
      have hi : i < xs.length := (List.getElem?_eq_some_iff.mp hsx).1
      refine ⟨Nat.zero_le _, fun M hM => ?_⟩
      have hM0 : H M = none := k2.none hM (hP2.neP hM)
      have nMp := hP2.neP hM
      have nMc := hP2.neC hM
      have nMS : M ≠ S := (ne_of_none e1 hM).symm
      have nMG : M ≠ G := (ne_of_none e2 hM).symm
      have nMF : M ≠ F := (ne_of_none e4 hM).symm
      have sM : Same H2 (upd H2 M (.lst [])) := same_new hM
      refine ⟨_, rfl, b, rfl, by omega, by omega, for_range (lo := 0) (n := b.toNat) (fun j σ H' => ∃ (gs : List Str) (us : List V) (ms : List MkT) (v8 v11 : Option V), σ = [some (.ref p), some (.int a), some (.int b), some (.int fl), some (.int n), some (.ref S), some (.ref G), some (.ref F), v8, some (.str sx), some (.ref M), v11, none, none, none] ∧
          H' S = some (.lst (xs.map V.str)) ∧ H' G = some (.lst (gs.map V.str)) ∧ gs.length = i * b.toNat + j ∧ H' F = some (.lst vs) ∧ DaAll K All H' vs (qs.map dtD) ∧ H' M = some (.lst us) ∧ DaAll K All H' us (ms.map mkD) ∧ ms.length = j ∧ (∀ m ∈ ms, MkS m) ∧ Pen H' p c ∧ Kp p H H')
        ⟨gs, [], [], _, _, rfl, sM _ _ e1, sM _ _ e2, e3, sM _ _ e4, e5.same sM, upd_same, .nil, rfl, fun _ z => (nomatch z), hP2.new hM, k2.lay hM⟩ ?_ ?_⟩
      · rintro j σ H3 hj ⟨gs, us, ms, w8, w11, rfl, e1, e2, e3, e4, e5, d1, d2, d3, d4, hP3, k3⟩
        have hib : i * b.toNat ≤ 7 * 7 := Nat.mul_le_mul (by omega) (by omega)
        refine ⟨_, rfl, .inl ⟨rfl, _, SqL.of e2⟩, _, rfl, _, rfl, p, c, G, gs, rfl, hP3, e2, nGp, by omega, fun x H4 hx hP4 k4 => ?_⟩
        refine ⟨G, _, _, rfl, rfl, k4 _ _ e2 nGp, by rw [List.length_map]; exact lt_line (by omega), ?_⟩
        have eG4 := k4 _ _ e2 nGp
        have k5 : Kp p H (upd H4 G (.lst (gs.map V.str ++ [V.str x]))) := (k3.trans k4).mut hG1
        have hP5 : Pen (upd H4 G (.lst (gs.map V.str ++ [V.str x]))) p c := hP4.keep nGp nGc
        have put : ∀ {ws : List V} {ds : List PyData}, DaAll K All H3 ws ds → DaAll K All (upd H4 G (.lst (gs.map V.str ++ [V.str x]))) ws ds := fun h => (h.kp k4 hP3.noTup trivial).put eG4 (fun _ => by simp) (fun _ _ => by simp) trivial
        have c1 : (upd H4 G (.lst (gs.map V.str ++ [V.str x]))) S = some (.lst (xs.map V.str)) := by
          rw [upd_ne nGS.symm]
          exact k4 _ _ e1 nSp
        have c4 : (upd H4 G (.lst (gs.map V.str ++ [V.str x]))) F = some (.lst vs) := by
          rw [upd_ne nFG]
          exact k4 _ _ e4 nFp
        have c6 : (upd H4 G (.lst (gs.map V.str ++ [V.str x]))) M = some (.lst us) := by
          rw [upd_ne nMG]
          exact k4 _ _ d1 nMp
        have q5 := put e5
        have q6 := put d2
        have eG5 : (upd H4 G (.lst (gs.map V.str ++ [V.str x]))) G = some (.lst (gs.map V.str ++ [V.str x])) := upd_same
        generalize upd H4 G (.lst (gs.map V.str ++ [V.str x])) = H5 at *
        refine ⟨_, rfl, _, rfl, .inl ⟨_, _, rfl, rfl, p, c, _, rfl, hP5, by omega, by omega, fun o H6 o0 o1 hP6 k6 => ?_⟩⟩
        have c1' := k6 _ _ c1 nSp
        have c4' := k6 _ _ c4 nFp
        have c6' := k6 _ _ c6 nMp
        have eG6 := k6 _ _ eG5 nGp
        have q5' := q5.kp k6 hP5.noTup trivial
        have q6' := q6.kp k6 hP5.noTup trivial
        have k06 := k5.trans k6
        obtain ⟨y, hy1, hy2⟩ := at_last (xs := gs.map V.str ++ [V.str x]) (by simp)
        have hyx : y = V.str x := by
          rw [List.length_append] at hy2
          simpa using hy2.symm
        subst hyx
        refine ⟨_, rfl, .inl ⟨rfl, _, SqL.of c6'⟩, _, rfl, _, rfl, G, _, -1, .str x, rfl, rfl, SqL.of eG6, hy1, ?_⟩
        refine ⟨_, rfl, o, rfl, by omega, by omega, fun L hL => ?_⟩
        have nLp := hP6.neP hL
        have nLc := hP6.neC hL
        have hL0 : H L = none := k06.none hL nLp
        have sL : Same H6 (upd H6 L (.lst [])) := same_new hL
        have nLS : L ≠ S := (ne_of_none c1' hL).symm
        have nLG : L ≠ G := (ne_of_none eG6 hL).symm
        have nLF : L ≠ F := (ne_of_none c4' hL).symm
        have nLM : L ≠ M := (ne_of_none c6' hL).symm
        refine lc_range (lo := 0) (n := o.toNat) (fun z H' => ∃ fs : List Str, H' L = some (.lst (fs.map V.str)) ∧ fs.length = z ∧ (∀ f ∈ fs, Nm f) ∧ H' S = some (.lst (xs.map V.str)) ∧ H' G = some (.lst (gs.map V.str ++ [V.str x])) ∧ H' F = some (.lst vs) ∧ H' M = some (.lst us) ∧ DaAll K All H' vs (qs.map dtD) ∧ DaAll K All H' us (ms.map mkD) ∧ Pen H' p c ∧ Kp p H H')
          ⟨[], upd_same, rfl, fun _ z => (nomatch z), sL _ _ c1', sL _ _ eG6, sL _ _ c4', sL _ _ c6', q5'.same sL, q6'.same sL, hP6.new hL, k06.lay hL⟩ ?_ ?_
        · rintro z H7 hz ⟨fs, r1, r2, r3, r4, r5, r6, r7, r8, r9, hP7, k7⟩
          refine ⟨rfl, ?_⟩
          simp only [tYes, if_true]
          refine ⟨_, rfl, _, rfl, _, rfl, p, c, a, rfl, hP7, by omega, by omega, fun u H8 u0 u1 hP8 k8 => ?_⟩
          obtain ⟨u', rfl⟩ : ∃ u' : Nat, u = (u' : Int) := ⟨u.toNat, by omega⟩
          have hu' : u' < xs.length := by omega
          have r1' := k8 _ _ r1 nLp
          refine ⟨S, _, _, .str xs[u'], rfl, rfl, SqL.of (k8 _ _ r4 nSp), atI_nat (by rw [List.getElem?_map, List.getElem?_eq_getElem hu']; rfl), ?_⟩
          have up : ∀ {q : Addr} {ob : HO}, q ≠ L → q ≠ p → H7 q = some ob → (upd H8 L (.lst (fs.map V.str ++ [V.str xs[u']]))) q = some ob := fun n1 n2 e => by
            rw [upd_ne n1]
            exact k8 _ _ e n2
          have upd2 : ∀ {ws : List V} {ds : List PyData}, DaAll K All H7 ws ds → DaAll K All (upd H8 L (.lst (fs.map V.str ++ [V.str xs[u']]))) ws ds := fun h => (h.kp k8 hP7.noTup trivial).put r1' (fun _ => by simp) (fun _ _ => by simp) trivial
          refine ⟨_, r1', by rw [List.length_map]; exact lt_line (by omega), fs ++ [xs[u']], by rw [upd_same, List.map_append]; rfl, by rw [List.length_append, r2]; rfl, ?_, up nLS.symm nSp r4, up nLG.symm nGp r5, up nLF.symm nFp r6, up nLM.symm nMp r7, upd2 r8, upd2 r9, hP8.keep nLp nLc, (k7.trans k8).mut hL0⟩
          intro f hf
          rcases List.mem_append.mp hf with hf | hf
          · exact r3 f hf
          · rw [List.mem_singleton.mp hf]
            exact g3 _ (List.getElem_mem hu')
        · rintro H7 ⟨fs, r1, r2, r3, r4, r5, r6, r7, r8, r9, hP7, k7⟩
          refine ⟨L, _, rfl, .inl ⟨SqL.of r1, fun t1 h1 => ?_⟩⟩
          have s1 : Same H7 (upd H7 t1 (.tup (fs.map V.str))) := same_new h1
          refine ⟨le_line (by show 2 ≤ 16000000; decide), fun t2 h2 => ?_⟩
          have s2 : Same (upd H7 t1 (.tup (fs.map V.str))) (upd (upd H7 t1 (.tup (fs.map V.str))) t2 (.tup [V.str x, V.ref t1])) := same_new h2
          have s3 := s1.trans s2
          have eM := s3 _ _ r7
          have dm : Da K All (upd (upd H7 t1 (.tup (fs.map V.str))) t2 (.tup [V.str x, V.ref t1])) (.ref t2) (mkD (x, fs)) := .tup (SqT.of upd_same) (.cons (.str x) (.cons (.tup (sqT_same s2 (SqT.of upd_same)) (da_names fs)) .nil))
          have hP8 := hP7.same s3
          have k8 := k7.same s3
          have w1 := s3 _ _ r4
          have w2 := s3 _ _ r5
          have w3 := s3 _ _ r6
          have w4 := r8.same s3
          have w5 := r9.same s3
          generalize upd (upd H7 t1 (.tup (fs.map V.str))) t2 (.tup [V.str x, V.ref t1]) = H8 at *
          refine ⟨M, _, _, rfl, rfl, eM, ?_, gs ++ [x], us ++ [.ref t2], ms ++ [(x, fs)], _, _, rfl, ?_, ?_, ?_, ?_, ?_, upd_same, ?_, ?_, ?_, hP8.keep nMp nMc, k8.mut hM0⟩
          · rw [d2.length, List.length_map, d3]
            exact lt_line (by omega)
          · rw [upd_ne nMS.symm]
            exact w1
          · rw [upd_ne nMG.symm, w2, List.map_append]
            rfl
          · rw [List.length_append, e3]
            rfl
          · rw [upd_ne nMF.symm]
            exact w3
          · exact w4.put eM (fun _ => by simp) (fun _ _ => by simp) trivial
          · rw [List.map_append]
            exact (w5.append (.cons dm .nil)).put eM (fun _ => by simp) (fun _ _ => by simp) trivial
          · rw [List.length_append, d3]
            rfl
          · intro m hm
            rcases List.mem_append.mp hm with hm | hm
            · exact d4 m hm
            · rw [List.mem_singleton.mp hm]
              exact ⟨hx, (by omega : fs.length ≤ 5), r3⟩
      · rintro σ H3 ⟨gs, us, ms, w8, w11, rfl, e1, e2, e3, e4, e5, d1, d2, d3, d4, hP3, k3⟩
        refine ⟨_, rfl, .inl ⟨rfl, _, SqL.of e4⟩, _, rfl, _, rfl, M, _, rfl, .inl ⟨SqL.of d1, fun t1 h1 => ?_⟩⟩
        have s1 : Same H3 (upd H3 t1 (.tup us)) := same_new h1
        refine ⟨le_line (by show 2 ≤ 16000000; decide), fun t2 h2 => ?_⟩
        have s2 : Same (upd H3 t1 (.tup us)) (upd (upd H3 t1 (.tup us)) t2 (.tup [V.str sx, V.ref t1])) := same_new h2
        have s3 := s1.trans s2
        have dq : Da K All (upd (upd H3 t1 (.tup us)) t2 (.tup [V.str sx, V.ref t1])) (.ref t2) (dtD (sx, ms)) := .tup (SqT.of upd_same) (.cons (.str sx) (.cons (.tup (sqT_same s2 (SqT.of upd_same)) ((d2.same s1).same s2)) .nil))
        have hP4 := hP3.same s3
        have k4 := k3.same s3
        have w1 := s3 _ _ e1
        have w2 := s3 _ _ e2
        have w3 := s3 _ _ e4
        have w4 := e5.same s3
        generalize upd (upd H3 t1 (.tup us)) t2 (.tup [V.str sx, V.ref t1]) = H4 at *
        refine ⟨F, _, _, rfl, rfl, w3, ?_, gs, vs ++ [.ref t2], qs ++ [(sx, ms)], _, _, _, _, rfl, ?_, ?_, ?_, upd_same, ?_, ?_, ?_, hP4.keep nFp nFc, k4.mut hF1⟩
        · rw [e5.length, List.length_map, e6]
          exact lt_line (by omega)
        · rw [upd_ne nFS.symm]
          exact w1
        · rw [upd_ne nFG.symm]
          exact w2
        · rw [e3, Nat.succ_mul]
        · rw [List.map_append]
          exact (w4.append (.cons dq .nil)).put w3 (fun _ => by simp) (fun _ _ => by simp) trivial
        · rw [List.length_append, e6]
          rfl
        · intro q hq
          rcases List.mem_append.mp hq with hq | hq
          · exact e7 q hq
          · rw [List.mem_singleton.mp hq]
            exact ⟨g3 sx (List.mem_of_getElem? hsx), (by omega : 1 ≤ ms.length), (by omega : ms.length ≤ 7), d4⟩
    rintro σ H2 ⟨gs, vs, qs, w8, w9, w10, w11, rfl, e1, e2, e3, e4, e5, e6, e7, hP2, k2⟩
    rw [List.length_map] at e6
    -- the defs
    refine ⟨Nat.zero_le _, fun N hN => ⟨Nat.zero_le _, fun R hR => ⟨_, _, rfl, ?_⟩⟩⟩
    have sN : Same H2 (upd H2 N (.lst [])) := same_new hN
    have sR : Same (upd H2 N (.lst [])) (upd (upd H2 N (.lst [])) R (.lst [])) := same_new hR
    have s12 := sN.trans sR
    have hN0 : H N = none := k2.none hN (hP2.neP hN)
    have hR2 : H2 R = none := none_same sN hR
    have hR0 : H R = none := k2.none hR2 (hP2.neP hR2)
    have nNp := hP2.neP hN
    have nNc := hP2.neC hN
    have nRp := hP2.neP hR2
    have nRc := hP2.neC hR2
    have nRN : R ≠ N := (ne_of_none upd_same hR).symm
    have nNF : N ≠ F := (ne_of_none e4 hN).symm
    have nRF : R ≠ F := (ne_of_none e4 hR2).symm
    refine ⟨_, rfl, n, rfl, by omega, by omega, for_range (lo := 0) (n := n.toNat) (fun i σ H' => ∃ (ns : List Str) (us : List V) (fs : List DfT) (v8 : Option V), σ = [some (.ref p), some (.int a), some (.int b), some (.int fl), some (.int n), some (.ref S), some (.ref G), some (.ref F), v8, w9, w10, w11, none, some (.ref N), some (.ref R)] ∧
        H' N = some (.lst (ns.map V.str)) ∧ ns.length = i ∧ H' R = some (.lst us) ∧ DaAll K All H' us (fs.map dfD) ∧ fs.length = i ∧ (∀ f ∈ fs, Nm f.1 ∧ Fit 2000 60 f.2.1 ∧ Fit 42740 60 f.2.2) ∧ H' F = some (.lst vs) ∧ DaAll K All H' vs (qs.map dtD) ∧ Pen H' p c ∧ Kp p H H')
      ⟨[], [], [], _, rfl, sR _ _ upd_same, rfl, upd_same, .nil, rfl, fun _ z => (nomatch z), s12 _ _ e4, e5.same s12, hP2.same s12, k2.same s12⟩ ?_ ?_⟩
    · rintro i σ H3 hi ⟨ns, us, fs, w8, rfl, r1, r2, r3, r4, r5, r6, r7, r8, hP3, k3⟩
      refine ⟨_, rfl, .inl ⟨rfl, _, SqL.of r1⟩, _, rfl, _, rfl, p, c, N, ns, rfl, hP3, r1, nNp, by omega, fun x H4 hx hP4 k4 => ?_⟩
      have eN4 := k4 _ _ r1 nNp
      refine ⟨N, _, _, rfl, rfl, eN4, by rw [List.length_map]; exact lt_line (by omega), ?_⟩
      have k5 : Kp p H (upd H4 N (.lst (ns.map V.str ++ [V.str x]))) := (k3.trans k4).mut hN0
      have hP5 : Pen (upd H4 N (.lst (ns.map V.str ++ [V.str x]))) p c := hP4.keep nNp nNc
      have put : ∀ {ws : List V} {ds : List PyData}, DaAll K All H3 ws ds → DaAll K All (upd H4 N (.lst (ns.map V.str ++ [V.str x]))) ws ds := fun h => (h.kp k4 hP3.noTup trivial).put eN4 (fun _ => by simp) (fun _ _ => by simp) trivial
      have c3 : (upd H4 N (.lst (ns.map V.str ++ [V.str x]))) R = some (.lst us) := by
        rw [upd_ne nRN]
        exact k4 _ _ r3 nRp
      have c7 : (upd H4 N (.lst (ns.map V.str ++ [V.str x]))) F = some (.lst vs) := by
        rw [upd_ne nNF.symm]
        exact k4 _ _ r7 nFp
      have q4 := put r4
      have q8 := put r8
      have eN5 : (upd H4 N (.lst (ns.map V.str ++ [V.str x]))) N = some (.lst (ns.map V.str ++ [V.str x])) := upd_same
      generalize upd H4 N (.lst (ns.map V.str ++ [V.str x])) = H5 at *
      obtain ⟨y, hy1, hy2⟩ := at_last (xs := ns.map V.str ++ [V.str x]) (by simp)
      have hyx : y = V.str x := by
        rw [List.length_append] at hy2
        simpa using hy2.symm
      subst hyx
      refine ⟨_, rfl, .inl ⟨rfl, _, SqL.of c3⟩, _, rfl, _, rfl, N, _, -1, .str x, rfl, rfl, SqL.of eN5, hy1, ?_⟩
      refine ⟨_, rfl, p, c, 2, rfl, rfl, by decide, hP5, fun vk dk H6 hk fk hP6 k6 => ?_⟩
      refine ⟨_, rfl, p, c, 3, rfl, by decide, by decide, hP6, fun vt dt H7 ht ft tt hP7 k7 => ?_⟩
      have k67 := k6.trans k7
      have c3' := k67 _ _ c3 nRp
      have c7' := k67 _ _ c7 nFp
      have eN7 := k67 _ _ eN5 nNp
      have q4' := q4.kp k67 hP5.noTup trivial
      have q8' := q8.kp k67 hP5.noTup trivial
      have hk' := hk.kp k7 hP6.noTup trivial
      have k07 := k5.trans k67
      refine ⟨le_line (by show 3 ≤ 16000000; decide), fun t2 h2 => ?_⟩
      have s3 : Same H7 (upd H7 t2 (.tup [V.str x, vk, vt])) := same_new h2
      have df : Da K All (upd H7 t2 (.tup [V.str x, vk, vt])) (.ref t2) (dfD (x, dk, dt)) := .tup (SqT.of upd_same) (.cons (.str x) (.cons (hk'.same s3) (.cons (ht.same s3) .nil)))
      have hP8 := hP7.same s3
      have k8 := k07.same s3
      have z1 := s3 _ _ eN7
      have z3 := s3 _ _ c3'
      have z4 := q4'.same s3
      have z7 := s3 _ _ c7'
      have z8 := q8'.same s3
      generalize upd H7 t2 (.tup [V.str x, vk, vt]) = H8 at *
      refine ⟨R, _, _, rfl, rfl, z3, ?_, ns ++ [x], us ++ [.ref t2], fs ++ [(x, dk, dt)], _, rfl, ?_, ?_, upd_same, ?_, ?_, ?_, ?_, z8.put z3 (fun _ => by simp) (fun _ _ => by simp) trivial, hP8.keep nRp nRc, k8.mut hR0⟩
      · rw [r4.length, List.length_map, r5]
        exact lt_line (by omega)
      · rw [upd_ne nRN.symm, z1, List.map_append]
        rfl
      · rw [List.length_append, r2]
        rfl
      · rw [List.map_append]
        exact (z4.append (.cons df .nil)).put z3 (fun _ => by simp) (fun _ _ => by simp) trivial
      · rw [List.length_append, r5]
        rfl
      · intro f hf
        rcases List.mem_append.mp hf with hf | hf
        · exact r6 f hf
        · rw [List.mem_singleton.mp hf]
          exact ⟨hx, fk.le (by decide) (by decide), ft.le (by decide) (by decide)⟩
      · rw [upd_ne nRF.symm]
        exact z7
    · rintro σ H3 ⟨ns, us, fs, w8, rfl, r1, r2, r3, r4, r5, r6, r7, r8, hP3, k3⟩
      refine ⟨_, rfl, F, _, rfl, .inl ⟨SqL.of r7, fun t1 h1 => ?_⟩⟩
      have s1 : Same H3 (upd H3 t1 (.tup vs)) := same_new h1
      refine ⟨_, rfl, R, _, rfl, .inl ⟨SqL.of (s1 _ _ r3), fun t2 h2 => ?_⟩⟩
      have s2 : Same (upd H3 t1 (.tup vs)) (upd (upd H3 t1 (.tup vs)) t2 (.tup us)) := same_new h2
      refine ⟨le_line (by show 2 ≤ 16000000; decide), fun t3 h3 => ?_⟩
      have s3 : Same (upd (upd H3 t1 (.tup vs)) t2 (.tup us)) (upd (upd (upd H3 t1 (.tup vs)) t2 (.tup us)) t3 (.tup [V.ref t1, V.ref t2])) := same_new h3
      have sm := (s1.trans s2).trans s3
      refine k _ qs fs _ ⟨t3, t1, t2, vs, us, rfl, SqT.of upd_same, sqT_same (s2.trans s3) (SqT.of upd_same), r8.same sm, sqT_same s3 (SqT.of upd_same), r4.same sm⟩ ⟨by omega, by omega, e7⟩ ⟨by omega, r6⟩ r5 (hP3.same sm) (k3.same sm)
end

section
variable {P : Program} {w : World} {K : PySem.W.Frag} {mg : Str → Option Value} {base : Heap}
theorem ok_chain (D : DefAt K mg "_law_chain" s_law_chain ["_law_pen_here", "_law_often"]) (T : Bl mg) (C_law_draw : CallOk P w K mg base 2 "_law_draw" ["_law_pen_here", "_law_below"] spDraw) : CallOk P w K mg base 3 "_law_chain" ["_law_pen_here", "_law_often"] (spChain K) := by
  refine D.ok sc_law_chain (fun vs H Q E h => ?_) (fun f cdv A outer s H vs Q E hr h => ?_)
  · obtain ⟨p, c, z, rfl, _⟩ := h
    rfl
  · obtain ⟨p, c, z, rfl, hz1, hz7, hP, k⟩ := h
    refine ⟨_, (pss_cons (ps_set (i := 2) sc_law_chain.nd rfl (Or.inl rfl) pe_str)
        (pss_cons (ps_for PassesOwn.never rfl (pi_range1 (by rfl) T.range_ (pa_cons (pe_op op_sub (pv 1) pe_int) pa_nil)) (pg_name (i := 3) sc_law_chain.nd rfl (Or.inl rfl) (by first | exact .inl rfl | exact .inr rfl)) (pss_one (ps_set (i := 2) sc_law_chain.nd rfl (Or.inl rfl) (pe_tup (pa_cons (pe_ix ix_list (pe_lst (pa_cons pe_str (pa_cons pe_str pa_nil))) (pe_callOk C_law_draw hr (by omega) (by rfl) (pa_cons (pv 0) (pa_cons pe_int pa_nil))) (fun _ _ => rfl)) (pa_cons (pv 2) (pa_cons pe_str pa_nil)))))))
        (pss_one (ps_ret (pv 2))))), ?_⟩
    refine ⟨_, rfl, _, _, rfl, rfl, _, rfl, by omega, by omega, for_range (lo := 0) (n := (z - 1).toNat) (fun i σ H' => ∃ v d v3, σ = [some (.ref p), some (.int z), some v, v3] ∧ Da K All H' v d ∧ Fit (90 + i * 110) i d ∧ Pen H' p c ∧ Kp p H H')
      ⟨.str (Str.ofString "d"), .str (Str.ofString "d"), none, rfl, .str _, (fit_sign (by decide +kernel)).le (by omega) (Nat.zero_le _), hP, Kp.refl⟩ ?_ ?_⟩
    · rintro i σ H2 hi ⟨v, d, v3, rfl, hd, hf, hP2, k2⟩
      refine ⟨le_line (by show 2 ≤ 16000000; decide), fun sgl hsg => ?_⟩
      refine ⟨_, rfl, p, c, 2, rfl, hP2.new hsg, by decide, by decide, fun l H6 l0 l1 hP6 k6 => ?_⟩
      obtain ⟨sx, hsx, fsx, _⟩ := sign_at l0 l1
      have s2 : Same H2 (upd H2 sgl (.lst signs3)) := same_new hsg
      refine ⟨sgl, _, l, .str sx, rfl, rfl, SqL.of (k6 _ _ upd_same (hP2.neP hsg)), hsx, ?_⟩
      refine ⟨_, rfl, le_line (by show 3 ≤ 16000000; decide), fun t ht => ?_⟩
      have s3 : Same H6 (upd H6 t (.tup [V.str sx, v, V.str (Str.ofString "d")])) := same_new ht
      have d6 : Da K All H6 v d := (hd.same s2).kp k6 (hP2.same s2).noTup trivial
      refine ⟨.ref t, .tuple [.str sx, d, .str (Str.ofString "d")], _, rfl, .tup (SqT.of upd_same) (.cons (.str sx) (.cons (d6.same s3) (.cons (.str _) .nil))), ?_, hP6.same s3, ((k2.same s2).trans k6).same s3⟩
      refine (Fit.tup (.cons (fsx.le (Nat.le_refl _) (Nat.zero_le _)) (.cons hf (.cons ((fit_sign (by decide +kernel)).le (Nat.le_refl _) (Nat.zero_le _)) (FitAll.nil (n := 0)))))).le ?_ (Nat.le_refl _)
      omega
    · rintro σ H2 ⟨v, d, v3, rfl, hd, hf, hP2, k2⟩
      exact ⟨_, rfl, k v d H2 hd (hf.le (by omega) (by omega)) hP2 k2⟩
end

section
variable {P : Program} {w : World} {K : PySem.W.Frag} {mg : Str → Option Value} {base : Heap}
theorem ok_beyond (D : DefAt K mg "_law_beyond" s_law_beyond ["_law_pen_here"]) (T : Bl mg) (C_law_draw : CallOk P w K mg base 2 "_law_draw" ["_law_pen_here", "_law_below"] spDraw) : CallOk P w K mg base 3 "_law_beyond" ["_law_pen_here"] (spBeyond K) := by
  refine D.ok sc_law_beyond (fun vs H Q E h => ?_) (fun f cdv A outer s H vs Q E hr h => ?_)
  · obtain ⟨p, c, rfl, _⟩ := h
    rfl
  · obtain ⟨p, c, rfl, hP, k⟩ := h
    refine ⟨_, (pss_cons (ps_set (i := 1) sc_law_beyond.nd rfl (Or.inl rfl) pe_str)
        (pss_cons (ps_for PassesOwn.never rfl (pi_range1 (by rfl) T.range_ (pa_cons (pe_op opAdd pe_int (pe_callOk C_law_draw hr (by omega) (by rfl) (pa_cons (pv 0) (pa_cons pe_int pa_nil)))) pa_nil)) (pg_name (i := 2) sc_law_beyond.nd rfl (Or.inl rfl) (by first | exact .inl rfl | exact .inr rfl)) (pss_one (ps_set (i := 1) sc_law_beyond.nd rfl (Or.inl rfl) (pe_tup (pa_cons pe_str (pa_cons pe_str (pa_cons (pv 1) pa_nil)))))))
        (pss_cons (ps_set (i := 3) sc_law_beyond.nd rfl (Or.inl rfl) (pe_tup (pa_cons pe_str (pa_cons pe_str (pa_cons (pe_op op_repT (pe_tup (pa_cons (pe_tup (pa_cons pe_str (pa_cons pe_str (pa_cons pe_str (pa_cons pe_str pa_nil))))) pa_nil)) pe_int) pa_nil)))))
        (pss_cons (ps_for PassesOwn.never rfl (pi_range1 (by rfl) T.range_ (pa_cons pe_int pa_nil)) (pg_name (i := 2) sc_law_beyond.nd rfl (Or.inl rfl) (by first | exact .inl rfl | exact .inr rfl)) (pss_one (ps_set (i := 3) sc_law_beyond.nd rfl (Or.inl rfl) (pe_tup (pa_cons pe_str (pa_cons pe_str (pa_cons (pe_tup (pa_cons (pv 3) (pa_cons (pv 3) (pa_cons (pv 3) (pa_cons (pv 3) pa_nil))))) pa_nil)))))))
        (pss_one (ps_ret (pe_ix ix_list (pe_lst (pa_cons (pv 1) (pa_cons (pe_tup (pa_cons pe_str (pa_cons (pv 3) (pa_cons (pe_tup (pa_cons pe_str (pa_cons pe_str (pa_cons (pv 3) pa_nil)))) pa_nil)))) pa_nil))) (pe_callOk C_law_draw hr (by omega) (by rfl) (pa_cons (pv 0) (pa_cons pe_int pa_nil))) (fun _ _ => rfl)))))))), ?_⟩
    refine ⟨_, rfl, p, c, 3, rfl, hP, by decide, by decide, fun m H1 m0 m1 hP1 k1 => .inl ⟨_, _, rfl, rfl, ?_⟩⟩
    refine ⟨_, rfl, by omega, by omega, for_range (lo := 0) (n := (28 + m).toNat) (fun i σ H' => ∃ v d v2, σ = [some (.ref p), some v, v2, none] ∧ Da K All H' v d ∧ Fit (4 + i * 20) i d ∧ Pen H' p c ∧ Kp p H H')
      ⟨.str (Str.ofString "x"), .str (Str.ofString "x"), none, rfl, .str _, fit_sign (by decide +kernel), hP1, k1⟩ ?_ ?_⟩
    · rintro i σ H2 hi ⟨v, d, v2, rfl, hd, hf, hP2, k2⟩
      refine ⟨_, rfl, le_line (by show 3 ≤ 16000000; decide), fun t ht => ?_⟩
      have s3 : Same H2 (upd H2 t (.tup [V.str (Str.ofString "!"), V.str (Str.ofString "x"), v])) := same_new ht
      refine ⟨.ref t, .tuple [.str (Str.ofString "!"), .str (Str.ofString "x"), d], _, rfl, .tup (SqT.of upd_same) (.cons (.str _) (.cons (.str _) (.cons (hd.same s3) .nil))), ?_, hP2.same s3, k2.same s3⟩
      refine (Fit.tup (.cons ((fit_sign (by decide +kernel)).le (Nat.le_refl _) (Nat.zero_le _)) (.cons ((fit_sign (by decide +kernel)).le (Nat.le_refl _) (Nat.zero_le _)) (.cons hf (FitAll.nil (n := 0)))))).le ?_ (Nat.le_refl _)
      omega
    rintro σ H2 ⟨v, d, v2, rfl, hd, hf, hP2, k2⟩
    have f1 : ∀ {x : Str} {m : Nat}, wt (.str x) ≤ 4 → Fit 4 m (.str x) := fun h => (fit_sign h).le (Nat.le_refl _) (Nat.zero_le _)
    -- a wide one
    refine ⟨le_line (by show 4 ≤ 16000000; decide), fun t1 h1 => ⟨le_line (by show 1 ≤ 16000000; decide), fun t2 h2 => ⟨t2, 4, _, rfl, rfl, SqT.of upd_same, by simp, by decide, by decide, (by show 1 ≤ 1000; decide), fun t3 h3 => ⟨le_line (by show 3 ≤ 16000000; decide), fun t4 h4 => ?_⟩⟩⟩⟩
    have q1 : Same H2 (upd H2 t1 (.tup [V.str (Str.ofString "^"), V.str (Str.ofString "x"), V.str (Str.ofString "d"), V.str (Str.ofString "x")])) := same_new h1
    have q2 := same_new (o := .tup [V.ref t1]) h2
    have q3 := same_new (o := .tup [V.ref t1, V.ref t1, V.ref t1, V.ref t1]) h3
    have q4 := same_new (o := .tup [V.str (Str.ofString "#"), V.str (Str.ofString "c"), V.ref t3]) h4
    have sm := Same.trans q1 (Same.trans q2 (Same.trans q3 q4))
    have dl : Da K All (upd (upd (upd (upd H2 t1 (.tup [V.str (Str.ofString "^"), V.str (Str.ofString "x"), V.str (Str.ofString "d"), V.str (Str.ofString "x")])) t2 (.tup [V.ref t1])) t3 (.tup [V.ref t1, V.ref t1, V.ref t1, V.ref t1])) t4 (.tup [V.str (Str.ofString "#"), V.str (Str.ofString "c"), V.ref t3])) (.ref t1)
        (.tuple [.str (Str.ofString "^"), .str (Str.ofString "x"), .str (Str.ofString "d"), .str (Str.ofString "x")]) := .tup (sqT_same (Same.trans q2 (Same.trans q3 q4)) (SqT.of upd_same)) (.cons (.str _) (.cons (.str _) (.cons (.str _) (.cons (.str _) .nil))))
    have fl : Fit 28 1 (.tuple [.str (Str.ofString "^"), .str (Str.ofString "x"), .str (Str.ofString "d"), .str (Str.ofString "x")]) :=
      (Fit.tup (m := 0) (.cons (f1 (by decide +kernel)) (.cons (f1 (by decide +kernel)) (.cons (f1 (by decide +kernel)) (.cons (f1 (by decide +kernel)) (FitAll.nil (n := 0))))))).le (by omega) (by omega)
    have four : ∀ {d : PyData} {n m : Nat}, Fit n m d → Fit (4 * n + 30) (m + 2) (.tuple [.str (Str.ofString "#"), .str (Str.ofString "c"), .tuple [d, d, d, d]]) := fun {d n m} f => by
      have g := Fit.tup (.cons f (.cons f (.cons f (.cons f (FitAll.nil (n := 0))))))
      exact (Fit.tup (.cons (f1 (by decide +kernel)) (.cons (f1 (by decide +kernel)) (.cons g (FitAll.nil (n := 0)))))).le (by omega) (by omega)
    have dw : Da K All (upd (upd (upd (upd H2 t1 (.tup [V.str (Str.ofString "^"), V.str (Str.ofString "x"), V.str (Str.ofString "d"), V.str (Str.ofString "x")])) t2 (.tup [V.ref t1])) t3 (.tup [V.ref t1, V.ref t1, V.ref t1, V.ref t1])) t4 (.tup [V.str (Str.ofString "#"), V.str (Str.ofString "c"), V.ref t3])) (.ref t4)
        (.tuple [.str (Str.ofString "#"), .str (Str.ofString "c"), .tuple [_, _, _, _]]) := .tup (SqT.of upd_same) (.cons (.str _) (.cons (.str _) (.cons (.tup (sqT_same q4 (SqT.of upd_same)) (.cons dl (.cons dl (.cons dl (.cons dl .nil))))) .nil)))
    refine ⟨2, rfl, by decide, by decide, for_range (lo := 0) (n := 2) (fun i σ H' => ∃ v2 vw dw n m, σ = [some (.ref p), some v, v2, some vw] ∧ Da K All H' v d ∧ Da K All H' vw dw ∧ Fit n m dw ∧ n + 10 = 152 * 4 ^ i ∧ m = 3 + 2 * i ∧ Pen H' p c ∧ Kp p H H')
      ⟨_, _, _, _, _, rfl, hd.same sm, dw, four fl, by decide, by decide, hP2.same sm, k2.same sm⟩ ?_ ?_⟩
    · rintro i σ H3 hi ⟨v2, vw, dw, n, m, rfl, g1, g2, g3, g4, g5, hP3, k3⟩
      refine ⟨_, rfl, _, rfl, _, rfl, _, rfl, le_line (by show 4 ≤ 16000000; decide), fun t5 h5 => ⟨le_line (by show 3 ≤ 16000000; decide), fun t6 h6 => ?_⟩⟩
      have q5 := same_new (o := .tup [vw, vw, vw, vw]) h5
      have q6 := same_new (o := .tup [V.str (Str.ofString "#"), V.str (Str.ofString "c"), V.ref t5]) h6
      have sm := Same.trans q5 q6
      have g2' := g2.same sm
      refine ⟨_, _, _, _, _, rfl, g1.same sm, .tup (SqT.of upd_same) (.cons (.str _) (.cons (.str _) (.cons (.tup (sqT_same q6 (SqT.of upd_same)) (.cons g2' (.cons g2' (.cons g2' (.cons g2' .nil))))) .nil))), four g3, ?_, by omega, hP3.same sm, k3.same sm⟩
      rw [Nat.pow_succ]
      omega
    rintro σ H3 ⟨v2, vw, dw, n, m, rfl, g1, g2, g3, g4, g5, hP3, k3⟩
    have hn : n = 2422 := by omega
    refine ⟨_, rfl, _, rfl, _, rfl, le_line (by show 3 ≤ 16000000; decide), fun t5 h5 => ⟨le_line (by show 3 ≤ 16000000; decide), fun t6 h6 => ⟨le_line (by show 2 ≤ 16000000; decide), fun L hL => ?_⟩⟩⟩
    have q5 : Same H3 (upd H3 t5 (.tup [V.str (Str.ofString "&"), V.str (Str.ofString "x"), vw])) := same_new h5
    have q6 := same_new (o := .tup [V.str (Str.ofString "&"), vw, V.ref t5]) h6
    have q7 := same_new (o := .lst [v, V.ref t6]) hL
    have s57 := Same.trans q5 (Same.trans q6 q7)
    have hP4 := hP3.same s57
    refine ⟨_, rfl, p, c, 2, rfl, hP4, by decide, by decide, fun l H5 l0 l1 hP5 k5 => ?_⟩
    have nLp : L ≠ p := (hP3.same (Same.trans q5 q6)).neP hL
    have eL := k5 _ _ upd_same nLp
    have k05 := (k3.same s57).trans k5
    have hl : l = 0 ∨ l = 1 := by omega
    rcases hl with rfl | rfl
    · exact ⟨L, _, _, v, rfl, rfl, SqL.of eL, rfl, k v d H5 ((g1.same s57).kp k5 hP4.noTup trivial) (hf.le (by omega) (by omega)) hP5 k05⟩
    · have dd : Da K All _ (.ref t6) (.tuple [.str (Str.ofString "&"), dw, .tuple [.str (Str.ofString "&"), .str (Str.ofString "x"), dw]]) := .tup (sqT_same q7 (SqT.of upd_same)) (.cons (.str _) (.cons (g2.same s57) (.cons (.tup (sqT_same (Same.trans q6 q7) (SqT.of upd_same)) (.cons (.str _) (.cons (.str _) (.cons (g2.same s57) .nil)))) .nil)))
      have fi := Fit.tup (.cons (f1 (x := Str.ofString "&") (by decide +kernel)) (.cons (f1 (x := Str.ofString "x") (by decide +kernel)) (.cons g3 (FitAll.nil (n := 0)))))
      have fo := Fit.tup (.cons (f1 (x := Str.ofString "&") (by decide +kernel)) (.cons (g3.le (Nat.le_refl _) (Nat.le_succ _)) (.cons fi (FitAll.nil (n := 0)))))
      exact ⟨L, _, _, .ref t6, rfl, rfl, SqL.of eL, rfl, k (.ref t6) _ H5 (dd.kp k5 hP4.noTup trivial) (fo.le (by omega) (by omega)) hP5 k05⟩
end

section
variable {P : Program} {w : World} {K : PySem.W.Frag} {mg : Str → Option Value} {base : Heap}
theorem ok_lisdata (D : DefAt K mg "_law_is_data" s_law_is_data ["_law_thing"]) (T : Bl mg) (C_law_is_name : CallOk P w K mg base 1 "_law_is_name" ["_law_thing"] (spIsName K)) : CallOk P w K mg base 2 "_law_is_data" ["_law_thing"] (spOf K lDt) := by
  refine D.ok sc_law_is_data (fun vs H Q E h => ?_) (fun f cdv A outer s H vs Q E hr h => ?_)
  · obtain ⟨N, v, d, n, m, rfl, _⟩ := h
    rfl
  · obtain ⟨N, v, d, n, m, rfl, hd, hf, hn, k⟩ := h
    refine ⟨_, (pss_cons (ps_if (PW.pt (pw_or (pt_not (pt_val (pe_callB call_isD (by rfl) T.isinstance_ (by decide +kernel) (pa_cons (pv 0) (pa_cons (pe_bltn (v := .ty "tuple") (by rfl) T.tuple_ (by decide +kernel) rfl) pa_nil))))) (pw_or (pt_cmpR op_ne (pe_callB call_len_seq (by rfl) T.len_ (by decide +kernel) (pa_cons (pv 0) pa_nil)) pe_int (nomark _)) (pw_or1 (pt_not (pt_val (pe_callOk C_law_is_name hr (by omega) (by rfl) (pa_cons (pe_ix ix_tup (pv 0) pe_int (fun _ _ => rfl)) pa_nil)))))))) (pss_one (ps_ret pe_bl)) pss_nil)
        (pss_cons (ps_if (PW.pt (pw_or (pt_not (pt_val (pe_callB call_isD (by rfl) T.isinstance_ (by decide +kernel) (pa_cons (pe_ix ix_tup (pv 0) pe_int (fun _ _ => rfl)) (pa_cons (pe_bltn (v := .ty "tuple") (by rfl) T.tuple_ (by decide +kernel) rfl) pa_nil))))) (pw_or1 (pt_not (pt_chain op_le op_le pe_int (pe_callB call_len_seq (by rfl) T.len_ (by decide +kernel) (pa_cons (pe_ix ix_tup (pv 0) pe_int (fun _ _ => rfl)) pa_nil)) pe_int))))) (pss_one (ps_ret pe_bl)) pss_nil)
        (pss_cons (ps_for PassesOwn.never rfl (pi_tup (pe_ix ix_tup (pv 0) pe_int (fun _ _ => rfl))) (pg_name (i := 1) sc_law_is_data.nd rfl (Or.inl rfl) (by first | exact .inl rfl | exact .inr rfl)) (pss_cons (ps_if (PW.pt (pw_or (pt_not (pt_val (pe_callB call_isD (by rfl) T.isinstance_ (by decide +kernel) (pa_cons (pv 1) (pa_cons (pe_bltn (v := .ty "tuple") (by rfl) T.tuple_ (by decide +kernel) rfl) pa_nil))))) (pw_or (pt_cmpR op_ne (pe_callB call_len_seq (by rfl) T.len_ (by decide +kernel) (pa_cons (pv 1) pa_nil)) pe_int (nomark _)) (pw_or1 (pt_not (pt_val (pe_callOk C_law_is_name hr (by omega) (by rfl) (pa_cons (pe_ix ix_tup (pv 1) pe_int (fun _ _ => rfl)) pa_nil)))))))) (pss_one (ps_ret pe_bl)) pss_nil)
        (pss_one (ps_if (PW.pt (pw_or (pt_not (pt_val (pe_callB call_isD (by rfl) T.isinstance_ (by decide +kernel) (pa_cons (pe_ix ix_tup (pv 1) pe_int (fun _ _ => rfl)) (pa_cons (pe_bltn (v := .ty "tuple") (by rfl) T.tuple_ (by decide +kernel) rfl) pa_nil))))) (pw_or1 (pt_cmpR op_gt (pe_callB call_len_seq (by rfl) T.len_ (by decide +kernel) (pa_cons (pe_ix ix_tup (pv 1) pe_int (fun _ _ => rfl)) pa_nil)) pe_int (nomark _))))) (pss_one (ps_ret pe_bl)) pss_nil))))
        (pss_one (ps_ret pe_bl))))), ?_⟩
    refine ⟨_, rfl, N, v, d, "tuple", rfl, hd, .inr (.inl rfl), _, rfl, ?_⟩
    by_cases htu : tyD d = "tuple"
    case neg =>
      rw [decide_eq_false htu]
      refine iteT (iteT ?_)
      rw [lDt_no (row_no htu)] at k
      exact k H (Same.refl H)
    obtain ⟨ds, rfl⟩ := ty_tup htu
    obtain ⟨t, us, rfl, hT, hA⟩ := hd.tupInv
    have hlu := hA.length
    refine iteF ?_
    refine ⟨_, rfl, t, us, rfl, .inr hT, rfl, _, rfl, ?_⟩
    by_cases hl : ds.length = 2
    case neg =>
      refine iteNF (by rw [hlu]; exact int_ne hl) (iteT ?_)
      rw [lDt_no (row_two hl)] at k
      exact k H (Same.refl H)
    obtain ⟨a, b, rfl⟩ := len2 hl
    refine iteND (by rw [hlu]; rfl) ?_
    obtain ⟨t', x, y, e, hT', ha, hb⟩ := hd.tup2
    obtain rfl : t = t' := by injection e
    obtain ⟨fa, fb⟩ := fit2 hf
    have k : ∀ H', Same H H' → Q (.bl (isNameD a && (isRowD b 1 6 && (itD b).all lMk))) H' := k
    refine ⟨_, rfl, t, _, 0, x, rfl, rfl, hT', rfl, N, x, a, n, m, rfl, ha, fa, hn, fun H1 s1 => ?_⟩
    cases hna : isNameD a with
    | false =>
      refine ⟨_, rfl, iteT ?_⟩
      rw [hna] at k
      exact k H1 s1
    | true =>
      refine ⟨_, rfl, iteF ?_⟩
      rw [hna, Bool.true_and] at k
      have hT1 := sqT_same s1 hT'
      refine ⟨_, rfl, t, _, 1, y, rfl, rfl, hT1, rfl, N, y, b, "tuple", rfl, hb.same s1, .inr (.inl rfl), _, rfl, ?_⟩
      by_cases htb : tyD b = "tuple"
      case neg =>
        rw [decide_eq_false htb]
        refine iteT (iteT ?_)
        rw [row_no htb] at k
        exact k H1 s1
      obtain ⟨ms, rfl⟩ := ty_tup htb
      obtain ⟨t2, ums, rfl, hT2, hB⟩ := hb.tupInv
      have hlm := hB.length
      have hT21 := sqT_same s1 hT2
      refine iteF ?_
      refine ⟨_, rfl, t, _, 1, _, rfl, rfl, hT1, rfl, t2, ums, rfl, .inr hT21, ?_⟩
      rw [hlm]
      have bad : isRowD (.tuple ms) 1 6 = false → Q (.bl false) H1 := fun e => by
        have q := k H1 s1
        rwa [e] at q
      refine ⟨_, _, rfl, rfl, _, rfl, ?_⟩
      by_cases o1 : (1 : Int) ≤ (ms.length : Int)
      case neg => exact iteDN o1 ⟨_, rfl, iteT (bad (by rw [row_is]; exact decide_eq_false fun z => o1 z.1))⟩
      refine iteD o1 ?_
      refine ⟨_, _, rfl, rfl, _, rfl, ?_⟩
      by_cases o6 : (ms.length : Int) ≤ 6
      case neg => exact iteNF o6 (bad (row_big o6))
      refine iteND o6 ?_
      rw [row_ok o1 o6, Bool.true_and] at k
      have k : ∀ H', Same H H' → Q (.bl (ms.all lMk)) H' := k
      have fms := fb.inner
      refine ⟨_, rfl, t, _, 1, _, rfl, rfl, hT1, rfl, t2, rfl, ⟨_, hT21⟩, for_tup (K := K) (xs := ums) (fun i σ H' => ∃ v1, σ = [some (.ref t), v1] ∧ Same H H' ∧ (ms.take i).all lMk = true) ⟨_, rfl, s1, rfl⟩ (fun i σ H' _ q => ?_) ?_ ?_⟩
      · obtain ⟨_, _, q, _⟩ := q
        exact sqT_same q hT2
      · rintro i u σ H2 hu ⟨v1, rfl, s2, hall⟩
        obtain ⟨dx, hdx, hxd0⟩ := hB.get hu
        have hxd := hxd0.same s2
        have fx := fms.mem (List.mem_of_getElem? hdx)
        have bad : ∀ H', Same H H' → lMk dx = false → Q (.bl false) H' := fun H' s' e => by
          have q := k H' s'
          have : ms.all lMk = false := by
            rw [List.all_eq_false]
            exact ⟨dx, List.mem_of_getElem? hdx, by rw [e]; exact Bool.false_ne_true⟩
          rwa [this] at q
        refine ⟨_, rfl, N, u, dx, "tuple", rfl, hxd, .inr (.inl rfl), _, rfl, ?_⟩
        by_cases htx : tyD dx = "tuple"
        case neg =>
          rw [decide_eq_false htx]
          exact iteT (iteT (bad H2 s2 (lMk_no (row_no htx))))
        obtain ⟨es, rfl⟩ := ty_tup htx
        obtain ⟨tx, xs, rfl, hTx, hX⟩ := hxd.tupInv
        have hlx := hX.length
        refine iteF ?_
        refine ⟨_, rfl, tx, xs, rfl, .inr hTx, rfl, _, rfl, ?_⟩
        by_cases hl2 : es.length = 2
        case neg => exact iteNF (by rw [hlx]; exact int_ne hl2) (iteT (bad H2 s2 (lMk_no (row_two hl2))))
        obtain ⟨c, fd, rfl⟩ := len2 hl2
        refine iteND (by rw [hlx]; rfl) ?_
        obtain ⟨t', xc, xf, e, hTx', hc, hfd⟩ := hxd.tup2
        obtain rfl : tx = t' := by injection e
        obtain ⟨fc, ff⟩ := fit2 fx
        have ev : lMk (.tuple [c, fd]) = (isNameD c && isRowD fd 0 4) := rfl
        rw [ev] at bad
        refine ⟨_, rfl, tx, _, 0, xc, rfl, rfl, hTx', rfl, N, xc, c, n, m, rfl, hc, fc, hn, fun H3 s3 => ?_⟩
        cases hnc : isNameD c with
        | false =>
          refine ⟨_, rfl, iteT (bad H3 (s2.trans s3) ?_)⟩
          rw [hnc]
          rfl
        | true =>
          refine ⟨_, rfl, iteF ?_⟩
          rw [hnc, Bool.true_and] at bad
          have s23 := s2.trans s3
          have hTx3 := sqT_same s3 hTx'
          refine ⟨_, rfl, tx, _, 1, xf, rfl, rfl, hTx3, rfl, N, xf, fd, "tuple", rfl, hfd.same s3, .inr (.inl rfl), _, rfl, ?_⟩
          by_cases htf : tyD fd = "tuple"
          case neg =>
            rw [decide_eq_false htf]
            exact iteT (iteT (bad H3 s23 (row_no htf)))
          obtain ⟨gs, rfl⟩ := ty_tup htf
          obtain ⟨tf, yf, rfl, hTf, hF⟩ := hfd.tupInv
          have hlf := hF.length
          refine iteF ?_
          refine ⟨_, rfl, tx, _, 1, _, rfl, rfl, hTx3, rfl, tf, yf, rfl, .inr (sqT_same s3 hTf), _, _, rfl, rfl, _, rfl, ?_⟩
          rw [hlf]
          by_cases o4 : (4 : Int) < (gs.length : Int)
          · refine iteD o4 (bad H3 s23 (row_big (by omega)))
          · refine iteDN o4 ⟨_, rfl, s23, ?_⟩
            rw [List.take_add_one, hdx, List.all_append, hall]
            show (true && ((isNameD c && isRowD (.tuple gs) 0 4) && true)) = true
            rw [hnc, row_ok (by omega) (by omega)]
            rfl
      · rintro σ H2 ⟨v1, rfl, s2, hall⟩
        rw [List.take_of_length_le (by omega)] at hall
        have q := k H2 s2
        rw [hall] at q
        exact q
end

section
variable {P : Program} {w : World} {K : PySem.W.Frag} {mg : Str → Option Value} {base : Heap}
theorem ok_lisprog (D : DefAt K mg "_law_is_program" s_law_is_program ["_law_thing"]) (T : Bl mg) (C_law_is_name : CallOk P w K mg base 1 "_law_is_name" ["_law_thing"] (spIsName K)) (C_law_is_kind : CallOk P w K mg base 7 "_law_is_kind" ["_law_thing", "_law_deep"] (spKindW K 6))
    (C_law_is_term : CallOk P w K mg base 40 "_law_is_term" ["_law_thing"] (spOf8 K termD)) (C_law_is_data : CallOk P w K mg base 2 "_law_is_data" ["_law_thing"] (spOf K lDt)) : CallOk P w K mg base 41 "_law_is_program" ["_law_thing"] (spOf8 K progOk) := by
  refine D.ok sc_law_is_program (fun vs H Q E h => ?_) (fun f cdv A outer s H vs Q E hr h => ?_)
  · obtain ⟨N, v, d, n, m, rfl, _⟩ := h
    rfl
  · obtain ⟨N, v, d, n, m, rfl, hd, hf, hn8, k⟩ := h
    have hn : n ≤ 16000000 := by omega
    refine ⟨_, (pss_cons (ps_if (PW.pt (pw_or (pt_not (pt_val (pe_callB call_isD (by rfl) T.isinstance_ (by decide +kernel) (pa_cons (pv 0) (pa_cons (pe_bltn (v := .ty "tuple") (by rfl) T.tuple_ (by decide +kernel) rfl) pa_nil))))) (pw_or1 (pt_cmpR op_ne (pe_callB call_len_seq (by rfl) T.len_ (by decide +kernel) (pa_cons (pv 0) pa_nil)) pe_int (nomark _))))) (pss_one (ps_ret pe_bl)) pss_nil)
        (pss_cons (ps_asg (pv 0) (pg_tup rfl (pgs_cons (pg_name (i := 1) sc_law_is_program.nd rfl (Or.inl rfl) (by first | exact .inl rfl | exact .inr rfl)) (pgs_cons (pg_name (i := 2) sc_law_is_program.nd rfl (Or.inl rfl) (by first | exact .inl rfl | exact .inr rfl)) pgs_nil))))
        (pss_cons (ps_if (PW.pt (pw_or (pt_not (pt_val (pe_callB call_isD (by rfl) T.isinstance_ (by decide +kernel) (pa_cons (pv 1) (pa_cons (pe_bltn (v := .ty "tuple") (by rfl) T.tuple_ (by decide +kernel) rfl) pa_nil))))) (pw_or1 (pt_not (pt_chain op_le op_le pe_int (pe_callB call_len_seq (by rfl) T.len_ (by decide +kernel) (pa_cons (pv 1) pa_nil)) pe_int))))) (pss_one (ps_ret pe_bl)) pss_nil)
        (pss_cons (ps_if (pt_not (pt_val (pe_callB (cr_all rfl) (by rfl) T.all_ (by decide +kernel) (pa_cons (pe_lc (own := [("_law_one", 3)]) (g := gName 3) (tt := tYes) rfl sc_law_is_program.nd (pi_tup (pv 1)) (blkOk_by (N := sl_law_is_program) (sc := defScope s_law_is_program) (by decide +kernel)) (fun _ _ _ _ _ => pg_name (i := 3) sc_law_is_program.nd rfl (Or.inl rfl)) (fun _ _ _ _ _ => pts_nil) (fun _ _ _ _ _ => (pe_callOk C_law_is_data hr (by omega) (by rfl) (pa_cons (pv 3) pa_nil)))) pa_nil)))) (pss_one (ps_ret pe_bl)) pss_nil)
        (pss_cons (ps_set (i := 4) sc_law_is_program.nd rfl (Or.inr rfl) (pe_lc (own := [("_law_one", 3)]) (g := gName 3) (tt := tYes) rfl sc_law_is_program.nd (pi_tup (pv 1)) (blkOk_by (N := sl_law_is_program) (sc := defScope s_law_is_program) (by decide +kernel)) (fun _ _ _ _ _ => pg_name (i := 3) sc_law_is_program.nd rfl (Or.inl rfl)) (fun _ _ _ _ _ => pts_nil) (fun _ _ _ _ _ => (pe_ix (ix_tupK (K := K) rfl) (pv 3) pe_int (fun _ _ => rfl)))))
        (pss_cons (ps_set (i := 5) sc_law_is_program.nd rfl (Or.inl rfl) (pe_callB (cr_sumL rfl) (by rfl) T.sum_ (by decide +kernel) (pa_cons (pe_lc (own := [("_law_one", 3)]) (g := gName 3) (tt := tYes) rfl sc_law_is_program.nd (pi_tup (pv 1)) (blkOk_by (N := sl_law_is_program) (sc := defScope s_law_is_program) (by decide +kernel)) (fun _ _ _ _ _ => pg_name (i := 3) sc_law_is_program.nd rfl (Or.inl rfl)) (fun _ _ _ _ _ => pts_nil) (fun _ _ _ _ _ => (pe_callTy (listOfK (K := K) rfl) (by rfl) T.list_ (by decide +kernel) (pa_cons (pe_ix (ix_tupK (K := K) rfl) (pv 3) pe_int (fun _ _ => rfl)) pa_nil)))) (pa_cons (pe_lst pa_nil) pa_nil))))
        (pss_cons (ps_setLc (i := 6) (own := [("_law_one", 3)]) (g := gName 3) (tt := tYes) rfl sc_law_is_program.nd rfl rfl (sw_true rfl rfl rfl (by decide +kernel)) (pi_list (pv 5)) (blkOk_by (N := sl_law_is_program) (sc := defScope s_law_is_program) (by decide +kernel)) (fun _ _ _ _ _ => pg_name (i := 3) sc_law_is_program.nd rfl (Or.inl rfl)) (fun _ _ _ _ _ => pts_nil) (fun _ _ _ _ _ => (pe_ix (ix_tupK (K := K) rfl) (pv 3) pe_int (fun _ _ => rfl))))
        (pss_cons (ps_if (PW.pt (pw_or (pt_cmpR op_lt (pe_lenSetT rfl (by rfl) T.len_ (by rfl) T.set_ (pv 4)) (pe_callB call_len_seq (by rfl) T.len_ (by decide +kernel) (pa_cons (pv 4) pa_nil)) (nomark _)) (pw_or1 (pt_cmpR op_lt (pe_lenSetT rfl (by rfl) T.len_ (by rfl) T.set_ (pv 6)) (pe_callB call_len_seq (by rfl) T.len_ (by decide +kernel) (pa_cons (pv 6) pa_nil)) (nomark _))))) (pss_one (ps_ret pe_bl)) pss_nil)
        (pss_cons (ps_set (i := 7) sc_law_is_program.nd rfl (Or.inl rfl) (pe_callB (cr_sumL rfl) (by rfl) T.sum_ (by decide +kernel) (pa_cons (pe_lc (own := [("_law_one", 3)]) (g := gName 3) (tt := tYes) rfl sc_law_is_program.nd (pi_list (pv 5)) (blkOk_by (N := sl_law_is_program) (sc := defScope s_law_is_program) (by decide +kernel)) (fun _ _ _ _ _ => pg_name (i := 3) sc_law_is_program.nd rfl (Or.inl rfl)) (fun _ _ _ _ _ => pts_nil) (fun _ _ _ _ _ => (pe_callTy (listOfK (K := K) rfl) (by rfl) T.list_ (by decide +kernel) (pa_cons (pe_ix (ix_tupK (K := K) rfl) (pv 3) pe_int (fun _ _ => rfl)) pa_nil)))) (pa_cons (pe_lst pa_nil) pa_nil))))
        (pss_cons (ps_if (pt_not (pt_val (pe_callB (cr_all rfl) (by rfl) T.all_ (by decide +kernel) (pa_cons (pe_lc (own := [("_law_one", 3)]) (g := gName 3) (tt := tYes) rfl sc_law_is_program.nd (pi_list (pv 7)) (blkOk_by (N := sl_law_is_program) (sc := defScope s_law_is_program) (by decide +kernel)) (fun _ _ _ _ _ => pg_name (i := 3) sc_law_is_program.nd rfl (Or.inl rfl)) (fun _ _ _ _ _ => pts_nil) (fun _ _ _ _ _ => (pe_and (pe_callB (isDK (K := K) rfl) (by rfl) T.isinstance_ (by decide +kernel) (pa_cons (pv 3) (pa_cons (pe_bltn (v := .ty "str") (by rfl) T.str_ (by decide +kernel) rfl) pa_nil))) (pe_one (pe_cmpR (in_seqK (K := K) rfl) (pv 3) (pv 4) (by rfl)))))) pa_nil)))) (pss_one (ps_ret pe_bl)) pss_nil)
        (pss_cons (ps_if (PW.pt (pw_or (pt_not (pt_val (pe_callB call_isD (by rfl) T.isinstance_ (by decide +kernel) (pa_cons (pv 2) (pa_cons (pe_bltn (v := .ty "tuple") (by rfl) T.tuple_ (by decide +kernel) rfl) pa_nil))))) (pw_or1 (pt_cmpR op_gt (pe_callB call_len_seq (by rfl) T.len_ (by decide +kernel) (pa_cons (pv 2) pa_nil)) pe_int (nomark _))))) (pss_one (ps_ret pe_bl)) pss_nil)
        (pss_cons (ps_for PassesOwn.never rfl (pi_tup (pv 2)) (pg_name (i := 3) sc_law_is_program.nd rfl (Or.inl rfl) (by first | exact .inl rfl | exact .inr rfl)) (pss_cons (ps_if (PW.pt (pw_or (pt_not (pt_val (pe_callB call_isD (by rfl) T.isinstance_ (by decide +kernel) (pa_cons (pv 3) (pa_cons (pe_bltn (v := .ty "tuple") (by rfl) T.tuple_ (by decide +kernel) rfl) pa_nil))))) (pw_or (pt_cmpR op_ne (pe_callB call_len_seq (by rfl) T.len_ (by decide +kernel) (pa_cons (pv 3) pa_nil)) pe_int (nomark _)) (pw_or1 (pt_not (pt_val (pe_callOk C_law_is_name hr (by omega) (by rfl) (pa_cons (pe_ix ix_tup (pv 3) pe_int (fun _ _ => rfl)) pa_nil)))))))) (pss_one (ps_ret pe_bl)) pss_nil)
        (pss_one (ps_if (PW.pt (pw_or (pt_not (pt_val (pe_callOk C_law_is_kind hr (by omega) (by rfl) (pa_cons (pe_ix ix_tup (pv 3) pe_int (fun _ _ => rfl)) (pa_cons pe_int pa_nil))))) (pw_or1 (pt_not (pt_val (pe_callOk C_law_is_term hr (by omega) (by rfl) (pa_cons (pe_ix ix_tup (pv 3) pe_int (fun _ _ => rfl)) pa_nil))))))) (pss_one (ps_ret pe_bl)) pss_nil))))
        (pss_one (ps_ret (pe_cmpR op_eq (pe_lenSetT rfl (by rfl) T.len_ (by rfl) T.set_ (pe_lc (own := [("_law_one", 3)]) (g := gName 3) (tt := tYes) rfl sc_law_is_program.nd (pi_tup (pv 2)) (blkOk_by (N := sl_law_is_program) (sc := defScope s_law_is_program) (by decide +kernel)) (fun _ _ _ _ _ => pg_name (i := 3) sc_law_is_program.nd rfl (Or.inl rfl)) (fun _ _ _ _ _ => pts_nil) (fun _ _ _ _ _ => (pe_ix (ix_tupK (K := K) rfl) (pv 3) pe_int (fun _ _ => rfl))))) (pe_callB call_len_seq (by rfl) T.len_ (by decide +kernel) (pa_cons (pv 2) pa_nil)) (nomark _)))))))))))))))), ?_⟩
    refine ⟨_, rfl, N, v, d, "tuple", rfl, hd, .inr (.inl rfl), _, rfl, ?_⟩
    by_cases htu : tyD d = "tuple"
    case neg =>
      rw [decide_eq_false htu]
      refine iteT (iteT ?_)
      rw [prog_no (row_no htu)] at k
      exact k H (Same.refl H)
    obtain ⟨ds, rfl⟩ := ty_tup htu
    obtain ⟨t, us, rfl, hT, hA⟩ := hd.tupInv
    have hlu := hA.length
    refine iteF ?_
    refine ⟨_, rfl, t, us, rfl, .inr hT, rfl, _, rfl, ?_⟩
    by_cases hl : ds.length = 2
    case neg =>
      refine iteNF (by rw [hlu]; exact int_ne hl) ?_
      rw [prog_no (row_two hl)] at k
      exact k H (Same.refl H)
    obtain ⟨a, b, rfl⟩ := len2 hl
    refine iteND (by rw [hlu]; rfl) ?_
    obtain ⟨t', x, y, e, hT', ha, hb⟩ := hd.tup2
    obtain rfl : t = t' := by injection e
    obtain ⟨fa, fb⟩ := fit2 hf
    have k : ∀ H', Same H H' → Q (.bl (datasOk a && defsOk b)) H' := k
    refine ⟨_, rfl, t, _, rfl, hT', rfl, _, _, rfl, _, _, rfl, rfl, ?_⟩
    have badA : ∀ H', Same H H' → datasOk a = false → Q (.bl false) H' := fun H' s' e => by
      have q := k H' s'
      rwa [e] at q
    refine ⟨_, rfl, N, x, a, "tuple", rfl, ha, .inr (.inl rfl), _, rfl, ?_⟩
    by_cases hta : tyD a = "tuple"
    case neg =>
      rw [decide_eq_false hta]
      exact iteT (iteT (badA H (Same.refl H) (datas_row (row_no hta))))
    obtain ⟨ds, rfl⟩ := ty_tup hta
    obtain ⟨ta, xs, rfl, hTa, hX⟩ := ha.tupInv
    have hlx := hX.length
    refine iteF ?_
    refine ⟨_, rfl, ta, xs, rfl, .inr hTa, ?_⟩
    rw [hlx]
    refine ⟨_, _, rfl, rfl, _, rfl, ?_⟩
    by_cases o1 : (1 : Int) ≤ (ds.length : Int)
    case neg => exact iteDN o1 ⟨_, rfl, iteT (badA H (Same.refl H) (datas_row (by rw [row_is]; exact decide_eq_false fun z => o1 z.1)))⟩
    refine iteD o1 ?_
    refine ⟨_, _, rfl, rfl, _, rfl, ?_⟩
    by_cases o6 : (ds.length : Int) ≤ 6
    case neg => exact iteNF o6 (badA H (Same.refl H) (datas_row (row_big o6)))
    refine iteND o6 ?_
    have fds := fa.inner
    -- each of them
    refine ⟨_, rfl, ta, rfl, ⟨_, hTa⟩, fun L hL => ?_⟩
    refine lc_tup (K := K) (xs := xs) (fun i H' => H' L = some (.lst (((ds.take i).map lDt).map V.bl)) ∧ Same H H') ⟨upd_same, same_new hL⟩ (fun i H' _ p => sqT_same p.2 hTa) ?_ ?_
    · rintro i u H2 hu ⟨e2, s2⟩
      obtain ⟨dx, hdx, hxd⟩ := hX.get hu
      have hi : i < xs.length := (List.getElem?_eq_some_iff.mp hu).1
      refine ⟨rfl, ?_⟩
      simp only [tYes, if_true]
      refine ⟨_, rfl, N, u, dx, n, m, rfl, hxd.same s2, fds.mem (List.mem_of_getElem? hdx), hn, fun H3 s3 => ⟨_, s3 _ _ e2, ?_, ?_, Same.mut (s2.trans s3) hL⟩⟩
      · rw [List.length_map, List.length_map, List.length_take]
        exact lt_line (by omega)
      · rw [upd_same, List.take_add_one, hdx, List.map_append, List.map_append]
        rfl
    rintro H1 ⟨e1, s1⟩
    rw [List.take_of_length_le (by omega)] at e1
    refine ⟨L, ds.map lDt, rfl, SqL.of e1, ?_⟩
    rw [all_id]
    cases hal : ds.all lDt with
    | false =>
      refine ⟨_, rfl, iteT (badA H1 s1 (datas_no hal))⟩
    | true =>
    refine ⟨_, rfl, iteF ?_⟩
    obtain ⟨ps, rfl, hps⟩ := all_of ld_of hal
    rw [List.length_map] at hlx o1 o6
    have hp6 : ps.length ≤ 6 := by omega
    have hms := lms_len hps
    have hfs := lfs_len hps
    rw [datas_ld hps (by omega) hp6] at k badA
    have hT1 := sqT_same s1 hTa
    have hX1 := hX.same s1
    -- their names
    refine ⟨_, rfl, ta, rfl, ⟨_, hT1⟩, fun S hS => ?_⟩
    refine lc_tup (K := K) (xs := xs) (fun i H' => H' S = some (.lst (((ps.take i).map (·.1)).map V.str)) ∧ Same H1 H') ⟨upd_same, same_new hS⟩ (fun i H' _ p => sqT_same p.2 hT1) ?_ ?_
    · rintro i u H2 hu ⟨e2, s2⟩
      obtain ⟨dx, hdx, hxd⟩ := hX1.get hu
      obtain ⟨p, hp, rfl⟩ := map_get hdx
      have hi : i < xs.length := (List.getElem?_eq_some_iff.mp hu).1
      obtain ⟨tp, xp, yp, rfl, hTp, hp1, hp2⟩ := Da.tup2 hxd
      obtain rfl := hp1.strInv
      refine ⟨rfl, ?_⟩
      simp only [tYes, if_true]
      refine ⟨_, rfl, tp, _, 0, _, rfl, rfl, sqT_same s2 hTp, rfl, ?_⟩
      refine ⟨_, e2, ?_, ?_, Same.mut s2 hS⟩
      · rw [List.length_map, List.length_map, List.length_take]
        exact lt_line (by omega)
      · rw [upd_same, List.take_add_one, hp, List.map_append, List.map_append]
        rfl
    rintro H2 ⟨e2, s2⟩
    rw [List.take_of_length_le (by omega)] at e2
    have s02 := s1.trans s2
    have hT2 := sqT_same s2 hT1
    have hX2 := hX1.same s2
    -- their makers
    refine ⟨_, rfl, ta, rfl, ⟨_, hT2⟩, fun L2 hL2 => ?_⟩
    refine lc_tup (K := K) (xs := xs) (fun i H' => ∃ (as : List Addr) (rws : List (List V)), H' L2 = some (.lst (as.map V.ref)) ∧ as.length = i ∧ rws.length = i ∧ (∀ a ∈ as, a ≠ L2) ∧ (∀ (j : Nat) a r, as[j]? = some a → rws[j]? = some r → H' a = some (.lst r)) ∧
      DaAll K N H2 rws.flatten ((lmsOf (ps.take i)).map lmD) ∧ Same H2 H') ⟨[], [], upd_same, rfl, rfl, fun _ z => (nomatch z), fun _ _ _ z => (nomatch z), .nil, same_new hL2⟩ (fun i H' _ q => ?_) ?_ ?_
    · obtain ⟨_, _, _, _, _, _, _, _, q⟩ := q
      exact sqT_same q hT2
    · rintro i u H3 hu ⟨as, rws, g1, g2, g3, g4, g5, g6, s3⟩
      obtain ⟨dx, hdx, hxd⟩ := hX2.get hu
      obtain ⟨p, hp, rfl⟩ := map_get hdx
      have hi : i < xs.length := (List.getElem?_eq_some_iff.mp hu).1
      obtain ⟨tp, xp, yp, rfl, hTp, hp1, hp2⟩ := Da.tup2 hxd
      obtain ⟨tm, ws, rfl, hTm, hW⟩ := hp2.tupInv
      refine ⟨rfl, ?_⟩
      simp only [tYes, if_true]
      refine ⟨_, rfl, tp, _, 1, _, rfl, rfl, sqT_same s3 hTp, rfl, tm, ws, rfl, .inr (sqT_same s3 hTm), fun l hl => ?_⟩
      have nl : l ≠ L2 := (ne_of_none g1 hl).symm
      have sl : Same H3 (upd H3 l (.lst ws)) := same_new hl
      refine ⟨_, sl _ _ g1, ?_, as ++ [l], rws ++ [ws], ?_, by rw [List.length_append, g2]; rfl, by rw [List.length_append, g3]; rfl, ?_, ?_, ?_, ?_⟩
      · rw [List.length_map]
        exact lt_line (by omega)
      · rw [upd_same, List.map_append]
        rfl
      · intro a ha
        rcases List.mem_append.mp ha with ha | ha
        · exact g4 a ha
        · rw [List.mem_singleton.mp ha]
          exact nl
      · intro j a r ja jr
        by_cases hj : j < as.length
        · rw [List.getElem?_append_left hj] at ja
          rw [List.getElem?_append_left (by omega)] at jr
          rw [upd_ne (g4 a (List.mem_of_getElem? ja))]
          exact sl _ _ (g5 j a r ja jr)
        · have hj2 : j = as.length := by
            have := (List.getElem?_eq_some_iff.mp ja).1
            rw [List.length_append] at this
            have e1 : [l].length = 1 := rfl
            omega
          subst hj2
          rw [List.getElem?_append_right (Nat.le_refl _), Nat.sub_self] at ja
          rw [g2, ← g3, List.getElem?_append_right (Nat.le_refl _), Nat.sub_self] at jr
          cases ja
          cases jr
          rw [upd_ne nl, upd_same]
      · rw [List.flatten_append]
        have e : lmsOf (ps.take (i + 1)) = lmsOf (ps.take i) ++ p.2 := flat_take hp
        rw [e, List.map_append]
        refine g6.append ?_
        rw [show [ws].flatten = ws by simp]
        exact hW
      · exact Same.mut (s3.trans sl) hL2
    rintro H3 ⟨as, rws, g1, g2, g3, g4, g5, g6, s3⟩
    rw [List.take_of_length_le (by omega)] at g6
    have hlr := g6.length
    rw [List.length_map] at hlr
    refine ⟨Nat.zero_le _, fun z hz => ?_⟩
    have sz : Same H3 (upd H3 z (.lst [])) := same_new hz
    refine ⟨L2, z, as, rws, rfl, SqL.of (sz _ _ g1), upd_same, by omega, fun j a r ja jr => sz _ _ (g5 j a r ja jr), le_line (by omega), fun M H4 s4 e4 => ?_⟩
    have s24 := (s3.trans sz).trans s4
    have s04 := s02.trans s24
    have hM := g6.same s24
    have e24 := s24 _ _ e2
    generalize rws.flatten = mv at *
    -- the makers' names
    refine ⟨_, rfl, M, rfl, ⟨_, SqL.of e4⟩, fun G hG => ?_⟩
    refine lc_list (K := K) (xs := mv) (fun i H' => H' G = some (.lst ((((lmsOf ps).take i).map (·.1)).map V.str)) ∧ Same H4 H') ⟨upd_same, same_new hG⟩ (fun i H' _ p => SqL.of (p.2 _ _ e4)) ?_ ?_
    · rintro i u H5 hu ⟨e5, s5⟩
      obtain ⟨dx, hdx, hxd⟩ := hM.get hu
      obtain ⟨q, hq, rfl⟩ := map_get hdx
      have hi : i < mv.length := (List.getElem?_eq_some_iff.mp hu).1
      obtain ⟨tp, xp, yp, rfl, hTp, hp1, hp2⟩ := Da.tup2 hxd
      obtain rfl := hp1.strInv
      refine ⟨rfl, ?_⟩
      simp only [tYes, if_true]
      refine ⟨_, rfl, tp, _, 0, _, rfl, rfl, sqT_same s5 hTp, rfl, ?_⟩
      refine ⟨_, e5, ?_, ?_, Same.mut s5 hG⟩
      · rw [List.length_map, List.length_map, List.length_take]
        exact lt_line (by omega)
      · rw [upd_same, List.take_add_one, hq, List.map_append, List.map_append]
        rfl
    rintro H5 ⟨e5, s5⟩
    rw [List.take_of_length_le (by omega)] at e5
    have s05 := s04.trans s5
    have e25 := s5 _ _ e24
    -- unlike ones
    refine ⟨_, rfl, S, _, rfl, .inr (SqL.of e25), by rw [List.length_map]; omega, ?_⟩
    refine ⟨_, rfl, S, _, rfl, .inl (SqL.of e25), _, _, rfl, rfl, _, rfl, ?_⟩
    rw [List.length_map V.str, unl_lt]
    cases hu1 : unlikeN (ps.map (·.1)) with
    | false =>
      refine iteT (iteT (badA H5 s05 ?_))
      rw [hu1]
      rfl
    | true =>
    refine iteF ?_
    refine ⟨_, rfl, G, _, rfl, .inr (SqL.of e5), by rw [List.length_map]; omega, ?_⟩
    refine ⟨_, rfl, G, _, rfl, .inl (SqL.of e5), _, _, rfl, rfl, _, rfl, ?_⟩
    rw [List.length_map V.str, unl_lt]
    cases hu2 : unlikeN ((lmsOf ps).map (·.1)) with
    | false =>
      refine iteT (badA H5 s05 ?_)
      rw [hu1, hu2]
      rfl
    | true =>
    refine iteF ?_
    rw [hu1, hu2, Bool.true_and, Bool.true_and] at k badA
    have e45 := s5 _ _ e4
    have hM5 := hM.same s5
    -- the fields
    refine ⟨_, rfl, M, rfl, ⟨_, SqL.of e45⟩, fun L3 hL3 => ?_⟩
    refine lc_list (K := K) (xs := mv) (fun i H' => ∃ (as : List Addr) (rws : List (List V)), H' L3 = some (.lst (as.map V.ref)) ∧ as.length = i ∧ rws.length = i ∧ (∀ a ∈ as, a ≠ L3) ∧ (∀ (j : Nat) a r, as[j]? = some a → rws[j]? = some r → H' a = some (.lst r)) ∧
      DaAll K N H5 rws.flatten (((lmsOf ps).take i).flatMap (·.2)) ∧ Same H5 H') ⟨[], [], upd_same, rfl, rfl, fun _ z => (nomatch z), fun _ _ _ z => (nomatch z), .nil, same_new hL3⟩ (fun i H' _ q => ?_) ?_ ?_
    · obtain ⟨_, _, _, _, _, _, _, _, q⟩ := q
      exact SqL.of (q _ _ e45)
    · rintro i u H6 hu ⟨as, rws, g1, g2, g3, g4, g5, g6, s6⟩
      obtain ⟨dx, hdx, hxd⟩ := hM5.get hu
      obtain ⟨q, hq, rfl⟩ := map_get hdx
      have hi : i < mv.length := (List.getElem?_eq_some_iff.mp hu).1
      obtain ⟨tp, xp, yp, rfl, hTp, hp1, hp2⟩ := Da.tup2 hxd
      obtain ⟨tm, ws, rfl, hTm, hW⟩ := hp2.tupInv
      refine ⟨rfl, ?_⟩
      simp only [tYes, if_true]
      refine ⟨_, rfl, tp, _, 1, _, rfl, rfl, sqT_same s6 hTp, rfl, tm, ws, rfl, .inr (sqT_same s6 hTm), fun l hl => ?_⟩
      have nl : l ≠ L3 := (ne_of_none g1 hl).symm
      have sl : Same H6 (upd H6 l (.lst ws)) := same_new hl
      refine ⟨_, sl _ _ g1, ?_, as ++ [l], rws ++ [ws], ?_, by rw [List.length_append, g2]; rfl, by rw [List.length_append, g3]; rfl, ?_, ?_, ?_, ?_⟩
      · rw [List.length_map]
        exact lt_line (by omega)
      · rw [upd_same, List.map_append]
        rfl
      · intro a ha
        rcases List.mem_append.mp ha with ha | ha
        · exact g4 a ha
        · rw [List.mem_singleton.mp ha]
          exact nl
      · intro j a r ja jr
        by_cases hj : j < as.length
        · rw [List.getElem?_append_left hj] at ja
          rw [List.getElem?_append_left (by omega)] at jr
          rw [upd_ne (g4 a (List.mem_of_getElem? ja))]
          exact sl _ _ (g5 j a r ja jr)
        · have hj2 : j = as.length := by
            have := (List.getElem?_eq_some_iff.mp ja).1
            rw [List.length_append] at this
            have e1 : [l].length = 1 := rfl
            omega
          subst hj2
          rw [List.getElem?_append_right (Nat.le_refl _), Nat.sub_self] at ja
          rw [g2, ← g3, List.getElem?_append_right (Nat.le_refl _), Nat.sub_self] at jr
          cases ja
          cases jr
          rw [upd_ne nl, upd_same]
      · rw [List.flatten_append, flat_take hq]
        refine g6.append ?_
        rw [show [ws].flatten = ws by simp]
        exact hW
      · exact Same.mut (s6.trans sl) hL3
    rintro H6 ⟨as, rws, g1, g2, g3, g4, g5, g6, s6⟩
    rw [List.take_of_length_le (by omega)] at g6
    have g6 : DaAll K N H5 rws.flatten (lfsOf ps) := g6
    have hlr := g6.length
    refine ⟨Nat.zero_le _, fun z hz => ?_⟩
    have sz : Same H6 (upd H6 z (.lst [])) := same_new hz
    refine ⟨L3, z, as, rws, rfl, SqL.of (sz _ _ g1), upd_same, by omega, fun j a r ja jr => sz _ _ (g5 j a r ja jr), le_line (by omega), fun W H7 s7 e7 => ?_⟩
    have s57 := (s6.trans sz).trans s7
    have s07 := s05.trans s57
    have hF := g6.same s57
    have e27 := s57 _ _ e25
    generalize rws.flatten = fv at *
    refine ⟨_, rfl, W, rfl, ⟨_, SqL.of e7⟩, fun B hB => ?_⟩
    refine lc_list (K := K) (xs := fv) (fun i H' => H' B = some (.lst ((((lfsOf ps).take i).map fun f => memD f (ps.map (·.1))).map V.bl)) ∧ Same H7 H') ⟨upd_same, same_new hB⟩ (fun i H' _ p => SqL.of (p.2 _ _ e7)) ?_ ?_
    · rintro i u H8 hu ⟨e8, s8⟩
      obtain ⟨dx, hdx, hxd⟩ := hF.get hu
      have hi : i < fv.length := (List.getElem?_eq_some_iff.mp hu).1
      have put : ∀ b : Bool, b = memD dx (ps.map (·.1)) → ∃ acc, H8 B = some (.lst acc) ∧ acc.length < sizeLine ∧ (upd H8 B (.lst (acc ++ [V.bl b]))) B = some (.lst ((((lfsOf ps).take (i + 1)).map fun f => memD f (ps.map (·.1))).map V.bl)) ∧ Same H7 (upd H8 B (.lst (acc ++ [V.bl b]))) := fun b hb => by
        refine ⟨_, e8, ?_, ?_, Same.mut s8 hB⟩
        · rw [List.length_map, List.length_map, List.length_take]
          exact lt_line (by omega)
        · rw [upd_same, List.take_add_one, hdx, List.map_append, List.map_append, hb]
          rfl
      refine ⟨rfl, ?_⟩
      simp only [tYes, if_true]
      refine ⟨_, rfl, N, u, dx, "str", rfl, hxd.same s8, .inl rfl, _, rfl, ?_⟩
      by_cases hs : tyD dx = "str"
      · obtain ⟨fx, rfl⟩ := ty_str hs
        obtain rfl := hxd.strInv
        refine iteT ⟨_, rfl, _, rfl, S, _, rfl, .inl (SqL.of (s8 _ _ e27)), rfl, flat_strs _, ?_⟩
        exact put _ (by rw [if_neg Bool.false_ne_true, in_strs]; rfl)
      · rw [decide_eq_false hs]
        refine iteF (put _ ?_)
        cases dx with
        | str x => exact absurd rfl hs
        | _ => rfl
    rintro H8 ⟨e8, s8⟩
    rw [List.take_of_length_le (by omega)] at e8
    have s08 := s07.trans s8
    refine ⟨B, _, rfl, SqL.of e8, ?_⟩
    rw [all_id]
    cases hal2 : (lfsOf ps).all fun f => memD f (ps.map (·.1)) with
    | false => exact ⟨_, rfl, iteT (badA H8 s08 hal2)⟩
    | true =>
    refine ⟨_, rfl, iteF ?_⟩
    rw [hal2, Bool.true_and] at k
    have hb8 := hb.same s08
    have badB : ∀ H', Same H H' → defsOk b = false → Q (.bl false) H' := fun H' s' e => by
      have q := k H' s'
      rwa [e] at q
    -- the defs
    refine ⟨_, rfl, N, y, b, "tuple", rfl, hb8, .inr (.inl rfl), _, rfl, ?_⟩
    by_cases htb : tyD b = "tuple"
    case neg =>
      rw [decide_eq_false htb]
      refine iteT (iteT (badB H8 s08 ?_))
      unfold defsOk
      rw [row_no htb]
      rfl
    obtain ⟨bs, rfl⟩ := ty_tup htb
    obtain ⟨tb, ys, rfl, hTb, hY⟩ := hb8.tupInv
    have hly := hY.length
    refine iteF ?_
    refine ⟨_, rfl, tb, ys, rfl, .inr hTb, _, _, rfl, rfl, _, rfl, ?_⟩
    rw [hly]
    by_cases o16 : (16 : Int) < (bs.length : Int)
    · refine iteD o16 (badB H8 s08 ?_)
      unfold defsOk
      rw [row_big (by omega)]
      rfl
    refine iteDN o16 ?_
    have k : ∀ H', Same H H' → Q (.bl (bs.all defOk && unlikeN (bs.map defName))) H' := fun H' s' => by
      have q := k H' s'
      unfold defsOk at q
      rw [row_ok (by omega) (by omega), Bool.true_and] at q
      exact q
    have fbs := fb.inner
    refine ⟨_, rfl, tb, rfl, ⟨_, hTb⟩, for_tup (K := K) (xs := ys) (fun i σ H' => ∃ v3, σ = [some (.ref t), some (.ref ta), some (.ref tb), v3, some (.ref S), some (.ref M), some (.ref G), some (.ref W)] ∧ Same H8 H' ∧ (bs.take i).all defOk = true) ⟨_, rfl, Same.refl _, rfl⟩ (fun i σ H' _ q => ?_) ?_ ?_⟩
    · obtain ⟨_, _, q, _⟩ := q
      exact sqT_same q hTb
    · rintro i u σ H9 hu ⟨v3, rfl, s9, hall⟩
      obtain ⟨dx, hdx, hxd0⟩ := hY.get hu
      have hxd := hxd0.same s9
      have fx := fbs.mem (List.mem_of_getElem? hdx)
      have s09 := s08.trans s9
      have bad : ∀ H', Same H H' → defOk dx = false → Q (.bl false) H' := fun H' s' e => by
        have q := k H' s'
        have : bs.all defOk = false := by
          rw [List.all_eq_false]
          exact ⟨dx, List.mem_of_getElem? hdx, by rw [e]; exact Bool.false_ne_true⟩
        rw [this] at q
        exact q
      refine ⟨_, rfl, N, u, dx, "tuple", rfl, hxd, .inr (.inl rfl), _, rfl, ?_⟩
      by_cases htx : tyD dx = "tuple"
      case neg =>
        rw [decide_eq_false htx]
        exact iteT (iteT (bad H9 s09 (def_no (row_no htx))))
      obtain ⟨es, rfl⟩ := ty_tup htx
      obtain ⟨tx, xx, rfl, hTx, hXX⟩ := hxd.tupInv
      have hlx := hXX.length
      refine iteF ?_
      refine ⟨_, rfl, tx, xx, rfl, .inr hTx, rfl, _, rfl, ?_⟩
      by_cases hl3 : es.length = 3
      case neg => exact iteNF (by rw [hlx]; exact int_ne hl3) (iteT (bad H9 s09 (def_no (row_three hl3))))
      obtain ⟨c1, c2, c3, rfl⟩ := len3 hl3
      refine iteND (by rw [hlx]; rfl) ?_
      obtain ⟨t', x1, x2, x3, e, hTx', h1, h2, h3⟩ := hxd.tup3
      obtain rfl : tx = t' := by injection e
      obtain ⟨f1, f2, f3⟩ := fit3' fx
      have ev : defOk (.tuple [c1, c2, c3]) = (isNameD c1 && (kindW 6 c2 && termD c3)) := rfl
      rw [ev] at bad
      refine ⟨_, rfl, tx, _, 0, x1, rfl, rfl, hTx', rfl, N, x1, c1, n, m, rfl, h1, f1, hn, fun HA sA => ?_⟩
      cases hn1 : isNameD c1 with
      | false =>
        refine ⟨_, rfl, iteT (bad HA (s09.trans sA) ?_)⟩
        rw [hn1]
        rfl
      | true =>
      refine ⟨_, rfl, iteF ?_⟩
      rw [hn1, Bool.true_and] at bad
      have hTA := sqT_same sA hTx'
      refine ⟨_, rfl, tx, _, 1, x2, rfl, rfl, hTA, rfl, N, x2, c2, n, m, 6, rfl, rfl, by decide, h2.same sA, f2, hn, fun HB sB => ?_⟩
      cases hk2 : kindW 6 c2 with
      | false =>
        refine ⟨_, rfl, iteT (iteT (bad HB ((s09.trans sA).trans sB) ?_))⟩
        rw [hk2]
        rfl
      | true =>
      refine ⟨_, rfl, iteF ?_⟩
      rw [hk2, Bool.true_and] at bad
      have sAB := sA.trans sB
      refine ⟨_, rfl, tx, _, 2, x3, rfl, rfl, sqT_same sAB hTx', rfl, N, x3, c3, n, m, rfl, h3.same sAB, f3, hn8, fun HC sC => ?_⟩
      cases hk3 : termD c3 with
      | false => exact ⟨_, rfl, iteT (bad HC ((s09.trans sAB).trans sC) hk3)⟩
      | true =>
      refine ⟨_, rfl, iteF ⟨_, rfl, (s9.trans sAB).trans sC, ?_⟩⟩
      rw [List.take_add_one, hdx, List.all_append, hall]
      show (true && ((isNameD c1 && (kindW 6 c2 && termD c3)) && true)) = true
      rw [hn1, hk2, hk3]
      rfl
    rintro σ H9 ⟨v3, rfl, s9, hall⟩
    rw [List.take_of_length_le (by omega)] at hall
    rw [hall, Bool.true_and] at k
    have s09 := s08.trans s9
    have hT9 := sqT_same s9 hTb
    have hY9 := hY.same s9
    rw [List.all_eq_true] at hall
    refine ⟨_, rfl, tb, rfl, ⟨_, hT9⟩, fun Z hZ => ?_⟩
    refine lc_tup (K := K) (xs := ys) (fun i H' => H' Z = some (.lst (((bs.take i).map defName).map V.str)) ∧ Same H9 H') ⟨upd_same, same_new hZ⟩ (fun i H' _ p => sqT_same p.2 hT9) ?_ ?_
    · rintro i u HA hu ⟨eA, sA⟩
      obtain ⟨dx, hdx, hxd⟩ := hY9.get hu
      have hi : i < ys.length := (List.getElem?_eq_some_iff.mp hu).1
      have hok := hall dx (List.mem_of_getElem? hdx)
      have hr3 : isRowD dx 3 3 = true := by
        cases e : isRowD dx 3 3 with
        | true => rfl
        | false =>
          rw [def_no e] at hok
          cases hok
      obtain ⟨c1, c2, c3, rfl⟩ := row3 hr3
      obtain ⟨tx, x1, x2, x3, rfl, hTx, h1, h2, h3⟩ := hxd.tup3
      have hna : isNameD c1 = true := by
        have e : (isNameD c1 && (kindW 6 c2 && termD c3)) = true := hok
        rw [Bool.and_eq_true] at e
        exact e.1
      obtain ⟨nm, rfl⟩ := name_str hna
      obtain rfl := h1.strInv
      refine ⟨rfl, ?_⟩
      simp only [tYes, if_true]
      refine ⟨_, rfl, tx, _, 0, _, rfl, rfl, sqT_same sA hTx, rfl, ?_⟩
      refine ⟨_, eA, ?_, ?_, Same.mut sA hZ⟩
      · rw [List.length_map, List.length_map, List.length_take]
        exact lt_line (by omega)
      · rw [upd_same, List.take_add_one, hdx, List.map_append, List.map_append]
        rfl
    · rintro HA ⟨eA, sA⟩
      rw [List.take_of_length_le (by omega)] at eA
      refine ⟨Z, _, rfl, .inr (SqL.of eA), by rw [List.length_map]; omega, _, rfl, tb, _, rfl, .inr (sqT_same sA hT9), rfl, ?_⟩
      rw [hly, dec_intN]
      have q := k HA (s09.trans sA)
      unfold unlikeN at q
      rw [List.length_map] at q
      exact q
end

section
variable {P : Program} {w : World} {K : PySem.W.Frag} {mg : Str → Option Value} {base : Heap}
theorem ok_changed (D : DefAt K mg "_law_changed" s_law_changed ["_law_pen_here", "_law_thing"]) (T : Bl mg) (C_law_draw : CallOk P w K mg base 2 "_law_draw" ["_law_pen_here", "_law_below"] spDraw)
    (C_law_few : CallOk P w K mg base 4 "_law_few" ["_law_pen_here"] spFew) : CallOk P w K mg base 5 "_law_changed" ["_law_pen_here", "_law_thing"] (spChanged K) := by
  refine D.ok sc_law_changed (fun vs H Q E h => ?_) (fun f cdv A outer s H vs Q E hr h => ?_)
  · obtain ⟨p, c, v, ps, fs, b, rfl, _⟩ := h
    rfl
  · obtain ⟨p, c, v, ps, fs, bd, rfl, hP, hG, hps, hfs, hb40, k⟩ := h
    refine ⟨_, (pss_cons (ps_asg (pv 1) (pg_tup rfl (pgs_cons (pg_name (i := 2) sc_law_changed.nd rfl (Or.inl rfl) (by first | exact .inl rfl | exact .inr rfl)) (pgs_cons (pg_name (i := 3) sc_law_changed.nd rfl (Or.inl rfl) (by first | exact .inl rfl | exact .inr rfl)) pgs_nil))))
        (pss_cons (ps_set (i := 4) sc_law_changed.nd rfl (Or.inl rfl) (pe_callOk C_law_draw hr (by omega) (by rfl) (pa_cons (pv 0) (pa_cons pe_int pa_nil))))
        (pss_cons (ps_set (i := 5) sc_law_changed.nd rfl (Or.inl rfl) (pe_callOk C_law_draw hr (by omega) (by rfl) (pa_cons (pv 0) (pa_cons (pe_callB call_len_seq (by rfl) T.len_ (by decide +kernel) (pa_cons (pv 2) pa_nil)) pa_nil))))
        (pss_cons (ps_asg (pe_ix ix_tup (pv 2) (pv 5) (fun _ _ => rfl)) (pg_tup rfl (pgs_cons (pg_name (i := 6) sc_law_changed.nd rfl (Or.inl rfl) (by first | exact .inl rfl | exact .inr rfl)) (pgs_cons (pg_name (i := 7) sc_law_changed.nd rfl (Or.inl rfl) (by first | exact .inl rfl | exact .inr rfl)) pgs_nil))))
        (pss_cons (ps_set (i := 8) sc_law_changed.nd rfl (Or.inl rfl) (pe_callOk C_law_draw hr (by omega) (by rfl) (pa_cons (pv 0) (pa_cons (pe_callB call_len_seq (by rfl) T.len_ (by decide +kernel) (pa_cons (pv 7) pa_nil)) pa_nil))))
        (Evl.pss_cut (ps_if (pt_cmpR op_eq (pv 4) pe_int (nomark _)) (pss_one (ps_set (i := 6) sc_law_changed.nd rfl (Or.inl rfl) (pe_ix ix_tup (pe_ix ix_tup (pv 2) (pe_callOk C_law_draw hr (by omega) (by rfl) (pa_cons (pv 0) (pa_cons (pe_callB call_len_seq (by rfl) T.len_ (by decide +kernel) (pa_cons (pv 2) pa_nil)) pa_nil))) (fun _ _ => rfl)) pe_int (fun _ _ => rfl)))) (pss_one (ps_if (pt_cmpR op_eq (pv 4) pe_int (nomark _)) (pss_cons (ps_set (i := 9) sc_law_changed.nd rfl (Or.inl rfl) (pe_ix ix_tup (pe_ix ix_tup (pv 2) (pe_callOk C_law_draw hr (by omega) (by rfl) (pa_cons (pv 0) (pa_cons (pe_callB call_len_seq (by rfl) T.len_ (by decide +kernel) (pa_cons (pv 2) pa_nil)) pa_nil))) (fun _ _ => rfl)) pe_int (fun _ _ => rfl)))
        (pss_cons (ps_set (i := 10) sc_law_changed.nd rfl (Or.inl rfl) (pe_ix ix_tup (pe_ix ix_tup (pv 9) (pe_callOk C_law_draw hr (by omega) (by rfl) (pa_cons (pv 0) (pa_cons (pe_callB call_len_seq (by rfl) T.len_ (by decide +kernel) (pa_cons (pv 9) pa_nil)) pa_nil))) (fun _ _ => rfl)) pe_int (fun _ _ => rfl)))
        (pss_one (ps_set (i := 7) sc_law_changed.nd rfl (Or.inl rfl) (pe_op opAdd (pe_op opAdd (pe_slice sl_tupA (pv 7) po_none (po_some (pv 8))) (pe_tup (pa_cons (pe_tup (pa_cons (pv 10) (pa_cons (pe_ix ix_tup (pe_ix ix_tup (pv 7) (pv 8) (fun _ _ => rfl)) pe_int (fun _ _ => rfl)) pa_nil))) pa_nil))) (pe_slice sl_tupA (pv 7) (po_some (pe_op opAdd (pv 8) pe_int)) po_none)))))) (pss_one (ps_if (pt_cmpR op_eq (pv 4) pe_int (nomark _)) (pss_cons (ps_set (i := 11) sc_law_changed.nd rfl (Or.inl rfl) (pe_ix ix_list (pe_lst (pa_cons (pv 6) (pa_cons (pe_callOk C_law_few hr (by omega) (by rfl) (pa_cons (pv 0) pa_nil)) (pa_cons (pe_ix ix_tup (pe_ix ix_tup (pv 7) pe_int (fun _ _ => rfl)) pe_int (fun _ _ => rfl)) pa_nil)))) (pe_callOk C_law_draw hr (by omega) (by rfl) (pa_cons (pv 0) (pa_cons pe_int pa_nil))) (fun _ _ => rfl)))
        (pss_cons (ps_set (i := 12) sc_law_changed.nd rfl (Or.inl rfl) (pe_op opAdd (pe_slice sl_tupA (pe_ix ix_tup (pe_ix ix_tup (pv 7) (pv 8) (fun _ _ => rfl)) pe_int (fun _ _ => rfl)) po_none (po_some pe_int)) (pe_tup (pa_cons (pv 11) pa_nil))))
        (pss_one (ps_set (i := 7) sc_law_changed.nd rfl (Or.inl rfl) (pe_op opAdd (pe_op opAdd (pe_slice sl_tupA (pv 7) po_none (po_some (pv 8))) (pe_tup (pa_cons (pe_tup (pa_cons (pe_ix ix_tup (pe_ix ix_tup (pv 7) (pv 8) (fun _ _ => rfl)) pe_int (fun _ _ => rfl)) (pa_cons (pv 12) pa_nil))) pa_nil))) (pe_slice sl_tupA (pv 7) (po_some (pe_op opAdd (pv 8) pe_int)) po_none)))))) pss_nil)))))
        (pss_cons (ps_set (i := 2) sc_law_changed.nd rfl (Or.inl rfl) (pe_op opAdd (pe_op opAdd (pe_slice sl_tupA (pv 2) po_none (po_some (pv 5))) (pe_tup (pa_cons (pe_tup (pa_cons (pv 6) (pa_cons (pv 7) pa_nil))) pa_nil))) (pe_slice sl_tupA (pv 2) (po_some (pe_op opAdd (pv 5) pe_int)) po_none)))
        (Evl.pss_cut (ps_if (PW.pt (pw_and (pt_cmpR (op_neU hr.units) (pv 3) (pe_tup pa_nil) (nomark _)) (pw_and1 (pt_cmpR op_eq (pe_callOk C_law_draw hr (by omega) (by rfl) (pa_cons (pv 0) (pa_cons pe_int pa_nil))) pe_int (nomark _))))) (pss_cons (ps_set (i := 5) sc_law_changed.nd rfl (Or.inl rfl) (pe_callOk C_law_draw hr (by omega) (by rfl) (pa_cons (pv 0) (pa_cons (pe_callB call_len_seq (by rfl) T.len_ (by decide +kernel) (pa_cons (pv 3) pa_nil)) pa_nil))))
        (pss_cons (ps_set (i := 10) sc_law_changed.nd rfl (Or.inl rfl) (pe_ix ix_tup (pe_ix ix_tup (pv 3) (pe_callOk C_law_draw hr (by omega) (by rfl) (pa_cons (pv 0) (pa_cons (pe_callB call_len_seq (by rfl) T.len_ (by decide +kernel) (pa_cons (pv 3) pa_nil)) pa_nil))) (fun _ _ => rfl)) pe_int (fun _ _ => rfl)))
        (pss_one (ps_set (i := 3) sc_law_changed.nd rfl (Or.inl rfl) (pe_op opAdd (pe_op opAdd (pe_slice sl_tupA (pv 3) po_none (po_some (pv 5))) (pe_tup (pa_cons (pe_op opAdd (pe_tup (pa_cons (pv 10) pa_nil)) (pe_slice sl_tupA (pe_ix ix_tup (pv 3) (pv 5) (fun _ _ => rfl)) (po_some pe_int) po_none)) pa_nil))) (pe_slice sl_tupA (pv 3) (po_some (pe_op opAdd (pv 5) pe_int)) po_none)))))) pss_nil)
        (pss_one (ps_ret (pe_tup (pa_cons (pv 2) (pa_cons (pv 3) pa_nil))))))))))))), ?_⟩
    obtain ⟨t, a, b, xs, ys, rfl, hT, hTa, hX, hTb, hY⟩ := hG.ex
    have hlx := hX.length
    have hly := hY.length
    rw [List.length_map] at hlx hly
    have hp1 := hps.one
    have hp7 := hps.len
    have hf40 := hfs.len
    refine ⟨_, rfl, t, _, rfl, hT, rfl, _, _, rfl, _, _, rfl, rfl, ?_⟩
    refine ⟨_, rfl, p, c, 3, rfl, hP, by decide, by decide, fun road H1 r0 r3 hP1 k1 => ?_⟩
    have hTa1 := sqT_kp k1 hP.noTup hTa
    refine ⟨_, rfl, _, rfl, a, xs, rfl, .inr hTa1, p, c, _, rfl, hP1, by omega, by omega, fun spot H2 q0 q1 hP2 k2 => ?_⟩
    obtain ⟨i, rfl⟩ : ∃ i : Nat, spot = (i : Int) := ⟨spot.toNat, by omega⟩
    have hi : i < ps.length := by omega
    have k02 := k1.trans k2
    have hTa2 := sqT_kp k2 hP1.noTup hTa1
    have hX2 := hX.kp k02 hP.noTup trivial
    obtain ⟨u, hu, hud⟩ := da_all_at hX2 hi
    obtain ⟨tp, tm, us, rfl, hTp, hTm, hU⟩ := hud.dt
    have hlu := hU.length
    rw [List.length_map] at hlu
    have hpi := hps.all _ (List.getElem_mem hi)
    have hm1 := hpi.one
    have hm7 := hpi.len
    refine ⟨_, rfl, _, rfl, a, xs, _, _, rfl, rfl, hTa2, atI_nat hu, tp, _, rfl, hTp, rfl, _, _, rfl, _, _, rfl, rfl, ?_⟩
    refine ⟨_, rfl, _, rfl, tm, us, rfl, .inr hTm, p, c, _, rfl, hP2, by omega, by omega, fun kk H3 z0 z1 hP3 k3 => ?_⟩
    obtain ⟨j, rfl⟩ : ∃ j : Nat, kk = (j : Int) := ⟨kk.toNat, by omega⟩
    have hj : j < ps[i].2.length := by omega
    have hj1 : (j : Int) + 1 = ((j + 1 : Nat) : Int) := by omega
    have k03 := k02.trans k3
    have hTa3 := sqT_kp k3 hP2.noTup hTa2
    have hX3 := hX2.kp k3 hP2.noTup trivial
    have hTm3 := sqT_kp k3 hP2.noTup hTm
    have hU3 := hU.kp k3 hP2.noTup trivial
    have hTb3 := sqT_kp k03 hP.noTup hTb
    have hY3 := hY.kp k03 hP.noTup trivial
    generalize hpe : ps[i] = pi at *
    let Mid : L2.St → Hp → Prop := fun σ H' => ∃ (sx : Str) (tm : Addr) (us : List V) (ms : List MkT) (w9 w10 w11 w12 : Option V), σ = [some (.ref p), some (.ref t), some (.ref a), some (.ref b), some (.int road), some (.int (i : Int)), some (.str sx), some (.ref tm), some (.int (j : Int)), w9, w10, w11, w12] ∧
      SqT K H' tm us ∧ DaAll K All H' us (ms.map mkD) ∧ DtS (sx, ms) ∧ Pen H' p c ∧ Kp p H3 H'
    refine ⟨Mid, ?_, ?_⟩
    · refine ⟨_, rfl, rfl, _, rfl, ?_⟩
      refine ite2 (fun _ => ?_) (fun _ => ?_)
      · -- another one's name
        refine ⟨_, rfl, _, rfl, _, rfl, a, xs, rfl, .inr hTa3, p, c, _, rfl, hP3, by omega, by omega, fun o H4 o0 o1 hP4 k4 => ?_⟩
        obtain ⟨o', rfl⟩ : ∃ o' : Nat, o = (o' : Int) := ⟨o.toNat, by omega⟩
        have ho : o' < ps.length := by omega
        have hTa4 := sqT_kp k4 hP3.noTup hTa3
        have hX4 := hX3.kp k4 hP3.noTup trivial
        obtain ⟨u2, hu2, hud2⟩ := da_all_at hX4 ho
        obtain ⟨tp2, tm2, us2, rfl, hTp2, _, _⟩ := hud2.dt
        refine ⟨a, xs, _, _, rfl, rfl, hTa4, atI_nat hu2, tp2, _, 0, _, rfl, rfl, hTp2, rfl, ?_⟩
        exact ⟨_, tm, us, pi.2, _, _, _, _, rfl, sqT_kp k4 hP3.noTup hTm3, hU3.kp k4 hP3.noTup trivial, ⟨(hps.all _ (List.getElem_mem ho)).nm, hm1, hm7, hpi.all⟩, hP4, k4⟩
      refine ⟨_, rfl, rfl, _, rfl, ?_⟩
      refine ite2 (fun _ => ?_) (fun _ => ?_)
      · -- a maker's name
        refine ⟨_, rfl, _, rfl, _, rfl, a, xs, rfl, .inr hTa3, p, c, _, rfl, hP3, by omega, by omega, fun o H4 o0 o1 hP4 k4 => ?_⟩
        obtain ⟨o', rfl⟩ : ∃ o' : Nat, o = (o' : Int) := ⟨o.toNat, by omega⟩
        have ho : o' < ps.length := by omega
        have hTa4 := sqT_kp k4 hP3.noTup hTa3
        have hX4 := hX3.kp k4 hP3.noTup trivial
        obtain ⟨u2, hu2, hud2⟩ := da_all_at hX4 ho
        obtain ⟨tp2, tm2, us2, rfl, hTp2, hTm2, hU2⟩ := hud2.dt
        have hl2 := hU2.length
        rw [List.length_map] at hl2
        have hpo := hps.all _ (List.getElem_mem ho)
        have l1 := hpo.one
        have l7 := hpo.len
        refine ⟨a, xs, _, _, rfl, rfl, hTa4, atI_nat hu2, tp2, _, 1, _, rfl, rfl, hTp2, rfl, ?_⟩
        refine ⟨_, rfl, _, rfl, _, rfl, tm2, us2, rfl, .inr hTm2, p, c, _, rfl, hP4, by omega, by omega, fun r H5 x0 x1 hP5 k5 => ?_⟩
        obtain ⟨r', rfl⟩ : ∃ r' : Nat, r = (r' : Int) := ⟨r.toNat, by omega⟩
        have hr' : r' < (ps[o']).2.length := by omega
        have hTm5 := sqT_kp k5 hP4.noTup hTm2
        have hU5 := hU2.kp k5 hP4.noTup trivial
        obtain ⟨um, hum, hmd⟩ := da_all_at hU5 hr'
        obtain ⟨tk, tf, rfl, hTk, _⟩ := hmd.mk
        refine ⟨tm2, us2, _, _, rfl, rfl, hTm5, atI_nat hum, tk, _, 0, _, rfl, rfl, hTk, rfl, ?_⟩
        have k35 := k4.trans k5
        have hTmA := sqT_kp k35 hP3.noTup hTm3
        have hUA := hU3.kp k35 hP3.noTup trivial
        have hnm : Nm ((ps[o']).2[r']).1 := (hpo.all _ (List.getElem_mem hr')).nm
        generalize ((ps[o']).2[r']).1 = nym at *
        refine ⟨_, rfl, _, rfl, _, rfl, ?_⟩
        dsimp only [tNoPart]
        refine cut_any hTmA fun t1 H6 s6 hT6 => ?_
        rw [cut_take] at hT6
        obtain ⟨v0, hv0, hd0⟩ := da_all_at hUA hj
        obtain ⟨tk0, tf0, rfl, hTk0, hTf0⟩ := hd0.mk
        refine ⟨_, rfl, _, rfl, _, rfl, tm, us, _, _, rfl, rfl, sqT_same s6 hTmA, atI_nat hv0, tk0, _, 1, _, rfl, rfl, sqT_same s6 hTk0, rfl, ?_⟩
        refine ⟨le_line (by show 2 ≤ 16000000; decide), fun t2 h2 => ⟨le_line (by show 1 ≤ 16000000; decide), fun t3 h3 => ?_⟩⟩
        have s7 : Same H6 (upd H6 t2 (.tup [V.str nym, V.ref tf0])) := same_new h2
        have s8 := same_new (o := .tup [V.ref t2]) h3
        have s68 := s7.trans s8
        refine .inr (.inr (.inl (cat_any (sqT_same s68 hT6) (SqT.of upd_same) (le_line ?_) fun t4 H9 s9 hT9 => ?_)))
        · rw [List.length_take]
          show min j us.length + 1 ≤ 16000000
          omega
        have s69 := s68.trans s9
        refine ⟨_, rfl, _, rfl, .inl ⟨_, _, rfl, rfl, _, rfl, ?_⟩⟩
        dsimp only [tNoPart]
        refine cut_any (sqT_same s69 (sqT_same s6 hTmA)) fun t5 H10 sA hTA => ?_
        rw [hj1, cut_drop] at hTA
        refine .inr (.inr (.inl (cat_any (sqT_same sA hT9) hTA (le_line ?_) fun t6 H11 sB hTB => ?_)))
        · rw [List.length_append, List.length_take, List.length_drop]
          show min j us.length + 1 + (us.length - (j + 1)) ≤ 16000000
          omega
        have s6B := s69.trans (sA.trans sB)
        have s8B := (s9.trans sA).trans sB
        have dm : Da K All H11 (.ref t2) (mkD (nym, pi.2[j].2)) := .tup (sqT_same (s8.trans s8B) (SqT.of upd_same)) (.cons (.str _) (.cons (.tup (sqT_same (s6.trans s6B) hTf0) (da_names _)) .nil))
        have hmj := hpi.all _ (List.getElem_mem hj)
        refine ⟨_, t6, _, setAt pi.2 j (nym, pi.2[j].2), _, _, _, _, rfl, hTB, by rw [setAt_map]; exact da_setAt (hUA.same (s6.trans s6B)) dm j, ⟨hpi.nm, by show 1 ≤ (setAt _ _ _).length; rw [setAt_len hj]; exact hm1, by show (setAt _ _ _).length ≤ 7; rw [setAt_len hj]; exact hm7, fun m hm => ?_⟩, hP5.same (s6.trans s6B), k35.same (s6.trans s6B)⟩
        rcases setAt_mem hm with rfl | hm
        · exact ⟨hnm, hmj.len, hmj.all⟩
        · exact hpi.all m hm
      refine ⟨_, rfl, rfl, _, rfl, ?_⟩
      refine ite2 (fun _ => ?_) (fun _ => ⟨_, tm, us, pi.2, _, _, _, _, rfl, hTm3, hU3, hpi, hP3, Kp.refl⟩)
      -- one field more
      refine ⟨_, rfl, _, rfl, p, c, rfl, hP3, fun x H4 hx hP4 k4 => ?_⟩
      have hTm4 := sqT_kp k4 hP3.noTup hTm3
      have hU4 := hU3.kp k4 hP3.noTup trivial
      obtain ⟨v1, hv1, hd1⟩ := da_all_at hU4 (i := 0) (by omega)
      obtain ⟨tk1, tf1, rfl, hTk1, _⟩ := hd1.mk
      have hat0 : atI us 0 = some (.ref tk1) := atI_nat (j := 0) hv1
      refine ⟨_, rfl, tm, us, 0, _, rfl, rfl, hTm4, hat0, tk1, _, 0, _, rfl, rfl, hTk1, rfl, ?_⟩
      refine ⟨le_line (by show 3 ≤ 16000000; decide), fun L hL => ?_⟩
      have sL : Same H4 (upd H4 L (.lst [V.str pi.1, V.str x, V.str (pi.2[0]).1])) := same_new hL
      have nLp := hP4.neP hL
      refine ⟨_, rfl, p, c, 3, rfl, hP4.same sL, by decide, by decide, fun l H5 l0 l1 hP5 k5 => ?_⟩
      have eL := k5 _ _ upd_same nLp
      have k45 := (k4.same sL).trans k5
      have hTm5 := sqT_kp k45 hP3.noTup hTm3
      have hU5 := hU3.kp k45 hP3.noTup trivial
      obtain ⟨mo, hmo, nmo⟩ : ∃ mo : Str, atI [V.str pi.1, V.str x, V.str (pi.2[0]).1] l = some (.str mo) ∧ Nm mo := by
        have hl : l = 0 ∨ l = 1 ∨ l = 2 := by omega
        rcases hl with rfl | rfl | rfl
        · exact ⟨_, rfl, hpi.nm⟩
        · exact ⟨_, rfl, hx⟩
        · exact ⟨_, rfl, (hpi.all _ (List.getElem_mem _)).nm⟩
      refine ⟨L, _, l, .str mo, rfl, rfl, SqL.of eL, hmo, ?_⟩
      obtain ⟨v0, hv0, hd0⟩ := da_all_at hU5 hj
      obtain ⟨tk0, tf0, rfl, hTk0, hTf0⟩ := hd0.mk
      have hmj := hpi.all _ (List.getElem_mem hj)
      refine ⟨_, rfl, _, rfl, tm, us, _, _, rfl, rfl, hTm5, atI_nat hv0, tk0, _, 1, _, rfl, rfl, hTk0, rfl, 3, rfl, ?_⟩
      refine cut_any hTf0 fun t0 H6 s6 hT6 => ?_
      rw [show cutV (pi.2[j].2.map V.str) none (some 3) = (pi.2[j].2.map V.str).take 3 from cut_take _ 3] at hT6
      refine ⟨_, rfl, le_line (by show 1 ≤ 16000000; decide), fun tx htx => ?_⟩
      have s7 : Same H6 (upd H6 tx (.tup [V.str mo])) := same_new htx
      refine .inr (.inr (.inl (cat_any (sqT_same s7 hT6) (SqT.of upd_same) (le_line ?_) fun ts H7 s8 hTs => ?_)))
      · rw [List.length_take, List.length_map]
        show min 3 pi.2[j].2.length + 1 ≤ 16000000
        omega
      have s57 := (s6.trans s7).trans s8
      have hTs' : SqT K H7 ts ((pi.2[j].2.take 3 ++ [mo]).map V.str) := by
        rw [List.map_append, List.map_take]
        exact hTs
      generalize hfl : pi.2[j].2.take 3 ++ [mo] = fl at *
      have fl4 : fl.length ≤ 5 := by
        rw [← hfl, List.length_append, List.length_take]
        show min 3 pi.2[j].2.length + 1 ≤ 5
        omega
      have flN : ∀ f ∈ fl, Nm f := fun f hf => by
        rw [← hfl] at hf
        rcases List.mem_append.mp hf with hf | hf
        · exact hmj.all f (List.mem_of_mem_take hf)
        · rw [List.mem_singleton.mp hf]
          exact nmo
      have hTm7 := sqT_same s57 hTm5
      refine ⟨_, rfl, _, rfl, _, rfl, ?_⟩
      dsimp only [tNoPart]
      refine cut_any hTm7 fun t1 H8 s9 hT8 => ?_
      rw [cut_take] at hT8
      refine ⟨_, rfl, _, rfl, tm, us, _, _, rfl, rfl, sqT_same s9 hTm7, atI_nat hv0, tk0, _, 0, _, rfl, rfl, sqT_same (s57.trans s9) hTk0, rfl, ?_⟩
      refine ⟨_, rfl, le_line (by show 2 ≤ 16000000; decide), fun t2 h2 => ⟨le_line (by show 1 ≤ 16000000; decide), fun t3 h3 => ?_⟩⟩
      have q7 : Same H8 (upd H8 t2 (.tup [V.str (pi.2[j]).1, V.ref ts])) := same_new h2
      have q8 := same_new (o := .tup [V.ref t2]) h3
      have q68 := q7.trans q8
      refine .inr (.inr (.inl (cat_any (sqT_same q68 hT8) (SqT.of upd_same) (le_line ?_) fun t4 H9 q9 hT9 => ?_)))
      · rw [List.length_take]
        show min j us.length + 1 ≤ 16000000
        omega
      have q69 := q68.trans q9
      refine ⟨_, rfl, _, rfl, .inl ⟨_, _, rfl, rfl, _, rfl, ?_⟩⟩
      dsimp only [tNoPart]
      refine cut_any (sqT_same q69 (sqT_same s9 hTm7)) fun t5 H10 sA hTA => ?_
      rw [hj1, cut_drop] at hTA
      refine .inr (.inr (.inl (cat_any (sqT_same sA hT9) hTA (le_line ?_) fun t6 H11 sB hTB => ?_)))
      · rw [List.length_append, List.length_take, List.length_drop]
        show min j us.length + 1 + (us.length - (j + 1)) ≤ 16000000
        omega
      have q6B := q69.trans (sA.trans sB)
      have q8B := (q9.trans sA).trans sB
      have q5B := (s57.trans s9).trans q6B
      have dm : Da K All H11 (.ref t2) (mkD ((pi.2[j]).1, fl)) := .tup (sqT_same (q8.trans q8B) (SqT.of upd_same)) (.cons (.str _) (.cons (.tup (sqT_same (s9.trans q6B) hTs') (da_names _)) .nil))
      refine ⟨_, t6, _, setAt pi.2 j ((pi.2[j]).1, fl), _, _, _, _, rfl, hTB, by rw [setAt_map]; exact da_setAt (hU5.same q5B) dm j, ⟨hpi.nm, by show 1 ≤ (setAt _ _ _).length; rw [setAt_len hj]; exact hm1, by show (setAt _ _ _).length ≤ 7; rw [setAt_len hj]; exact hm7, fun m hm => ?_⟩, hP5.same q5B, k45.same q5B⟩
      rcases setAt_mem hm with rfl | hm
      · exact ⟨hmj.nm, fl4, flN⟩
      · exact hpi.all m hm
    -- the data kind in its place
    rintro σ H4 ⟨sx, tm', us', ms, w9, w10, w11, w12, rfl, g1, g2, g3, hP4, k4⟩
    have hTa4 := sqT_kp k4 hP3.noTup hTa3
    have hX4 := hX3.kp k4 hP3.noTup trivial
    have hTb4 := sqT_kp k4 hP3.noTup hTb3
    have hY4 := hY3.kp k4 hP3.noTup trivial
    have k04 := k03.trans k4
    have hi1 : (i : Int) + 1 = ((i + 1 : Nat) : Int) := by omega
    refine ⟨_, rfl, _, rfl, _, rfl, ?_⟩
    dsimp only [tNoPart]
    refine cut_any hTa4 fun t1 H5 s5 hT5 => ?_
    rw [cut_take] at hT5
    refine ⟨_, rfl, _, rfl, le_line (by show 2 ≤ 16000000; decide), fun t2 h2 => ⟨le_line (by show 1 ≤ 16000000; decide), fun t3 h3 => ?_⟩⟩
    have q7 : Same H5 (upd H5 t2 (.tup [V.str sx, V.ref tm'])) := same_new h2
    have q8 := same_new (o := .tup [V.ref t2]) h3
    have q68 := q7.trans q8
    refine .inr (.inr (.inl (cat_any (sqT_same q68 hT5) (SqT.of upd_same) (le_line ?_) fun t4 H6 q9 hT6 => ?_)))
    · rw [List.length_take]
      show min i xs.length + 1 ≤ 16000000
      omega
    have q69 := q68.trans q9
    refine ⟨_, rfl, _, rfl, .inl ⟨_, _, rfl, rfl, _, rfl, ?_⟩⟩
    dsimp only [tNoPart]
    refine cut_any (sqT_same q69 (sqT_same s5 hTa4)) fun t5 H7 sA hTA => ?_
    rw [hi1, cut_drop] at hTA
    refine .inr (.inr (.inl (cat_any (sqT_same sA hT6) hTA (le_line ?_) fun t6 H8 sB hTB => ?_)))
    · rw [List.length_append, List.length_take, List.length_drop]
      show min i xs.length + 1 + (xs.length - (i + 1)) ≤ 16000000
      omega
    have q5B := s5.trans (q69.trans (sA.trans sB))
    have q8B := (q9.trans sA).trans sB
    have dt : Da K All H8 (.ref t2) (dtD (sx, ms)) := .tup (sqT_same (q8.trans q8B) (SqT.of upd_same)) (.cons (.str _) (.cons (.tup (sqT_same (s5.trans (q69.trans (sA.trans sB))) g1) (g2.same q5B)) .nil))
    have hXn : DaAll K All H8 ((xs.take i ++ [V.ref t2]) ++ xs.drop (i + 1)) ((setAt ps i (sx, ms)).map dtD) := by
      rw [setAt_map]
      exact da_setAt (hX4.same q5B) dt i
    have hpsn : PsS (setAt ps i (sx, ms)) := ⟨by rw [setAt_len hi]; exact hp1, by rw [setAt_len hi]; exact hp7, fun q hq => by
      rcases setAt_mem hq with rfl | hq
      · exact g3
      · exact hps.all q hq⟩
    have hTb8 := sqT_same q5B hTb4
    have hY8 := hY4.same q5B
    have hP8 := hP4.same q5B
    have k08 := k04.same q5B
    let Mid2 : L2.St → Hp → Prop := fun σ H' => ∃ (b' : Addr) (ys' : List V) (fs' : List DfT) (w5 w10 : Option V), σ = [some (.ref p), some (.ref t), some (.ref t6), some (.ref b'), some (.int road), w5, some (.str sx), some (.ref tm'), some (.int (j : Int)), w9, w10, w11, w12] ∧
      SqT K H' b' ys' ∧ DaAll K All H' ys' (fs'.map dfD) ∧ FsS bd fs' ∧ Pen H' p c ∧ Kp p H8 H'
    refine ⟨Mid2, ?_, ?_⟩
    · refine ⟨_, rfl, Nat.zero_le _, fun q hq => ?_⟩
      have sq : Same H8 (upd H8 q (.tup [])) := same_new hq
      refine ⟨b, q, ys, rfl, rfl, sqT_same sq hTb8, SqT.of upd_same, _, rfl, ?_⟩
      cases hye : ys.isEmpty with
      | true => exact iteF ⟨b, ys, fs, _, _, rfl, sqT_same sq hTb8, hY8.same sq, hfs, hP8.same sq, Kp.of sq⟩
      | false =>
      have hfpos : 0 < fs.length := by
        rw [← hly]
        cases ys with
        | nil => cases hye
        | cons _ _ => exact Nat.succ_pos _
      refine iteT ?_
      refine ⟨_, rfl, p, c, 2, rfl, hP8.same sq, by decide, by decide, fun o H9 o0 o1 hP9 k9 => ⟨rfl, _, rfl, ?_⟩⟩
      have k89 := (Kp.of sq).trans k9
      have hTb9 := sqT_kp k89 hP8.noTup hTb8
      have hY9 := hY8.kp k89 hP8.noTup trivial
      refine ite2 (fun _ => ?_) (fun _ => ⟨b, ys, fs, _, _, rfl, hTb9, hY9, hfs, hP9, k89⟩)
      refine ⟨_, rfl, _, rfl, b, ys, rfl, .inr hTb9, p, c, _, rfl, hP9, by omega, by omega, fun sp HA a0 a1 hPA kA => ?_⟩
      obtain ⟨e, rfl⟩ : ∃ e : Nat, sp = (e : Int) := ⟨sp.toNat, by omega⟩
      have he : e < fs.length := by omega
      have he1 : (e : Int) + 1 = ((e + 1 : Nat) : Int) := by omega
      have hTbA := sqT_kp kA hP9.noTup hTb9
      have hYA := hY9.kp kA hP9.noTup trivial
      refine ⟨_, rfl, _, rfl, _, rfl, b, ys, rfl, .inr hTbA, p, c, _, rfl, hPA, by omega, by omega, fun o2 HB b0 b1 hPB kB => ?_⟩
      obtain ⟨g, rfl⟩ : ∃ g : Nat, o2 = (g : Int) := ⟨o2.toNat, by omega⟩
      have hg : g < fs.length := by omega
      have hTbB := sqT_kp kB hPA.noTup hTbA
      have hYB := hYA.kp kB hPA.noTup trivial
      have k8B := (k89.trans kA).trans kB
      obtain ⟨u1, hu1, hd1⟩ := da_all_at hYB hg
      obtain ⟨tq, y1, y2, y3, rfl, hTq, hy1, _, _⟩ := Da.tup3 hd1
      obtain rfl := hy1.strInv
      have nmg := (hfs.all _ (List.getElem_mem hg)).1
      refine ⟨b, ys, _, _, rfl, rfl, hTbB, atI_nat hu1, tq, _, 0, _, rfl, rfl, hTq, rfl, ?_⟩
      obtain ⟨u2, hu2, hd2⟩ := da_all_at hYB he
      obtain ⟨tw, z1, z2, z3, rfl, hTw, hz1, hz2, hz3⟩ := Da.tup3 hd2
      have fse := hfs.all _ (List.getElem_mem he)
      generalize (fs[g]).1 = nym at *
      generalize hfe : fs[e] = fe at *
      refine ⟨_, rfl, _, rfl, _, rfl, ?_⟩
      dsimp only [tNoPart]
      refine cut_any hTbB fun t1 HC sC hT1 => ?_
      rw [cut_take] at hT1
      refine ⟨_, rfl, le_line (by show 1 ≤ 16000000; decide), fun tn hn => ?_⟩
      have sn : Same HC (upd HC tn (.tup [V.str nym])) := same_new hn
      refine ⟨_, rfl, _, rfl, b, ys, _, _, rfl, rfl, sqT_same (sC.trans sn) hTbB, atI_nat hu2, 1, rfl, ?_⟩
      dsimp only [tNoPart]
      refine cut_any (sqT_same (sC.trans sn) hTw) fun tc HD sD hTc => ?_
      rw [cut_one] at hTc
      refine .inr (.inr (.inl (cat_any (sqT_same sD (SqT.of upd_same)) hTc (le_line (by show 1 + 2 ≤ 16000000; decide)) fun t2 HE sE hT2 => ?_)))
      refine ⟨le_line (by show 1 ≤ 16000000; decide), fun t3 h3 => ?_⟩
      have s3 : Same HE (upd HE t3 (.tup [V.ref t2])) := same_new h3
      have sCE := ((sn.trans sD).trans sE).trans s3
      refine .inr (.inr (.inl (cat_any (sqT_same sCE hT1) (SqT.of upd_same) (le_line ?_) fun t4 HF sF hT4 => ?_)))
      · rw [List.length_take]
        show min e ys.length + 1 ≤ 16000000
        omega
      have sCF := sCE.trans sF
      refine ⟨_, rfl, _, rfl, .inl ⟨_, _, rfl, rfl, _, rfl, ?_⟩⟩
      dsimp only [tNoPart]
      refine cut_any (sqT_same (sC.trans sCF) hTbB) fun t5 HG sG hT5 => ?_
      rw [he1, cut_drop] at hT5
      refine .inr (.inr (.inl (cat_any (sqT_same sG hT4) hT5 (le_line ?_) fun t7 HJ sJ hT7 => ?_)))
      · rw [List.length_append, List.length_take, List.length_drop]
        show min e ys.length + 1 + (ys.length - (e + 1)) ≤ 16000000
        omega
      have sBJ := sC.trans (sCF.trans (sG.trans sJ))
      have sEJ := (s3.trans sF).trans (sG.trans sJ)
      have df : Da K All HJ (.ref t2) (dfD (nym, fe.2.1, fe.2.2)) := .tup (sqT_same sEJ hT2) (.cons (.str _) (.cons (hz2.same sBJ) (.cons (hz3.same sBJ) .nil)))
      refine ⟨t7, _, setAt fs e (nym, fe.2.1, fe.2.2), _, _, rfl, hT7, by rw [setAt_map]; exact da_setAt (hYB.same sBJ) df e, ⟨by rw [setAt_len he]; exact hfs.len, fun q hq => ?_⟩, hPB.same sBJ, k8B.same sBJ⟩
      rcases setAt_mem hq with rfl | hq
      · exact ⟨nmg, fse.2.1, fse.2.2⟩
      · exact hfs.all q hq
    · rintro σ H9 ⟨b', ys', fs', w5, w10', rfl, e1, e2, e3, hP9, k9⟩
      refine ⟨_, rfl, _, rfl, le_line (by show 2 ≤ 16000000; decide), fun tz hz => ?_⟩
      have sz : Same H9 (upd H9 tz (.tup [V.ref t6, V.ref b'])) := same_new hz
      exact k _ _ _ _ ⟨tz, t6, b', _, ys', rfl, SqT.of upd_same, sqT_same sz (sqT_kp k9 hP8.noTup hTB), (hXn.kp k9 hP8.noTup trivial).same sz, sqT_same sz e1, e2.same sz⟩ hpsn e3 (hP9.same sz) ((k08.trans k9).same sz)
end

section
variable {P : Program} {w : World} {K : PySem.W.Frag} {mg : Str → Option Value} {base : Heap}
theorem sub_df {fs : List DfT} {es : List PyData} (h : es.Sublist (fs.map dfD)) : ∃ gs : List DfT, es = gs.map dfD ∧ gs.Sublist fs := by
  obtain ⟨l, h1, h2⟩ := List.sublist_map_iff.mp h
  exact ⟨l, h2, h1⟩
theorem FsS.sub {b : Nat} {fs gs : List DfT} (h : FsS b fs) (s : gs.Sublist fs) : FsS b gs := ⟨Nat.le_trans s.length_le h.len, fun f hf => h.all f (s.subset hf)⟩
theorem FsS.snoc {b : Nat} {fs : List DfT} {f : DfT} (h : FsS b fs) (g : Nm f.1 ∧ Fit 2000 60 f.2.1 ∧ Fit 42740 60 f.2.2) : FsS (b + 1) (fs ++ [f]) := ⟨by rw [List.length_append]; exact Nat.succ_le_succ h.len, fun e he => by
  rcases List.mem_append.mp he with he | he
  · exact h.all e he
  · rw [List.mem_singleton.mp he]
    exact g⟩
theorem FsS.cons {b : Nat} {fs : List DfT} {f : DfT} (h : FsS b fs) (g : Nm f.1 ∧ Fit 2000 60 f.2.1 ∧ Fit 42740 60 f.2.2) : FsS (b + 1) (f :: fs) := ⟨Nat.succ_le_succ h.len, fun e he => by
  rcases List.mem_cons.mp he with rfl | he
  · exact g
  · exact h.all e he⟩
theorem ok_law {fL : Addr} {fdL : FuncData} (F : Fun K "law" "law" s_law fL fdL) (T : Bl mg) (C_law_pen : CallOk P w K mg base 1 "_law_pen" ["_law_script"] (spPen K)) (C_law_draw : CallOk P w K mg base 2 "_law_draw" ["_law_pen_here", "_law_below"] spDraw)
    (C_law_rough_program : CallOk P w K mg base 11 "_law_rough_program" ["_law_pen_here", "_law_datas", "_law_makers", "_law_fields", "_law_defs"] (spProg K)) (C_law_any : CallOk P w K mg base 7 "_law_any" ["_law_pen_here", "_law_deep"] (spAny K 4)) (C_law_beyond : CallOk P w K mg base 3 "_law_beyond" ["_law_pen_here"] (spBeyond K))
    (C_law_chain : CallOk P w K mg base 3 "_law_chain" ["_law_pen_here", "_law_often"] (spChain K)) (C_law_changed : CallOk P w K mg base 5 "_law_changed" ["_law_pen_here", "_law_thing"] (spChanged K)) (C_law_spoiled : CallOk P w K mg base 14 "_law_spoiled" ["_law_pen_here", "_law_thing", "_law_deep"] (spSpoil K 8))
    (C_is_program : CallOk P w K mg base 14 "is_program" ["thing"] (spOf K progOk)) (C_law_is_program : CallOk P w K mg base 41 "_law_is_program" ["_law_thing"] (spOf8 K progOk)) (C_law_truth : CallOk P w K mg base 1 "_law_truth" ["_law_found", "_law_due"] spTruth) :
    FnG P w K mg base 42 fL fdL ["_law_script"] (spLaw K) := by
  refine Fun.okG F sc_law (fun vs H Q E h => ?_) (fun cdv A outer s H vs Q E hg hr h => ?_)
  · obtain ⟨a, ns, rfl, _⟩ := h
    rfl
  · obtain ⟨a, ns, rfl, hS, hl, k⟩ := h
    refine ⟨_, (pss_cons (ps_set (i := 1) sc_law.nd rfl (Or.inl rfl) (pe_callOk C_law_pen hr (by omega) (by rfl) (pa_cons (pv 0) pa_nil)))
        (pss_cons (ps_for PassesOwn.never rfl (pi_range1 (by rfl) T.range_ (pa_cons pe_int pa_nil)) (pg_name (i := 2) sc_law.nd rfl (Or.inl rfl) (by first | exact .inl rfl | exact .inr rfl)) (pss_cons (ps_set (i := 3) sc_law.nd rfl (Or.inl rfl) (pe_callOk C_law_draw hr (by omega) (by rfl) (pa_cons (pv 1) (pa_cons pe_int pa_nil))))
        (pss_cons (ps_par (i := 4) (j := 5) (by rfl) sc_law.nd rfl rfl (by decide) rfl rfl (pa_cons (pe_op opAdd pe_int (pe_callOk C_law_draw hr (by omega) (by rfl) (pa_cons (pv 1) (pa_cons pe_int pa_nil)))) (pa_cons (pe_op opAdd pe_int (pe_callOk C_law_draw hr (by omega) (by rfl) (pa_cons (pv 1) (pa_cons pe_int pa_nil)))) pa_nil)) (by rfl))
        (pss_cons (ps_set (i := 6) sc_law.nd rfl (Or.inl rfl) (pe_callOk C_law_rough_program hr (by omega) (by rfl) (pa_cons (pv 1) (pa_cons (pv 4) (pa_cons (pv 5) (pa_cons pe_int (pa_cons (pe_callOk C_law_draw hr (by omega) (by rfl) (pa_cons (pv 1) (pa_cons pe_int pa_nil))) pa_nil)))))))
        (Evl.pss_cut (ps_if (PW.pt (pw_and (pt_cmpR (op_neU hr.units) (pe_ix ix_tup (pv 6) pe_int (fun _ _ => rfl)) (pe_tup pa_nil) (nomark _)) (pw_and1 (pt_cmpR op_eq (pe_callOk C_law_draw hr (by omega) (by rfl) (pa_cons (pv 1) (pa_cons pe_int pa_nil))) pe_int (nomark _))))) (pss_one (ps_set (i := 6) sc_law.nd rfl (Or.inl rfl) (pe_tup (pa_cons (pe_ix ix_tup (pv 6) pe_int (fun _ _ => rfl)) (pa_cons (pe_op opAdd (pe_slice sl_tupA (pe_ix ix_tup (pv 6) pe_int (fun _ _ => rfl)) po_none (po_some (pe_un un_neg pe_int))) (pe_tup (pa_cons (pe_tup (pa_cons (pe_ix ix_tup (pe_ix ix_tup (pe_ix ix_tup (pv 6) pe_int (fun _ _ => rfl)) (pe_un un_neg pe_int) (fun _ _ => rfl)) pe_int (fun _ _ => rfl)) (pa_cons pe_str (pa_cons (pe_callOk C_law_beyond hr (by omega) (by rfl) (pa_cons (pv 1) pa_nil)) pa_nil)))) pa_nil))) pa_nil))))) pss_nil)
        (Evl.pss_cut (ps_if (PW.pt (pw_and (pt_cmpR (op_neU hr.units) (pe_ix ix_tup (pv 6) pe_int (fun _ _ => rfl)) (pe_tup pa_nil) (nomark _)) (pw_and1 (pt_cmpR op_eq (pe_callOk C_law_draw hr (by omega) (by rfl) (pa_cons (pv 1) (pa_cons pe_int pa_nil))) pe_int (nomark _))))) (pss_one (ps_set (i := 6) sc_law.nd rfl (Or.inl rfl) (pe_tup (pa_cons (pe_ix ix_tup (pv 6) pe_int (fun _ _ => rfl)) (pa_cons (pe_op opAdd (pe_tup (pa_cons (pe_tup (pa_cons (pe_ix ix_tup (pe_ix ix_tup (pe_ix ix_tup (pv 6) pe_int (fun _ _ => rfl)) pe_int (fun _ _ => rfl)) pe_int (fun _ _ => rfl)) (pa_cons (pe_callOk C_law_chain hr (by omega) (by rfl) (pa_cons (pv 1) (pa_cons (pe_op opAdd pe_int (pe_callOk C_law_draw hr (by omega) (by rfl) (pa_cons (pv 1) (pa_cons pe_int pa_nil)))) pa_nil))) (pa_cons pe_str pa_nil)))) pa_nil)) (pe_slice sl_tupA (pe_ix ix_tup (pv 6) pe_int (fun _ _ => rfl)) (po_some pe_int) po_none)) pa_nil))))) pss_nil)
        (Evl.pss_cut (ps_if (pt_cmpR op_eq (pv 3) pe_int (nomark _)) (pss_one (ps_set (i := 6) sc_law.nd rfl (Or.inl rfl) (pe_callOk C_law_rough_program hr (by omega) (by rfl) (pa_cons (pv 1) (pa_cons (pe_op opAdd pe_int (pe_callOk C_law_draw hr (by omega) (by rfl) (pa_cons (pv 1) (pa_cons pe_int pa_nil)))) (pa_cons pe_int (pa_cons pe_int (pa_cons pe_int pa_nil)))))))) pss_nil)
        (Evl.pss_cut (ps_if (pt_cmpR op_eq (pv 3) pe_int (nomark _)) (pss_one (ps_set (i := 6) sc_law.nd rfl (Or.inl rfl) (pe_callOk C_law_rough_program hr (by omega) (by rfl) (pa_cons (pv 1) (pa_cons pe_int (pa_cons (pe_op opAdd pe_int (pe_callOk C_law_draw hr (by omega) (by rfl) (pa_cons (pv 1) (pa_cons pe_int pa_nil)))) (pa_cons pe_int (pa_cons pe_int pa_nil)))))))) pss_nil)
        (Evl.pss_cut (ps_if (pt_cmpR op_eq (pv 3) pe_int (nomark _)) (pss_one (ps_set (i := 6) sc_law.nd rfl (Or.inl rfl) (pe_callOk C_law_rough_program hr (by omega) (by rfl) (pa_cons (pv 1) (pa_cons pe_int (pa_cons pe_int (pa_cons pe_int (pa_cons pe_int pa_nil)))))))) pss_nil)
        (Evl.pss_cut (ps_if (pt_cmpR op_eq (pv 3) pe_int (nomark _)) (pss_cons (ps_set (i := 7) sc_law.nd rfl (Or.inl rfl) (pe_ix ix_tup (pe_callOk C_law_rough_program hr (by omega) (by rfl) (pa_cons (pv 1) (pa_cons pe_int (pa_cons pe_int (pa_cons pe_int (pa_cons (pe_op opAdd pe_int (pe_callOk C_law_draw hr (by omega) (by rfl) (pa_cons (pv 1) (pa_cons pe_int pa_nil)))) pa_nil)))))) pe_int (fun _ _ => rfl)))
        (pss_cons (ps_set (i := 6) sc_law.nd rfl (Or.inl rfl) (pe_tup (pa_cons (pe_ix ix_tup (pv 6) pe_int (fun _ _ => rfl)) (pa_cons (pe_op opAdd (pe_op op_repA (pe_ix ix_tup (pv 6) pe_int (fun _ _ => rfl)) pe_int) (pv 7)) pa_nil))))
        (pss_one (ps_set (i := 6) sc_law.nd rfl (Or.inl rfl) (pe_tup (pa_cons (pe_ix ix_tup (pv 6) pe_int (fun _ _ => rfl)) (pa_cons (pe_slice sl_tupA (pe_ix ix_tup (pv 6) pe_int (fun _ _ => rfl)) (po_some (pe_op op_sub (pe_un un_neg pe_int) (pe_callOk C_law_draw hr (by omega) (by rfl) (pa_cons (pv 1) (pa_cons pe_int pa_nil))))) po_none) pa_nil))))))) pss_nil)
        (Evl.pss_cut (ps_if (pt_cmpR op_gt (pv 3) pe_int (nomark _)) (pss_one (ps_set (i := 6) sc_law.nd rfl (Or.inl rfl) (pe_callOk C_law_changed hr (by omega) (by rfl) (pa_cons (pv 1) (pa_cons (pv 6) pa_nil))))) pss_nil)
        (Evl.pss_cut (ps_if (pt_cmpR op_eq (pv 3) pe_int (nomark _)) (pss_one (ps_set (i := 6) sc_law.nd rfl (Or.inl rfl) (pe_callOk C_law_spoiled hr (by omega) (by rfl) (pa_cons (pv 1) (pa_cons (pv 6) (pa_cons pe_int pa_nil)))))) pss_nil)
        (Evl.pss_cut (ps_if (pt_cmpR op_eq (pv 3) pe_int (nomark _)) (pss_one (ps_set (i := 6) sc_law.nd rfl (Or.inl rfl) (pe_callOk C_law_any hr (by omega) (by rfl) (pa_cons (pv 1) (pa_cons pe_int pa_nil))))) pss_nil)
        (pss_cons (ps_set (i := 8) sc_law.nd rfl (Or.inl rfl) (pe_callB (call_reprD hg) (by rfl) T.repr_ (by decide +kernel) (pa_cons (pv 6) pa_nil)))
        (pss_cons (ps_if (pt_not (pt_val (pe_callOk C_law_truth hr (by omega) (by rfl) (pa_cons (pe_callOk C_is_program hr (by omega) (by rfl) (pa_cons (pv 6) pa_nil)) (pa_cons (pe_callOk C_law_is_program hr (by omega) (by rfl) (pa_cons (pv 6) pa_nil)) pa_nil))))) (pss_one (ps_ret pe_bl)) pss_nil)
        (pss_one (ps_if (pt_cmpR op_ne (pe_callB (call_reprD hg) (by rfl) T.repr_ (by decide +kernel) (pa_cons (pv 6) pa_nil)) (pv 8) (nomark _)) (pss_one (ps_ret pe_bl)) pss_nil)))))))))))))))))
        (pss_one (ps_ret (pe_cmpR op_isBl (pe_callOk C_is_program hr (by omega) (by rfl) (pa_cons (pe_tup (pa_cons (pe_tup pa_nil) (pa_cons (pe_tup pa_nil) pa_nil))) pa_nil)) pe_bl (nomark _)))))), ?_⟩
    refine ⟨_, rfl, a, ns, rfl, hS, hl, fun p c H0 hP0 s0 _ _ => ?_⟩
    refine ⟨5, rfl, by decide, by decide, for_range (lo := 0) (n := 5) (fun i σ H' => ∃ v2 v3 v4 v5 v6 v7 v8, σ = [some (.ref a), some (.ref p), v2, v3, v4, v5, v6, v7, v8] ∧ Pen H' p c) ⟨none, none, none, none, none, none, none, rfl, hP0⟩ ?_ ?_⟩
    · rintro i σ H1 hi ⟨v2, v3, v4, v5, v6, v7, v8, rfl, hP1⟩
      refine ⟨_, rfl, p, c, 8, rfl, hP1, by decide, by decide, fun road H2 r0 r8 hP2 k2 => ?_⟩
      refine ⟨_, rfl, p, c, 3, rfl, hP2, by decide, by decide, fun w1 H3 w10 w13 hP3 k3 => .inl ⟨_, _, rfl, rfl, ?_⟩⟩
      refine ⟨_, rfl, p, c, 3, rfl, hP3, by decide, by decide, fun w2 H4 w20 w23 hP4 k4 => .inl ⟨_, _, rfl, rfl, ?_⟩⟩
      refine ⟨_, _, rfl, ?_⟩
      refine ⟨_, rfl, _, rfl, _, rfl, _, rfl, p, c, 4, rfl, hP4, by decide, by decide, fun d H5 d0 d4 hP5 k5 => ?_⟩
      refine ⟨p, c, _, _, _, _, rfl, by omega, by omega, by omega, by omega, by decide, by decide, by omega, by omega, hP5, fun v ps fs H6 g1 g2 g3 g4 hP6 k6 => ?_⟩
      let Mid : Nat → L2.St → Hp → Prop := fun b σ H' => ∃ (v : V) (ps : List DtT) (fs : List DfT) (w7 : Option V), σ = [some (.ref a), some (.ref p), some (.int (0 + (i : Int))), some (.int road), some (.int (1 + w1)), some (.int (1 + w2)), some v, w7, v8] ∧ Prg K H' v ps fs ∧ PsS ps ∧ FsS b fs ∧ Pen H' p c
      have fone : ∀ {x : Str} {n m : Nat}, wt (.str x) ≤ 4 → 4 ≤ n → Fit n m (.str x) := fun h hn => (fit_sign h).le hn (Nat.zero_le _)
      -- a last def beyond the bounds
      refine ⟨Mid 4, ?_, ?_⟩
      · obtain ⟨t, ta, tb, xs, ys, rfl, hT, hTa, hX, hTb, hY⟩ := g1.ex
        have hly := hY.length
        rw [List.length_map] at hly
        refine ⟨_, rfl, t, _, 1, _, rfl, rfl, hT, rfl, Nat.zero_le _, fun q hq => ?_⟩
        have sq : Same H6 (upd H6 q (.tup [])) := same_new hq
        refine ⟨tb, q, ys, rfl, rfl, sqT_same sq hTb, SqT.of upd_same, _, rfl, ?_⟩
        have g3' : FsS 4 fs := g3.le (by omega)
        cases hye : ys.isEmpty with
        | true => exact iteF ⟨_, ps, fs, _, rfl, g1.same sq, g2, g3', hP6.same sq⟩
        | false =>
        refine iteT ?_
        have hyn : ys ≠ [] := fun e => by
          rw [e] at hye
          cases hye
        refine ⟨_, rfl, p, c, 4, rfl, hP6.same sq, by decide, by decide, fun o H7 o0 o1 hP7 k7 => ⟨rfl, _, rfl, ?_⟩⟩
        have k67 := (Kp.of sq).trans k7
        have g17 := g1.kp k67 hP6.noTup
        refine ite2 (fun _ => ?_) (fun _ => ⟨_, ps, fs, _, rfl, g17, g2, g3', hP7⟩)
        have hT7 := sqT_kp k67 hP6.noTup hT
        have hTa7 := sqT_kp k67 hP6.noTup hTa
        have hTb7 := sqT_kp k67 hP6.noTup hTb
        have hX7 := hX.kp k67 hP6.noTup trivial
        have hY7 := hY.kp k67 hP6.noTup trivial
        refine ⟨_, rfl, t, _, 0, _, rfl, rfl, hT7, rfl, ?_⟩
        refine ⟨_, rfl, t, _, 1, _, rfl, rfl, hT7, rfl, 1, rfl, _, rfl, ?_⟩
        dsimp only [tNoPart]
        refine cut_any hTb7 fun t1 H8 s8 hT8 => ?_
        obtain ⟨es, hE, hEs, hEl⟩ := da_cut hY7 none (some (-1))
        obtain ⟨gs, rfl, hgs⟩ := sub_df hEs
        obtain ⟨yl, hyl, hyl2⟩ := at_last hyn
        obtain ⟨dl, hdl, hdd⟩ := hY7.get hyl2
        obtain ⟨fl, hfl, rfl⟩ := map_get hdl
        obtain ⟨tq, y1, y2, y3, rfl, hTq, hy1, _, _⟩ := Da.tup3 hdd
        obtain rfl := hy1.strInv
        have nml := (g3.all _ (List.mem_of_getElem? hfl)).1
        refine ⟨_, rfl, t, _, 1, _, rfl, rfl, sqT_same s8 hT7, rfl, 1, rfl, tb, ys, -1, _, rfl, rfl, sqT_same s8 hTb7, hyl, tq, _, 0, _, rfl, rfl, sqT_same s8 hTq, rfl, ?_⟩
        refine ⟨_, rfl, p, c, rfl, hP7.same s8, fun vb db H9 hb fb hP9 k9 => ?_⟩
        have hP8 := hP7.same s8
        refine ⟨le_line (by show 3 ≤ 16000000; decide), fun t2 h2 => ⟨le_line (by show 1 ≤ 16000000; decide), fun t3 h3 => ?_⟩⟩
        have q1 : Same H9 (upd H9 t2 (.tup [V.str fl.1, V.str (Str.ofString "d"), vb])) := same_new h2
        have q2 := same_new (o := .tup [V.ref t2]) h3
        have q12 := q1.trans q2
        have hT9 := sqT_kp k9 hP8.noTup hT8
        refine .inr (.inr (.inl (cat_any (sqT_same q12 hT9) (SqT.of upd_same) (le_line ?_) fun t4 HA sA hTA => ?_)))
        · rw [hEl]
          have := hgs.length_le
          rw [List.length_map]
          show gs.length + 1 ≤ 16000000
          omega
        refine ⟨le_line (by show 2 ≤ 16000000; decide), fun t5 h5 => ?_⟩
        have sB : Same HA (upd HA t5 (.tup [V.ref ta, V.ref t4])) := same_new h5
        have s9B := (q12.trans sA).trans sB
        have k7B : Kp p H7 _ := ((Kp.of s8).trans k9).same s9B
        have hE9 := (hE.same s8).kp k9 hP8.noTup trivial
        have df : Da K All (upd HA t5 (.tup [V.ref ta, V.ref t4])) (.ref t2) (dfD (fl.1, .str (Str.ofString "d"), db)) := .tup (sqT_same (q2.trans (sA.trans sB)) (SqT.of upd_same)) (.cons (.str _) (.cons (.str _) (.cons (hb.same s9B) .nil)))
        refine ⟨.ref t5, ps, gs ++ [(fl.1, .str (Str.ofString "d"), db)], _, rfl, ⟨t5, ta, t4, xs, _, rfl, SqT.of upd_same, sqT_kp k7B hP7.noTup hTa7, hX7.kp k7B hP7.noTup trivial, sqT_same sB hTA, ?_⟩, g2, ((g3.le (c := 3) (by omega)).sub hgs).snoc ⟨nml, fone (by decide +kernel) (by decide), fb⟩, hP9.same s9B⟩
        rw [List.map_append]
        exact (hE9.same s9B).append (.cons df .nil)
      rintro σ H7 ⟨v, ps, fs, w7, rfl, g1, g2, g3, hP7⟩
      -- a first def of a kind that is too deep
      refine ⟨Mid 5, ?_, ?_⟩
      · obtain ⟨t, ta, tb, xs, ys, rfl, hT, hTa, hX, hTb, hY⟩ := g1.ex
        have hly := hY.length
        rw [List.length_map] at hly
        have hb4 := g3.len
        refine ⟨_, rfl, t, _, 1, _, rfl, rfl, hT, rfl, Nat.zero_le _, fun q hq => ?_⟩
        have sq : Same H7 (upd H7 q (.tup [])) := same_new hq
        refine ⟨tb, q, ys, rfl, rfl, sqT_same sq hTb, SqT.of upd_same, _, rfl, ?_⟩
        have g3' : FsS 5 fs := g3.le (by omega)
        cases hye : ys.isEmpty with
        | true => exact iteF ⟨_, ps, fs, _, rfl, g1.same sq, g2, g3', hP7.same sq⟩
        | false =>
        refine iteT ?_
        have hfn : 0 < fs.length := by
          rw [← hly]
          cases ys with
          | nil => cases hye
          | cons _ _ => exact Nat.succ_pos _
        refine ⟨_, rfl, p, c, 4, rfl, hP7.same sq, by decide, by decide, fun o H8 o0 o1 hP8 k8 => ⟨rfl, _, rfl, ?_⟩⟩
        have k78 := (Kp.of sq).trans k8
        have g18 := g1.kp k78 hP7.noTup
        refine ite2 (fun _ => ?_) (fun _ => ⟨_, ps, fs, _, rfl, g18, g2, g3', hP8⟩)
        have hT8 := sqT_kp k78 hP7.noTup hT
        have hTa8 := sqT_kp k78 hP7.noTup hTa
        have hTb8 := sqT_kp k78 hP7.noTup hTb
        have hX8 := hX.kp k78 hP7.noTup trivial
        have hY8 := hY.kp k78 hP7.noTup trivial
        obtain ⟨yf, hyf, hdd⟩ := da_all_at hY8 hfn
        obtain ⟨tq, y1, y2, y3, rfl, hTq, hy1, _, _⟩ := Da.tup3 hdd
        obtain rfl := hy1.strInv
        have nml := (g3.all _ (List.getElem_mem hfn)).1
        refine ⟨_, rfl, t, _, 0, _, rfl, rfl, hT8, rfl, ?_⟩
        refine ⟨_, rfl, t, _, 1, _, rfl, rfl, hT8, rfl, tb, ys, 0, _, rfl, rfl, hTb8, atI_nat (j := 0) hyf, tq, _, 0, _, rfl, rfl, hTq, rfl, ?_⟩
        generalize (fs[0]).1 = nmf at *
        refine ⟨_, rfl, _, rfl, p, c, 3, rfl, hP8, by decide, by decide, fun m H9 m0 m3 hP9 k9 => .inl ⟨_, _, rfl, rfl, ?_⟩⟩
        refine ⟨p, c, _, rfl, by omega, by omega, hP9, fun vc dc HA hc fc hPA kA => ?_⟩
        refine ⟨le_line (by show 3 ≤ 16000000; decide), fun t2 h2 => ⟨le_line (by show 1 ≤ 16000000; decide), fun t3 h3 => ?_⟩⟩
        have q1 : Same HA (upd HA t2 (.tup [V.str nmf, vc, V.str (Str.ofString "x")])) := same_new h2
        have q2 := same_new (o := .tup [V.ref t2]) h3
        have q12 := q1.trans q2
        have k8A := k9.trans kA
        have k8B : Kp p H8 _ := k8A.same q12
        refine ⟨_, rfl, t, _, 1, _, rfl, rfl, sqT_kp k8B hP8.noTup hT8, rfl, 1, rfl, ?_⟩
        dsimp only [tNoPart]
        have hTbB := sqT_kp k8B hP8.noTup hTb8
        have hYB := hY8.kp k8B hP8.noTup trivial
        refine cut_any hTbB fun t4 HC sC hTC => ?_
        obtain ⟨es, hE, hEs, hEl⟩ := da_cut hYB (some 1) none
        obtain ⟨gs, rfl, hgs⟩ := sub_df hEs
        refine .inr (.inr (.inl (cat_any (sqT_same sC (SqT.of upd_same)) hTC (le_line ?_) fun t5 HD sD hTD => ?_)))
        · rw [hEl]
          have := hgs.length_le
          rw [List.length_map]
          show 1 + gs.length ≤ 16000000
          omega
        refine ⟨le_line (by show 2 ≤ 16000000; decide), fun t6 h6 => ?_⟩
        have sE : Same HD (upd HD t6 (.tup [V.ref ta, V.ref t5])) := same_new h6
        have sCE := (sC.trans sD).trans sE
        have k8E := k8B.same sCE
        have df : Da K All (upd HD t6 (.tup [V.ref ta, V.ref t5])) (.ref t2) (dfD (nmf, dc, .str (Str.ofString "x"))) := .tup (sqT_same (q2.trans sCE) (SqT.of upd_same)) (.cons (.str _) (.cons (hc.same (q12.trans sCE)) (.cons (.str _) .nil)))
        exact ⟨.ref t6, ps, (nmf, dc, .str (Str.ofString "x")) :: gs, _, rfl, ⟨t6, ta, t5, xs, _, rfl, SqT.of upd_same, sqT_kp k8E hP8.noTup hTa8, hX8.kp k8E hP8.noTup trivial, sqT_same sE hTD, .cons df (hE.same sCE)⟩, g2, (g3.sub hgs).cons ⟨nml, fc.le (by decide) (by decide), fone (by decide +kernel) (by decide)⟩, hPA.same (q12.trans sCE)⟩
      rintro σ H8 ⟨v, ps, fs, w7, rfl, g1, g2, g3, hP8⟩
      -- many data kinds
      refine ⟨Mid 5, ?_, ?_⟩
      · refine ⟨_, rfl, rfl, _, rfl, ?_⟩
        refine ite2 (fun _ => ?_) (fun _ => ⟨v, ps, fs, w7, rfl, g1, g2, g3, hP8⟩)
        exact ⟨_, rfl, _, rfl, p, c, 2, rfl, hP8, by decide, by decide, fun o H9 o0 o2 hP9 k9 => .inl ⟨_, _, rfl, rfl, p, c, _, _, _, _, rfl, by omega, by omega, by decide, by decide, by decide, by decide, by decide, by decide, hP9, fun v ps fs HA g1 g2 g3 _ hPA _ => ⟨v, ps, fs, _, rfl, g1, g2, g3.le (by decide), hPA⟩⟩⟩
      rintro σ H9 ⟨v, ps, fs, w7, rfl, g1, g2, g3, hP9⟩
      -- many makers
      refine ⟨Mid 5, ?_, ?_⟩
      · refine ⟨_, rfl, rfl, _, rfl, ?_⟩
        refine ite2 (fun _ => ?_) (fun _ => ⟨v, ps, fs, w7, rfl, g1, g2, g3, hP9⟩)
        exact ⟨_, rfl, _, rfl, p, c, 2, rfl, hP9, by decide, by decide, fun o H9 o0 o2 hP9 k9 => .inl ⟨_, _, rfl, rfl, p, c, _, _, _, _, rfl, by decide, by decide, by omega, by omega, by decide, by decide, by decide, by decide, hP9, fun v ps fs HA g1 g2 g3 _ hPA _ => ⟨v, ps, fs, _, rfl, g1, g2, g3.le (by decide), hPA⟩⟩⟩
      rintro σ HA ⟨v, ps, fs, w7, rfl, g1, g2, g3, hPA⟩
      -- many fields
      refine ⟨Mid 5, ?_, ?_⟩
      · refine ⟨_, rfl, rfl, _, rfl, ?_⟩
        refine ite2 (fun _ => ?_) (fun _ => ⟨v, ps, fs, w7, rfl, g1, g2, g3, hPA⟩)
        exact ⟨_, rfl, p, c, _, _, _, _, rfl, by decide, by decide, by decide, by decide, by decide, by decide, by decide, by decide, hPA, fun v ps fs HA g1 g2 g3 _ hPA _ => ⟨v, ps, fs, _, rfl, g1, g2, g3.le (by decide), hPA⟩⟩
      rintro σ HB ⟨v, ps, fs, w7, rfl, g1, g2, g3, hPB⟩
      -- many defs
      refine ⟨Mid 40, ?_, ?_⟩
      · refine ⟨_, rfl, rfl, _, rfl, ?_⟩
        refine ite2 (fun _ => ?_) (fun _ => ⟨v, ps, fs, w7, rfl, g1, g2, g3.le (by decide), hPB⟩)
        refine ⟨_, rfl, _, rfl, p, c, 2, rfl, hPB, by decide, by decide, fun o HC o0 o2 hPC kC => .inl ⟨_, _, rfl, rfl, p, c, _, _, _, _, rfl, by decide, by decide, by decide, by decide, by decide, by decide, by omega, by omega, hPC, fun v2 ps2 fs2 HD e1 e2 e3 _ hPD kD => ?_⟩⟩
        obtain ⟨t2, ta2, tb2, xs2, ys2, rfl, hT2, _, _, hTb2, hY2⟩ := e1.ex
        have e3 : FsS 17 fs2 := e3.le (by omega)
        refine ⟨t2, _, 1, _, rfl, rfl, hT2, rfl, ?_⟩
        have kBD := kC.trans kD
        obtain ⟨t, ta, tb, xs, ys, rfl, hT, hTa, hX, hTb, hY⟩ := (g1.kp kBD hPB.noTup).ex
        have hly := hY.length
        have hl2 := hY2.length
        rw [List.length_map] at hly hl2
        have f5 := g3.len
        have f17 := e3.len
        refine ⟨_, rfl, t, _, 0, _, rfl, rfl, hT, rfl, ?_⟩
        refine ⟨_, rfl, t, _, 1, _, rfl, rfl, hT, rfl, tb, 4, ys, rfl, rfl, hTb, by decide, by decide, by omega, fun t4 HE sE hT4 => ?_⟩
        have hT4 : SqT K HE t4 (ys ++ (ys ++ (ys ++ (ys ++ [])))) := hT4
        have hY4 : DaAll K All HE (ys ++ (ys ++ (ys ++ (ys ++ [])))) ((fs ++ (fs ++ (fs ++ (fs ++ [])))).map dfD) := by
          have q := hY.same sE
          rw [List.map_append, List.map_append, List.map_append, List.map_append]
          exact q.append (q.append (q.append (q.append .nil)))
        have hf4 : FsS 37 ((fs ++ (fs ++ (fs ++ (fs ++ [])))) ++ fs2) := ⟨by
          simp only [List.length_append, List.length_nil]
          omega, fun q hq => by
          simp only [List.mem_append, List.not_mem_nil, or_false] at hq
          rcases hq with (hq | hq | hq | hq) | hq
          · exact g3.all q hq
          · exact g3.all q hq
          · exact g3.all q hq
          · exact g3.all q hq
          · exact e3.all q hq⟩
        refine ⟨_, rfl, .inr (.inr (.inl (cat_any hT4 (sqT_same sE hTb2) (le_line ?_) fun t5 HF sF hT5 => ?_)))⟩
        · simp only [List.length_append, List.length_nil]
          omega
        have hY5 : DaAll K All HF ((ys ++ (ys ++ (ys ++ (ys ++ [])))) ++ ys2) (((fs ++ (fs ++ (fs ++ (fs ++ [])))) ++ fs2).map dfD) := by
          rw [List.map_append]
          exact (hY4.same sF).append (hY2.same (sE.trans sF))
        generalize (fs ++ (fs ++ (fs ++ (fs ++ [])))) ++ fs2 = gs at *
        generalize (ys ++ (ys ++ (ys ++ (ys ++ [])))) ++ ys2 = zs at *
        refine ⟨le_line (by show 2 ≤ 16000000; decide), fun t6 h6 => ?_⟩
        have sG : Same HF (upd HF t6 (.tup [V.ref ta, V.ref t5])) := same_new h6
        have sDG := (sE.trans sF).trans sG
        have hT6 : SqT K (upd HF t6 (.tup [V.ref ta, V.ref t5])) t6 [V.ref ta, V.ref t5] := SqT.of upd_same
        have hTaG := sqT_same sDG hTa
        have hXG := hX.same sDG
        have hT5G := sqT_same sG hT5
        have hY5G := hY5.same sG
        have hPG := hPD.same sDG
        generalize upd HF t6 (.tup [V.ref ta, V.ref t5]) = HG at *
        refine ⟨_, rfl, t6, _, 0, _, rfl, rfl, hT6, rfl, ?_⟩
        refine ⟨_, rfl, t6, _, 1, _, rfl, rfl, hT6, rfl, 16, rfl, _, rfl, p, c, 2, rfl, hPG, by decide, by decide, fun r HJ r0 r2 hPJ kJ => ?_⟩
        refine ⟨_, _, rfl, rfl, _, rfl, ?_⟩
        dsimp only [tNoPart]
        refine cut_any (sqT_kp kJ hPG.noTup hT5G) fun t7 HK sK hT7 => ?_
        obtain ⟨es, hE, hEs, hEl⟩ := da_cut (hY5G.kp kJ hPG.noTup trivial) (some (-16 - r)) none
        obtain ⟨hs, rfl, hhs⟩ := sub_df hEs
        refine ⟨le_line (by show 2 ≤ 16000000; decide), fun t8 h8 => ?_⟩
        have sL : Same HK (upd HK t8 (.tup [V.ref ta, V.ref t7])) := same_new h8
        have sJL := sK.trans sL
        exact ⟨.ref t8, ps, hs, _, rfl, ⟨t8, ta, t7, xs, _, rfl, SqT.of upd_same, sqT_same sJL (sqT_kp kJ hPG.noTup hTaG), (hXG.kp kJ hPG.noTup trivial).same sJL, sqT_same sL hT7, hE.same sJL⟩, g2, (hf4.sub hhs).le (by decide), hPJ.same sJL⟩
      rintro σ HC ⟨v, ps, fs, w7, rfl, g1, g2, g3, hPC⟩
      -- names that are told twice
      refine ⟨Mid 40, ?_, ?_⟩
      · refine ⟨_, rfl, _, _, rfl, rfl, _, rfl, ?_⟩
        refine ite2 (fun _ => ?_) (fun _ => ⟨v, ps, fs, w7, rfl, g1, g2, g3, hPC⟩)
        exact ⟨_, rfl, _, rfl, p, c, v, ps, fs, 40, rfl, hPC, g1, g2, g3, Nat.le_refl _, fun v ps fs HD g1 g2 g3 hPD _ => ⟨v, ps, fs, _, rfl, g1, g2, g3, hPD⟩⟩
      rintro σ HD ⟨v, ps, fs, w7, rfl, g1, g2, g3, hPD⟩
      have tkp : ∀ {H' : Hp}, Pen H' p c → ∀ b, b = p → Tk H' b := fun h b e => e ▸ h.tk
      let Mid2 : L2.St → Hp → Prop := fun σ H' => ∃ (v : V) (d : PyData) (w7 : Option V), σ = [some (.ref a), some (.ref p), some (.int (0 + (i : Int))), some (.int road), some (.int (1 + w1)), some (.int (1 + w2)), some v, w7, v8] ∧ Da K (fun b => b = p) H' v d ∧ Fit 3700000 80 d ∧ Pen H' p c
      have hpf := prg_fit g2 g3 (Nat.le_refl _)
      -- a spoiled one
      refine ⟨Mid2, ?_, ?_⟩
      · refine ⟨_, rfl, rfl, _, rfl, ?_⟩
        refine ite2 (fun _ => ?_) (fun _ => ⟨v, _, _, rfl, g1.da.less fun _ _ => trivial, hpf.le (by decide) (by decide), hPD⟩)
        exact ⟨_, rfl, _, rfl, p, c, v, _, 8, _, _, rfl, rfl, by decide, hPD, g1.da, hpf, by decide, fun v2 d2 HE hd2 hf2 hPE kE => ⟨v2, d2, _, rfl, hd2.less (tkp hPD), hf2.le (by decide) (by decide), hPE⟩⟩
      rintro σ HE ⟨v, d, w7, rfl, hd, hf, hPE⟩
      -- anything
      refine ⟨Mid2, ?_, ?_⟩
      · refine ⟨_, rfl, rfl, _, rfl, ?_⟩
        refine ite2 (fun _ => ?_) (fun _ => ⟨v, d, _, rfl, hd, hf, hPE⟩)
        exact ⟨_, rfl, p, c, 4, rfl, rfl, by decide, hPE, fun v d HF hd hf hPF kF => ⟨v, d, _, rfl, hd.less (tkp hPE), hf.le (by show 5 * (5 * (5 * (5 * (60 + 2) + 20 + 2) + 20 + 2) + 20 + 2) + 20 ≤ _; decide) (by decide), hPF⟩⟩
      rintro σ HF ⟨v, d, w7, rfl, hd, hf, hPF⟩
      have hf150 : Fit 3700000 150 d := hf.le (Nat.le_refl _) (by decide)
      refine ⟨_, rfl, _, v, d, 3700000, rfl, hd, hf150, le_line (by decide), room_un (k := 41) hr.un, ?_⟩
      refine ⟨_, rfl, _, v, d, _, _, rfl, hd, hf, by decide, fun HG sG => ⟨_, rfl, _, v, d, _, _, rfl, hd.same sG, hf, by decide, fun HJ sJ => ⟨_, _, rfl, _, rfl, ?_⟩⟩⟩
      rw [decide_eq_true (rfl : progOk d = progOk d)]
      refine iteF ?_
      have sm := sG.trans sJ
      refine ⟨_, rfl, _, v, d, 3700000, rfl, hd.same sm, hf150, le_line (by decide), room_un (k := 41) hr.un, _, rfl, rfl, _, rfl, ?_⟩
      exact iteNS rfl ⟨_, _, _, _, _, _, _, rfl, hPF.same sm⟩
    · rintro σ H1 ⟨v2, v3, v4, v5, v6, v7, v8, rfl, hP1⟩
      refine ⟨Nat.zero_le _, fun t1 h1 => ⟨Nat.zero_le _, fun t2 h2 => ⟨le_line (by show 2 ≤ 16000000; decide), fun t3 h3 => ?_⟩⟩⟩
      have q1 : Same H1 (upd H1 t1 (.tup [])) := same_new h1
      have q2 := same_new (o := .tup []) h2
      have q3 := same_new (o := .tup [V.ref t1, V.ref t2]) h3
      have f0 : Fit 4 1 (.tuple []) := Fit.tup (FitAll.nil (n := 0) (m := 0))
      refine ⟨All, .ref t3, .tuple [.tuple [], .tuple []], 16, 2, rfl, .tup (SqT.of upd_same) (.cons (.tup (sqT_same (q2.trans q3) (SqT.of upd_same)) .nil) (.cons (.tup (sqT_same q3 (SqT.of upd_same)) .nil) .nil)), (Fit.tup (.cons f0 (.cons f0 (FitAll.nil (n := 0))))).le (by decide) (by decide), by decide, fun H' s' => ⟨_, _, rfl, rfl, ?_⟩⟩
      rw [prog_none]
      exact k H'
end

end Ow
open PySem PySem.W PyProof.Rows
set_option maxRecDepth 100000 in
set_option maxHeartbeats 0 in
theorem PySem.Challenge.cw_oncewire_k04_programs_known_holds : PySem.Challenge.rw_oncewire_k04_programs_known.Holds := by
  w_on; o_law; k_head; (case hw => w_witness2)
  k_fill
  refine Ow.walkG (l := PySem.Challenge.rw_oncewire_k04_programs_known) (n := 63) (k := 42) (x := Str.ofString "_law_script") (sp := Ow.spLaw) rfl (by decide) rfl ⟨rfl, by decide, by decide⟩ (fun w h Y => PySem.W.kIn_of Y) ?F (fun K H a ns hl _ hS => ⟨a, ns, rfl, hS, hl, fun _ => rfl⟩)
  case F =>
    intro w mg fa h KX G hmg
    have D_is_row : Ow.DefAt (L2.KOf KX) mg (Str.ofString "is_row") Ow.s_is_row [Str.ofString "thing", Str.ofString "least", Str.ofString "most"] := by
      dsimp only [L2.KOf]
      refine' Ow.defAt_mk KX G ?a ?l ?c ?k (fun _ _ _ _ _ _ us hl => match us, hl with | [_, _, _], _ => rfl)
      (case a => k_is); (case l => k_is); (case c => k_is); (case k => k_is)
    have D_are_unlike : Ow.DefAt (L2.KOf KX) mg (Str.ofString "are_unlike") Ow.s_are_unlike [Str.ofString "names"] := by
      dsimp only [L2.KOf]
      refine' Ow.defAt_mk KX G ?a ?l ?c ?k (fun _ _ _ _ _ _ us hl => match us, hl with | [_], _ => rfl)
      (case a => k_is); (case l => k_is); (case c => k_is); (case k => k_is)
    have D_is_name : Ow.DefAt (L2.KOf KX) mg (Str.ofString "is_name") Ow.s_is_name [Str.ofString "thing"] := by
      dsimp only [L2.KOf]
      refine' Ow.defAt_mk KX G ?a ?l ?c ?k (fun _ _ _ _ _ _ us hl => match us, hl with | [_], _ => rfl)
      (case a => k_is); (case l => k_is); (case c => k_is); (case k => k_is)
    have D_is_kind : Ow.DefAt (L2.KOf KX) mg (Str.ofString "is_kind") Ow.s_is_kind [Str.ofString "thing"] := by
      dsimp only [L2.KOf]
      refine' Ow.defAt_mk KX G ?a ?l ?c ?k (fun _ _ _ _ _ _ us hl => match us, hl with | [_], _ => rfl)
      (case a => k_is); (case l => k_is); (case c => k_is); (case k => k_is)
    have D_is_kind_within : Ow.DefAt (L2.KOf KX) mg (Str.ofString "is_kind_within") Ow.s_is_kind_within [Str.ofString "thing", Str.ofString "most"] := by
      dsimp only [L2.KOf]
      refine' Ow.defAt_mk KX G ?a ?l ?c ?k (fun _ _ _ _ _ _ us hl => match us, hl with | [_, _], _ => rfl)
      (case a => k_is); (case l => k_is); (case c => k_is); (case k => k_is)
    have D_is_term : Ow.DefAt (L2.KOf KX) mg (Str.ofString "is_term") Ow.s_is_term [Str.ofString "thing"] := by
      dsimp only [L2.KOf]
      refine' Ow.defAt_mk KX G ?a ?l ?c ?k (fun _ _ _ _ _ _ us hl => match us, hl with | [_], _ => rfl)
      (case a => k_is); (case l => k_is); (case c => k_is); (case k => k_is)
    have D_is_formed : Ow.DefAt (L2.KOf KX) mg (Str.ofString "is_formed") Ow.s_is_formed [Str.ofString "thing"] := by
      dsimp only [L2.KOf]
      refine' Ow.defAt_mk KX G ?a ?l ?c ?k (fun _ _ _ _ _ _ us hl => match us, hl with | [_], _ => rfl)
      (case a => k_is); (case l => k_is); (case c => k_is); (case k => k_is)
    have D_fits_slot : Ow.DefAt (L2.KOf KX) mg (Str.ofString "fits_slot") Ow.s_fits_slot [Str.ofString "slot", Str.ofString "thing"] := by
      dsimp only [L2.KOf]
      refine' Ow.defAt_mk KX G ?a ?l ?c ?k (fun _ _ _ _ _ _ us hl => match us, hl with | [_, _], _ => rfl)
      (case a => k_is); (case l => k_is); (case c => k_is); (case k => k_is)
    have D_is_case : Ow.DefAt (L2.KOf KX) mg (Str.ofString "is_case") Ow.s_is_case [Str.ofString "thing"] := by
      dsimp only [L2.KOf]
      refine' Ow.defAt_mk KX G ?a ?l ?c ?k (fun _ _ _ _ _ _ us hl => match us, hl with | [_], _ => rfl)
      (case a => k_is); (case l => k_is); (case c => k_is); (case k => k_is)
    have D_below : Ow.DefAt (L2.KOf KX) mg (Str.ofString "below") Ow.s_below [Str.ofString "term"] := by
      dsimp only [L2.KOf]
      refine' Ow.defAt_mk KX G ?a ?l ?c ?k (fun _ _ _ _ _ _ us hl => match us, hl with | [_], _ => rfl)
      (case a => k_is); (case l => k_is); (case c => k_is); (case k => k_is)
    have D_is_program : Ow.DefAt (L2.KOf KX) mg (Str.ofString "is_program") Ow.s_is_program [Str.ofString "thing"] := by
      dsimp only [L2.KOf]
      refine' Ow.defAt_mk KX G ?a ?l ?c ?k (fun _ _ _ _ _ _ us hl => match us, hl with | [_], _ => rfl)
      (case a => k_is); (case l => k_is); (case c => k_is); (case k => k_is)
    have D_are_datas : Ow.DefAt (L2.KOf KX) mg (Str.ofString "are_datas") Ow.s_are_datas [Str.ofString "thing"] := by
      dsimp only [L2.KOf]
      refine' Ow.defAt_mk KX G ?a ?l ?c ?k (fun _ _ _ _ _ _ us hl => match us, hl with | [_], _ => rfl)
      (case a => k_is); (case l => k_is); (case c => k_is); (case k => k_is)
    have D_is_data : Ow.DefAt (L2.KOf KX) mg (Str.ofString "is_data") Ow.s_is_data [Str.ofString "thing"] := by
      dsimp only [L2.KOf]
      refine' Ow.defAt_mk KX G ?a ?l ?c ?k (fun _ _ _ _ _ _ us hl => match us, hl with | [_], _ => rfl)
      (case a => k_is); (case l => k_is); (case c => k_is); (case k => k_is)
    have D_is_maker : Ow.DefAt (L2.KOf KX) mg (Str.ofString "is_maker") Ow.s_is_maker [Str.ofString "thing"] := by
      dsimp only [L2.KOf]
      refine' Ow.defAt_mk KX G ?a ?l ?c ?k (fun _ _ _ _ _ _ us hl => match us, hl with | [_], _ => rfl)
      (case a => k_is); (case l => k_is); (case c => k_is); (case k => k_is)
    have D_are_defs : Ow.DefAt (L2.KOf KX) mg (Str.ofString "are_defs") Ow.s_are_defs [Str.ofString "thing"] := by
      dsimp only [L2.KOf]
      refine' Ow.defAt_mk KX G ?a ?l ?c ?k (fun _ _ _ _ _ _ us hl => match us, hl with | [_], _ => rfl)
      (case a => k_is); (case l => k_is); (case c => k_is); (case k => k_is)
    have D_is_def : Ow.DefAt (L2.KOf KX) mg (Str.ofString "is_def") Ow.s_is_def [Str.ofString "thing"] := by
      dsimp only [L2.KOf]
      refine' Ow.defAt_mk KX G ?a ?l ?c ?k (fun _ _ _ _ _ _ us hl => match us, hl with | [_], _ => rfl)
      (case a => k_is); (case l => k_is); (case c => k_is); (case k => k_is)
    have D_law_pen : Ow.DefAt (L2.KOf KX) mg (Str.ofString "_law_pen") Ow.s_law_pen [Str.ofString "_law_script"] := by
      dsimp only [L2.KOf]
      refine' Ow.defAt_mk KX G ?a ?l ?c ?k (fun _ _ _ _ _ _ us hl => match us, hl with | [_], _ => rfl)
      (case a => k_is); (case l => k_is); (case c => k_is); (case k => k_is)
    have D_law_fresh : Ow.DefAt (L2.KOf KX) mg (Str.ofString "_law_fresh") Ow.s_law_fresh [Str.ofString "_law_pen_here"] := by
      dsimp only [L2.KOf]
      refine' Ow.defAt_mk KX G ?a ?l ?c ?k (fun _ _ _ _ _ _ us hl => match us, hl with | [_], _ => rfl)
      (case a => k_is); (case l => k_is); (case c => k_is); (case k => k_is)
    have D_law_draw : Ow.DefAt (L2.KOf KX) mg (Str.ofString "_law_draw") Ow.s_law_draw [Str.ofString "_law_pen_here", Str.ofString "_law_below"] := by
      dsimp only [L2.KOf]
      refine' Ow.defAt_mk KX G ?a ?l ?c ?k (fun _ _ _ _ _ _ us hl => match us, hl with | [_, _], _ => rfl)
      (case a => k_is); (case l => k_is); (case c => k_is); (case k => k_is)
    have D_law_name : Ow.DefAt (L2.KOf KX) mg (Str.ofString "_law_name") Ow.s_law_name [Str.ofString "_law_pen_here", Str.ofString "_law_gone"] := by
      dsimp only [L2.KOf]
      refine' Ow.defAt_mk KX G ?a ?l ?c ?k (fun _ _ _ _ _ _ us hl => match us, hl with | [_, _], _ => rfl)
      (case a => k_is); (case l => k_is); (case c => k_is); (case k => k_is)
    have D_law_any : Ow.DefAt (L2.KOf KX) mg (Str.ofString "_law_any") Ow.s_law_any [Str.ofString "_law_pen_here", Str.ofString "_law_deep"] := by
      dsimp only [L2.KOf]
      refine' Ow.defAt_mk KX G ?a ?l ?c ?k (fun _ _ _ _ _ _ us hl => match us, hl with | [_, _], _ => rfl)
      (case a => k_is); (case l => k_is); (case c => k_is); (case k => k_is)
    have D_law_spoiled : Ow.DefAt (L2.KOf KX) mg (Str.ofString "_law_spoiled") Ow.s_law_spoiled [Str.ofString "_law_pen_here", Str.ofString "_law_thing", Str.ofString "_law_deep"] := by
      dsimp only [L2.KOf]
      refine' Ow.defAt_mk KX G ?a ?l ?c ?k (fun _ _ _ _ _ _ us hl => match us, hl with | [_, _, _], _ => rfl)
      (case a => k_is); (case l => k_is); (case c => k_is); (case k => k_is)
    have D_law_rough_kind : Ow.DefAt (L2.KOf KX) mg (Str.ofString "_law_rough_kind") Ow.s_law_rough_kind [Str.ofString "_law_pen_here", Str.ofString "_law_deep"] := by
      dsimp only [L2.KOf]
      refine' Ow.defAt_mk KX G ?a ?l ?c ?k (fun _ _ _ _ _ _ us hl => match us, hl with | [_, _], _ => rfl)
      (case a => k_is); (case l => k_is); (case c => k_is); (case k => k_is)
    have D_law_few : Ow.DefAt (L2.KOf KX) mg (Str.ofString "_law_few") Ow.s_law_few [Str.ofString "_law_pen_here"] := by
      dsimp only [L2.KOf]
      refine' Ow.defAt_mk KX G ?a ?l ?c ?k (fun _ _ _ _ _ _ us hl => match us, hl with | [_], _ => rfl)
      (case a => k_is); (case l => k_is); (case c => k_is); (case k => k_is)
    have D_law_row : Ow.DefAt (L2.KOf KX) mg (Str.ofString "_law_row") Ow.s_law_row [Str.ofString "_law_pen_here", Str.ofString "_law_often"] := by
      dsimp only [L2.KOf]
      refine' Ow.defAt_mk KX G ?a ?l ?c ?k (fun _ _ _ _ _ _ us hl => match us, hl with | [_, _], _ => rfl)
      (case a => k_is); (case l => k_is); (case c => k_is); (case k => k_is)
    have D_law_rough : Ow.DefAt (L2.KOf KX) mg (Str.ofString "_law_rough") Ow.s_law_rough [Str.ofString "_law_pen_here", Str.ofString "_law_deep"] := by
      dsimp only [L2.KOf]
      refine' Ow.defAt_mk KX G ?a ?l ?c ?k (fun _ _ _ _ _ _ us hl => match us, hl with | [_, _], _ => rfl)
      (case a => k_is); (case l => k_is); (case c => k_is); (case k => k_is)
    have D_law_is_name : Ow.DefAt (L2.KOf KX) mg (Str.ofString "_law_is_name") Ow.s_law_is_name [Str.ofString "_law_thing"] := by
      dsimp only [L2.KOf]
      refine' Ow.defAt_mk KX G ?a ?l ?c ?k (fun _ _ _ _ _ _ us hl => match us, hl with | [_], _ => rfl)
      (case a => k_is); (case l => k_is); (case c => k_is); (case k => k_is)
    have D_law_is_kind : Ow.DefAt (L2.KOf KX) mg (Str.ofString "_law_is_kind") Ow.s_law_is_kind [Str.ofString "_law_thing", Str.ofString "_law_deep"] := by
      dsimp only [L2.KOf]
      refine' Ow.defAt_mk KX G ?a ?l ?c ?k (fun _ _ _ _ _ _ us hl => match us, hl with | [_, _], _ => rfl)
      (case a => k_is); (case l => k_is); (case c => k_is); (case k => k_is)
    have D_law_are_unlike : Ow.DefAt (L2.KOf KX) mg (Str.ofString "_law_are_unlike") Ow.s_law_are_unlike [Str.ofString "_law_thing", Str.ofString "_law_often"] := by
      dsimp only [L2.KOf]
      refine' Ow.defAt_mk KX G ?a ?l ?c ?k (fun _ _ _ _ _ _ us hl => match us, hl with | [_, _], _ => rfl)
      (case a => k_is); (case l => k_is); (case c => k_is); (case k => k_is)
    have D_law_sizes : Ow.DefAt (L2.KOf KX) mg (Str.ofString "_law_sizes") Ow.s_law_sizes [Str.ofString "_law_some"] := by
      dsimp only [L2.KOf]
      refine' Ow.defAt_mk KX G ?a ?l ?c ?k (fun _ _ _ _ _ _ us hl => match us, hl with | [_], _ => rfl)
      (case a => k_is); (case l => k_is); (case c => k_is); (case k => k_is)
    have D_law_sized : Ow.DefAt (L2.KOf KX) mg (Str.ofString "_law_sized") Ow.s_law_sized [Str.ofString "_law_thing", Str.ofString "_law_deep"] := by
      dsimp only [L2.KOf]
      refine' Ow.defAt_mk KX G ?a ?l ?c ?k (fun _ _ _ _ _ _ us hl => match us, hl with | [_, _], _ => rfl)
      (case a => k_is); (case l => k_is); (case c => k_is); (case k => k_is)
    have D_law_is_term : Ow.DefAt (L2.KOf KX) mg (Str.ofString "_law_is_term") Ow.s_law_is_term [Str.ofString "_law_thing"] := by
      dsimp only [L2.KOf]
      refine' Ow.defAt_mk KX G ?a ?l ?c ?k (fun _ _ _ _ _ _ us hl => match us, hl with | [_], _ => rfl)
      (case a => k_is); (case l => k_is); (case c => k_is); (case k => k_is)
    have D_law_rough_program : Ow.DefAt (L2.KOf KX) mg (Str.ofString "_law_rough_program") Ow.s_law_rough_program [Str.ofString "_law_pen_here", Str.ofString "_law_datas", Str.ofString "_law_makers", Str.ofString "_law_fields", Str.ofString "_law_defs"] := by
      dsimp only [L2.KOf]
      refine' Ow.defAt_mk KX G ?a ?l ?c ?k (fun _ _ _ _ _ _ us hl => match us, hl with | [_, _, _, _, _], _ => rfl)
      (case a => k_is); (case l => k_is); (case c => k_is); (case k => k_is)
    have D_law_chain : Ow.DefAt (L2.KOf KX) mg (Str.ofString "_law_chain") Ow.s_law_chain [Str.ofString "_law_pen_here", Str.ofString "_law_often"] := by
      dsimp only [L2.KOf]
      refine' Ow.defAt_mk KX G ?a ?l ?c ?k (fun _ _ _ _ _ _ us hl => match us, hl with | [_, _], _ => rfl)
      (case a => k_is); (case l => k_is); (case c => k_is); (case k => k_is)
    have D_law_beyond : Ow.DefAt (L2.KOf KX) mg (Str.ofString "_law_beyond") Ow.s_law_beyond [Str.ofString "_law_pen_here"] := by
      dsimp only [L2.KOf]
      refine' Ow.defAt_mk KX G ?a ?l ?c ?k (fun _ _ _ _ _ _ us hl => match us, hl with | [_], _ => rfl)
      (case a => k_is); (case l => k_is); (case c => k_is); (case k => k_is)
    have D_law_is_data : Ow.DefAt (L2.KOf KX) mg (Str.ofString "_law_is_data") Ow.s_law_is_data [Str.ofString "_law_thing"] := by
      dsimp only [L2.KOf]
      refine' Ow.defAt_mk KX G ?a ?l ?c ?k (fun _ _ _ _ _ _ us hl => match us, hl with | [_], _ => rfl)
      (case a => k_is); (case l => k_is); (case c => k_is); (case k => k_is)
    have D_law_is_program : Ow.DefAt (L2.KOf KX) mg (Str.ofString "_law_is_program") Ow.s_law_is_program [Str.ofString "_law_thing"] := by
      dsimp only [L2.KOf]
      refine' Ow.defAt_mk KX G ?a ?l ?c ?k (fun _ _ _ _ _ _ us hl => match us, hl with | [_], _ => rfl)
      (case a => k_is); (case l => k_is); (case c => k_is); (case k => k_is)
    have D_law_changed : Ow.DefAt (L2.KOf KX) mg (Str.ofString "_law_changed") Ow.s_law_changed [Str.ofString "_law_pen_here", Str.ofString "_law_thing"] := by
      dsimp only [L2.KOf]
      refine' Ow.defAt_mk KX G ?a ?l ?c ?k (fun _ _ _ _ _ _ us hl => match us, hl with | [_, _], _ => rfl)
      (case a => k_is); (case l => k_is); (case c => k_is); (case k => k_is)
    have D_law_truth : Ow.DefAt (L2.KOf KX) mg (Str.ofString "_law_truth") Ow.s_law_truth [Str.ofString "_law_found", Str.ofString "_law_due"] := by
      dsimp only [L2.KOf]
      refine' Ow.defAt_mk KX G ?a ?l ?c ?k (fun _ _ _ _ _ _ us hl => match us, hl with | [_, _], _ => rfl)
      (case a => k_is); (case l => k_is); (case c => k_is); (case k => k_is)
    have T : Ow.Bl mg := by
      refine' ⟨PySem.W.mg_none_of KX G ?z0, PySem.W.mg_none_of KX G ?z1, PySem.W.mg_none_of KX G ?z2, PySem.W.mg_none_of KX G ?z3, PySem.W.mg_none_of KX G ?z4, PySem.W.mg_none_of KX G ?z5, PySem.W.mg_none_of KX G ?z6, PySem.W.mg_none_of KX G ?z7, PySem.W.mg_none_of KX G ?z8, PySem.W.mg_none_of KX G ?z9, PySem.W.mg_none_of KX G ?z10, PySem.W.mg_none_of KX G ?z11, PySem.W.mg_none_of KX G ?z12, PySem.W.mg_none_of KX G ?z13, PySem.W.mg_none_of KX G ?z14, PySem.W.mg_none_of KX G ?z15, PySem.W.mg_none_of KX G ?z16, PySem.W.mg_none_of KX G ?z17, PySem.W.mg_none_of KX G ?z18⟩
      (case z0 => k_is); (case z1 => k_is); (case z2 => k_is); (case z3 => k_is); (case z4 => k_is); (case z5 => k_is); (case z6 => k_is); (case z7 => k_is); (case z8 => k_is); (case z9 => k_is); (case z10 => k_is); (case z11 => k_is); (case z12 => k_is); (case z13 => k_is); (case z14 => k_is); (case z15 => k_is); (case z16 => k_is); (case z17 => k_is); (case z18 => k_is)
    have G_LETTERS : Ow.GV mg (Str.ofString "LETTERS") (.str Ow.abc) := by
      refine' Ow.gv_mk KX G ?a ?r
      (case a => k_is); (case r => exact ⟨_, rfl⟩)
    have G_MOST_LETTERS : Ow.GV mg (Str.ofString "MOST_LETTERS") (.int 8) := by
      refine' Ow.gv_mk KX G ?a ?r
      (case a => k_is); (case r => exact ⟨_, rfl⟩)
    have G_MOST_KINDS_WITHIN : Ow.GV mg (Str.ofString "MOST_KINDS_WITHIN") (.int 6) := by
      refine' Ow.gv_mk KX G ?a ?r
      (case a => k_is); (case r => exact ⟨_, rfl⟩)
    have G_MOST_TERMS_WITHIN : Ow.GV mg (Str.ofString "MOST_TERMS_WITHIN") (.int 30) := by
      refine' Ow.gv_mk KX G ?a ?r
      (case a => k_is); (case r => exact ⟨_, rfl⟩)
    have G_MOST_PARTS : Ow.GV mg (Str.ofString "MOST_PARTS") (.int 200) := by
      refine' Ow.gv_mk KX G ?a ?r
      (case a => k_is); (case r => exact ⟨_, rfl⟩)
    have G_MOST_FIELDS : Ow.GV mg (Str.ofString "MOST_FIELDS") (.int 4) := by
      refine' Ow.gv_mk KX G ?a ?r
      (case a => k_is); (case r => exact ⟨_, rfl⟩)
    have G_MOST_CASES : Ow.GV mg (Str.ofString "MOST_CASES") (.int 6) := by
      refine' Ow.gv_mk KX G ?a ?r
      (case a => k_is); (case r => exact ⟨_, rfl⟩)
    have G_MOST_DATAS : Ow.GV mg (Str.ofString "MOST_DATAS") (.int 6) := by
      refine' Ow.gv_mk KX G ?a ?r
      (case a => k_is); (case r => exact ⟨_, rfl⟩)
    have G_MOST_MAKERS : Ow.GV mg (Str.ofString "MOST_MAKERS") (.int 6) := by
      refine' Ow.gv_mk KX G ?a ?r
      (case a => k_is); (case r => exact ⟨_, rfl⟩)
    have G_MOST_DEFS : Ow.GV mg (Str.ofString "MOST_DEFS") (.int 16) := by
      refine' Ow.gv_mk KX G ?a ?r
      (case a => k_is); (case r => exact ⟨_, rfl⟩)
    obtain ⟨dF, G_FORMS, FT⟩ : ∃ dF, Ow.GV mg (Str.ofString "FORMS") (.ref dF) ∧ Ow.Forms (L2.KOf KX) w dF := by
      refine' ⟨_, Ow.gv_mk KX G ?a ?r, ?f⟩
      (case a => k_is)
      (case r => exact rfl)
      dsimp only [L2.KOf]
      refine' Ow.forms_mk ?l ?lit (by decide +kernel) ?e
      (case l => k_is)
      (case lit => exact ⟨⟨_, _, rfl, rfl⟩, ⟨⟨_, _, rfl, rfl⟩, ⟨⟨_, _, rfl, rfl⟩, ⟨⟨_, _, rfl, rfl⟩, ⟨⟨_, _, rfl, rfl⟩, ⟨⟨_, _, rfl, rfl⟩, ⟨⟨_, _, rfl, rfl⟩, ⟨⟨_, _, rfl, rfl⟩, ⟨⟨_, _, rfl, rfl⟩, trivial⟩⟩⟩⟩⟩⟩⟩⟩⟩)
      refine' ⟨⟨_, rfl⟩, Ow.ent_mk rfl ?a0 ?s0 ?v0, ⟨⟨_, rfl⟩, Ow.ent_mk rfl ?a1 ?s1 ?v1, ⟨⟨_, rfl⟩, Ow.ent_mk rfl ?a2 ?s2 ?v2, ⟨⟨_, rfl⟩, Ow.ent_mk rfl ?a3 ?s3 ?v3, ⟨⟨_, rfl⟩, Ow.ent_mk rfl ?a4 ?s4 ?v4, ⟨⟨_, rfl⟩, Ow.ent_mk rfl ?a5 ?s5 ?v5, ⟨⟨_, rfl⟩, Ow.ent_mk rfl ?a6 ?s6 ?v6, ⟨⟨_, rfl⟩, Ow.ent_mk rfl ?a7 ?s7 ?v7, ⟨⟨_, rfl⟩, Ow.ent_mk rfl ?a8 ?s8 ?v8, trivial⟩⟩⟩⟩⟩⟩⟩⟩⟩
      (case a0 => k_is); (case s0 => decide +kernel)
      (case a1 => k_is); (case s1 => decide +kernel)
      (case a2 => k_is); (case s2 => decide +kernel)
      (case a3 => k_is); (case s3 => decide +kernel)
      (case a4 => k_is); (case s4 => decide +kernel)
      (case a5 => k_is); (case s5 => decide +kernel)
      (case a6 => k_is); (case s6 => decide +kernel)
      (case a7 => k_is); (case s7 => decide +kernel)
      (case a8 => k_is); (case s8 => decide +kernel)
      (case v0 => exact (.cons ⟨_, rfl⟩ .nil))
      (case v1 => exact (.cons ⟨_, rfl⟩ (.cons ⟨_, rfl⟩ (.cons ⟨_, rfl⟩ .nil))))
      (case v2 => exact (.cons ⟨_, rfl⟩ (.cons ⟨_, rfl⟩ .nil)))
      (case v3 => exact (.cons ⟨_, rfl⟩ (.cons ⟨_, rfl⟩ .nil)))
      (case v4 => exact (.cons ⟨_, rfl⟩ (.cons ⟨_, rfl⟩ (.cons ⟨_, rfl⟩ (.cons ⟨_, rfl⟩ .nil)))))
      (case v5 => exact (.cons ⟨_, rfl⟩ (.cons ⟨_, rfl⟩ .nil)))
      (case v6 => exact (.cons ⟨_, rfl⟩ (.cons ⟨_, rfl⟩ .nil)))
      (case v7 => exact (.cons ⟨_, rfl⟩ (.cons ⟨_, rfl⟩ (.cons ⟨_, rfl⟩ (.cons ⟨_, rfl⟩ .nil)))))
      (case v8 => exact (.cons ⟨_, rfl⟩ (.cons ⟨_, rfl⟩ .nil)))
    obtain ⟨fd, FL, hb⟩ : ∃ fd, L2.Fun (L2.KOf KX) (Str.ofString "law") (Str.ofString "law") Ow.s_law fa fd ∧ ∀ (s : Shared) (u : Value), BindsTo s fd ⟨[u], []⟩ [(Str.ofString "_law_script", u)] := by
      dsimp only [L2.KOf]
      refine' Ow.lawAt_mk KX G hmg ?a ?l ?c ?k ?hb
      (case a => k_is); (case l => k_is); (case c => k_is); (case k => k_is); (case hb => exact fun s u => .of_eq rfl)
    refine ⟨fd, hb, fun base _ _ => ?_⟩
    have c_pen := Ow.ok_pen (P := PySem.Challenge.rw_oncewire_k04_programs_known.prog) (w := w) (base := base) D_law_pen T
    have c_fresh := Ow.ok_fresh (P := PySem.Challenge.rw_oncewire_k04_programs_known.prog) (w := w) (base := base) D_law_fresh T
    have c_draw := Ow.ok_draw D_law_draw T c_fresh
    have c_name := Ow.ok_name D_law_name T c_draw
    have c_kind := Ow.ok_rough_kind D_law_rough_kind T c_draw c_name 2
    have c_few := Ow.ok_few D_law_few T c_draw c_name
    have c_row := Ow.ok_law_row D_law_row T c_few c_name
    have c_rough := Ow.ok_rough D_law_rough T c_draw c_few c_row c_kind 3
    have c_any := Ow.ok_any D_law_any T c_draw
    have c_spoil := Ow.ok_spoiled D_law_spoiled T c_draw (c_any 2) ((c_any 1).mono (by decide)) 8
    have c_isrow := Ow.ok_is_row (P := PySem.Challenge.rw_oncewire_k04_programs_known.prog) (w := w) (base := base) D_is_row T
    have c_isname := Ow.ok_is_name (P := PySem.Challenge.rw_oncewire_k04_programs_known.prog) (w := w) (base := base) D_is_name T G_LETTERS G_MOST_LETTERS
    have c_lisname := Ow.ok_law_is_name (P := PySem.Challenge.rw_oncewire_k04_programs_known.prog) (w := w) (base := base) D_law_is_name T
    have c_within := Ow.ok_is_kind_within D_is_kind_within T c_isrow c_isname 6
    have c_iskind := Ow.ok_is_kind D_is_kind T G_MOST_KINDS_WITHIN c_within
    have c_lkind := Ow.ok_law_is_kind D_law_is_kind T c_lisname 6
    have c_truth := Ow.ok_truth (P := PySem.Challenge.rw_oncewire_k04_programs_known.prog) (w := w) (base := base) D_law_truth T
    have c_unl := Ow.ok_unlike (P := PySem.Challenge.rw_oncewire_k04_programs_known.prog) (w := w) (base := base) D_are_unlike T
    have c_case := Ow.ok_case D_is_case T G_MOST_FIELDS c_isrow c_isname c_unl
    have c_slot := Ow.ok_slot D_fits_slot T G_MOST_FIELDS G_MOST_CASES c_isrow c_isname c_iskind c_case
    have c_formed := Ow.ok_formed D_is_formed T G_FORMS FT c_isname c_slot
    have c_below := Ow.ok_below (P := PySem.Challenge.rw_oncewire_k04_programs_known.prog) (w := w) (base := base) D_below T
    have c_isterm := Ow.ok_is_term D_is_term T G_MOST_PARTS G_MOST_TERMS_WITHIN c_formed c_below
    have c_lunl := Ow.ok_lunlike D_law_are_unlike T c_lisname
    have c_sizes := Ow.ok_sizes (P := PySem.Challenge.rw_oncewire_k04_programs_known.prog) (w := w) (base := base) D_law_sizes T
    have c_sized := Ow.ok_sized D_law_sized T c_lisname c_lkind c_lunl c_sizes 30
    have c_listerm := Ow.ok_lis_term D_law_is_term T c_sized
    have c_maker := Ow.ok_maker D_is_maker T G_MOST_FIELDS c_isrow c_isname
    have c_data := Ow.ok_data D_is_data T G_MOST_MAKERS c_isrow c_isname c_maker
    have c_def := Ow.ok_def D_is_def T c_isrow c_isname c_iskind c_isterm
    have c_defs := Ow.ok_defs D_are_defs T G_MOST_DEFS c_isrow c_def c_unl
    have c_datas := Ow.ok_datas D_are_datas T G_MOST_DATAS c_isrow c_data c_unl
    have c_prog := Ow.ok_program D_is_program T c_isrow c_datas c_defs
    have c_rprog := Ow.ok_rprog D_law_rough_program T c_draw c_name c_kind c_rough
    have c_chain := Ow.ok_chain D_law_chain T c_draw
    have c_beyond := Ow.ok_beyond D_law_beyond T c_draw
    have c_ldata := Ow.ok_lisdata D_law_is_data T c_lisname
    have c_lprog := Ow.ok_lisprog D_law_is_program T c_lisname c_lkind c_listerm c_ldata
    have c_changed := Ow.ok_changed D_law_changed T c_draw c_few
    exact Ow.ok_law FL T c_pen c_draw c_rprog (c_any 4) c_beyond c_chain c_changed c_spoil c_prog c_lprog c_truth
#print axioms PySem.Challenge.cw_oncewire_k04_programs_known_holds
