import PyProof.Rows.All
import Wide.All
import OpenK.AllK
import Wide.FinOn
import HandS.ForMost
import HandS.IsInst
import HandS.TupAny
import HandS.Flow
import HandS.Style
import HandS.Zip
import HandS.Evl
import PyProof.ReprRoads
import PyProof.FactsAll.dict
import PyProof.EqKinds
import PyProof.P3In
import HandS.Strs
import HandS.More
import PyProof.SumAny
import HandS.TupMul
import HandS.CallLocal
import HandS.Star
import HandS.ReplaceLit
import PyProof.Rows.StrStrike
import PyProof.Rows.StrSplitJoin
import PySem.Challenge.RW_oncewire_k09_programs_written_and_read
set_option Elab.async false
set_option linter.all false
set_option maxRecDepth 100000
set_option maxHeartbeats 4000000
/-! What all our laws over drawn data share: defs and their calls, frames of the heap, the pen that draws, data of any shape. -/
namespace Ow
open PySem PySem.Spec PyProof.Rows L2

/-! ### a def and its calls -/
structure CallOk (P : Program) (w : World) (K : PySem.W.Frag) (mg : Str → Option Value) (base : Heap) (k : Nat) (x : Str) (ps : List Str) (sp : Sp) : Prop where
  ex : ∃ (f : Addr) (fd : FuncData), FnOk P w K mg base CX0 k f fd ps sp ∧ mg x = some (.ref f) ∧ PySem.W.keepIn K (.ref f) = true ∧ Binds K fd ps []
structure DefAt (K : PySem.W.Frag) (mg : Str → Option Value) (x : Str) (st : Stmt) (ps : List Str) : Prop where
  ex : ∃ (f : Addr) (fd : FuncData), Fun K x x st f fd ∧ mg x = some (.ref f) ∧ Binds K fd ps []
section
variable {X : Cx} {k j : Nat} {x : Str} {ps : List Str} {sp : Sp} {p pos : Pos} {e : Expr} {es : List Expr} {t : TA}
theorem pe_callOk (C : CallOk X.prog X.w X.K X.mg X.base k x ps sp) (hr : Room j X.A) (hj : k ≤ j) (hg : Gl X x) (ha : PA X (e :: es) t)
    (hdb : (x == ("__debug__" : Str)) = false := by decide) (he : starEach (e :: es) X.env = (false, eval e X.env) :: starEach es X.env := by rfl)
    (hpl : (backTo pos (starEach es X.env)).any (·.1) = false := by rfl) : PE X (.Call (.Name x p) (e :: es) [] pos) (tCall sp [] E0 t) := by
  obtain ⟨f, fd, F, hm, hk, hb⟩ := C.ex
  exact pe_call F (hr.mono hj) hg hm hk hb .nil pass0 ha hdb he hpl
end
section
variable {P : Program} {w : World} {K : PySem.W.Frag} {mg : Str → Option Value} {base : Heap} {x : Str} {st : Stmt} {N ps : List Str} {k j : Nat} {sp sp' : Sp}
theorem DefAt.ok (D : DefAt K mg x st ps) (S : FnScope N ps (defScope st)) (len : ∀ vs H Q E, sp vs H Q E → vs.length = ps.length)
    (hbody : ∀ (f : Addr) (cdv : Value) (A : Around) (outer : List Env) (s : Shared) (H : Hp) (vs : List V) (Q : VK) (E : XK), Room k (A.deeper (envOfC x (defScope st) s.heap.objs.size f cdv)) → sp vs H Q E →
      ∃ t, PSs (cxOf CX0 P w K mg base N x (defScope st) f cdv A outer s H E).nox (defBody st) t ∧ t { nx := fun _ H' => Q .non H', rt := Q } (start N vs) H) : CallOk P w K mg base (k + 1) x ps sp := by
  obtain ⟨f, fd, F, hm, hb⟩ := D.ex
  exact ⟨f, fd, F.ok S len fun cdv A outer s H vs Q E hr h => hbody f cdv A outer s H vs Q E hr h, hm, F.kp, hb⟩
/-- nothing is promised -/
theorem DefAt.none (D : DefAt K mg x st ps) (S : FnScope N ps (defScope st)) : CallOk P w K mg base 1 x ps (fun _ _ _ _ => False) :=
  D.ok S (fun _ _ _ _ h => h.elim) fun _ _ _ _ _ _ _ _ _ _ h => h.elim
theorem CallOk.mono (C : CallOk P w K mg base j x ps sp) (h : j ≤ k) : CallOk P w K mg base k x ps sp := by
  obtain ⟨f, fd, F, r⟩ := C.ex
  exact ⟨f, fd, F.mono h, r⟩
theorem CallOk.imp (C : CallOk P w K mg base k x ps sp) (h : ∀ vs H Q E, sp' vs H Q E → sp vs H Q E) : CallOk P w K mg base k x ps sp' := by
  obtain ⟨f, fd, F, r⟩ := C.ex
  exact ⟨f, fd, F.imp h, r⟩
end

/-! ### frames: all but the object at p is as it was -/
def Kp (p : Addr) (H H' : Hp) : Prop := ∀ b o, H b = some o → b ≠ p → H' b = some o
section
variable {p q : Addr} {H H1 H2 : Hp} {o : HO}
theorem Kp.refl : Kp p H H := fun _ _ h _ => h
theorem Kp.trans (a : Kp p H H1) (b : Kp p H1 H2) : Kp p H H2 := fun c o h n => b c o (a c o h n) n
theorem Kp.of (s : Same H H1) : Kp p H H1 := fun c o h _ => s c o h
theorem Kp.new (h : H q = none) : Kp p H (upd H q o) := fun c u e _ => by
  rw [upd_ne (ne_of_none e h)]
  exact e
theorem Kp.self : Kp p H (upd H p o) := fun c u e n => by
  rw [upd_ne n]
  exact e
/-- an object that came later is changed -/
theorem Kp.mut (a : Kp p H H1) (h : H q = none) : Kp p H (upd H1 q o) := fun c u e n => by
  rw [upd_ne (ne_of_none e h)]
  exact a c u e n
theorem Kp.put (a : Kp p H H1) : Kp p H (upd H1 p o) := fun c u e n => by
  rw [upd_ne n]
  exact a c u e n
theorem Kp.lay (a : Kp p H H1) (h : H1 q = none) : Kp p H (upd H1 q o) := a.trans (Kp.new h)
theorem Kp.none (a : Kp p H H1) (h : H1 q = none) (n : q ≠ p) : H q = none := by
  cases e : H q with
  | none => rfl
  | some u =>
    rw [a q u e n] at h
    cases h
theorem same_new (h : H q = none) : Same H (upd H q o) := fun c u e => by
  rw [upd_ne (ne_of_none e h)]
  exact e
theorem Same.lay (a : Same H H1) (h : H1 q = none) : Same H (upd H1 q o) := a.trans (same_new h)
theorem Same.mut (a : Same H H1) (h : H q = none) : Same H (upd H1 q o) := fun c u e => by
  rw [upd_ne (ne_of_none e h)]
  exact a c u e
end

/-! ### sums of any kind -/
abbrev rAddAny (K : PySem.W.Frag) : R2 := fun x y H Q => rI0 (fun i j => .int (i + j)) x y H Q ∨ ((∃ i j, x = .str i ∧ y = .str j ∧ i.length + j.length ≤ sizeLine ∧ Q (.str (i ++ j)) H) ∨ (rCatA K x y H Q ∨ rCat x y H Q))
theorem opAdd {X : Cx} : OpR X (binaryOp .Add) (rAddAny X.K) := op_add.or (op_add_str.or (op_catA.or op_cat))

/-! ### the pen -/
def Pen (H : Hp) (p c : Addr) : Prop := (∃ z r, H p = some (.lst [.ref c, .int z, .int r])) ∧ ∃ cs : List Int, H c = some (.lst (cs.map V.int)) ∧ cs.length ≤ 63
section
variable {H H' : Hp} {p c q : Addr} {o : HO}
theorem Pen.ne (h : Pen H p c) : c ≠ p := by
  obtain ⟨⟨z, r, h1⟩, cs, h2, _⟩ := h
  rintro rfl
  rw [h1] at h2
  cases cs with
  | nil => cases h2
  | cons a t =>
    have e : [V.ref c, .int z, .int r] = (a :: t).map V.int := by
      injection h2 with h2
      injection h2
    rw [List.map_cons] at e
    injection e with e _
    cases e
theorem Pen.keep (h : Pen H p c) (n1 : q ≠ p) (n2 : q ≠ c) : Pen (upd H q o) p c := by
  obtain ⟨⟨z, r, h1⟩, cs, h2, hl⟩ := h
  exact ⟨⟨z, r, by rw [upd_ne n1.symm]; exact h1⟩, cs, by rw [upd_ne n2.symm]; exact h2, hl⟩
theorem Pen.neP (h : Pen H p c) (hq : H q = none) : q ≠ p := by
  obtain ⟨⟨z, r, h1⟩, _⟩ := h
  exact (ne_of_none h1 hq).symm
theorem Pen.neC (h : Pen H p c) (hq : H q = none) : q ≠ c := by
  obtain ⟨_, cs, h2, _⟩ := h
  exact (ne_of_none h2 hq).symm
theorem Pen.new (h : Pen H p c) (hq : H q = none) : Pen (upd H q o) p c := h.keep (h.neP hq) (h.neC hq)
theorem Pen.put {z r : Int} (h : Pen H p c) : Pen (upd H p (.lst [.ref c, .int z, .int r])) p c := by
  have n := h.ne
  obtain ⟨_, cs, h2, hl⟩ := h
  exact ⟨⟨z, r, upd_same⟩, cs, by rw [upd_ne n]; exact h2, hl⟩
theorem Pen.same (h : Pen H p c) (s : Same H H') : Pen H' p c := by
  obtain ⟨⟨z, r, h1⟩, cs, h2, hl⟩ := h
  exact ⟨⟨z, r, s _ _ h1⟩, cs, s _ _ h2, hl⟩
end

/-! ### data: None, truths, numbers, texts, tuples, lists and dicts (none of some) -/
def kD : Key → PyData
  | .inl i => .int i
  | .inr x => .str x
mutual
inductive Da (K : PySem.W.Frag) (N : Addr → Prop) (H : Hp) : V → PyData → Prop
  | non : Da K N H .non .none
  | bl (b : Bool) : Da K N H (.bl b) (.bool b)
  | int (i : Int) : Da K N H (.int i) (.int i)
  | str (x : Str) : Da K N H (.str x) (.str x)
  | lst {a : Addr} {xs : List V} {ds : List PyData} : H a = some (.lst xs) → ¬ N a → DaAll K N H xs ds → Da K N H (.ref a) (.list ds)
  | tup {a : Addr} {xs : List V} {ds : List PyData} : SqT K H a xs → DaAll K N H xs ds → Da K N H (.ref a) (.tuple ds)
  | dct {a : Addr} {kvs : List (Key × V)} {ds : List PyData} : H a = some (.dK kvs) → ¬ N a → DaAll K N H (kvs.map (·.2)) ds → Da K N H (.ref a) (.dict ((kvs.map fun kv => kD kv.1).zip ds))
inductive DaAll (K : PySem.W.Frag) (N : Addr → Prop) (H : Hp) : List V → List PyData → Prop
  | nil : DaAll K N H [] []
  | cons {v : V} {vs : List V} {d : PyData} {ds : List PyData} : Da K N H v d → DaAll K N H vs ds → DaAll K N H (v :: vs) (d :: ds)
end
/-- what is tracked -/
def Tk (H : Hp) : Addr → Prop := fun a => H a ≠ none
theorem Tk.of {H : Hp} {a : Addr} {o : HO} (h : H a = some o) : Tk H a := fun e => by
  rw [h] at e
  cases e
theorem Tk.kp {H H' : Hp} {p : Addr} (k : Kp p H H') (hp : Tk H' p) : ∀ a, Tk H a → Tk H' a := fun a h => by
  by_cases e : a = p
  · rw [e]
    exact hp
  · cases q : H a with
    | none => exact absurd q h
    | some o => exact Tk.of (k a o q e)
theorem Pen.tk {H : Hp} {p c : Addr} (h : Pen H p c) : Tk H p := by
  obtain ⟨⟨z, r, e⟩, _⟩ := h
  exact Tk.of e
/-- nothing that reads as a tuple stands at p -/
def NoTup (H : Hp) (p : Addr) : Prop := ∀ xs, ¬ Rd H p (.tup xs)
theorem Pen.noTup {H : Hp} {p c : Addr} (h : Pen H p c) : NoTup H p := fun xs r => by
  obtain ⟨⟨z, u, h1⟩, _⟩ := h
  rcases r with r | ⟨o, r⟩
  · rw [h1] at r
    cases r
  · rw [h1] at r
    cases r
section
variable {K : PySem.W.Frag} {N N' : Addr → Prop} {p : Addr} {H H' : Hp}
theorem sqT_kp {a : Addr} {xs : List V} (k : Kp p H H') (n : NoTup H p) (h : SqT K H a xs) : SqT K H' a xs := by
  rcases h with h | h
  · by_cases e : a = p
    · subst e
      exact (n xs h).elim
    · rcases h with h | ⟨o, h⟩
      · exact .inl (.inl (k _ _ h e))
      · exact .inl (.inr ⟨o, k _ _ h e⟩)
  · exact .inr h
theorem sqL_kp {a : Addr} {xs : List V} (k : Kp p H H') (n : a ≠ p) (h : SqL K H a xs) : SqL K H' a xs := by
  rcases h with h | h
  · rcases h with h | ⟨o, h⟩
    · exact .inl (.inl (k _ _ h n))
    · exact .inl (.inr ⟨o, k _ _ h n⟩)
  · exact .inr h
mutual
theorem Da.kp (k : Kp p H H') (n : NoTup H p) (q : N p) : ∀ {v : V} {d : PyData}, Da K N H v d → Da K N H' v d
  | _, _, .non => .non
  | _, _, .bl b => .bl b
  | _, _, .int i => .int i
  | _, _, .str x => .str x
  | _, _, .lst h ne r => .lst (k _ _ h fun e => ne (e ▸ q)) ne (DaAll.kp k n q r)
  | _, _, .tup h r => .tup (sqT_kp k n h) (DaAll.kp k n q r)
  | _, _, .dct h ne r => .dct (k _ _ h fun e => ne (e ▸ q)) ne (DaAll.kp k n q r)
theorem DaAll.kp (k : Kp p H H') (n : NoTup H p) (q : N p) : ∀ {vs : List V} {ds : List PyData}, DaAll K N H vs ds → DaAll K N H' vs ds
  | _, _, .nil => .nil
  | _, _, .cons a r => .cons (Da.kp k n q a) (DaAll.kp k n q r)
end
mutual
theorem Da.less (k : ∀ a, N' a → N a) : ∀ {v : V} {d : PyData}, Da K N H v d → Da K N' H v d
  | _, _, .non => .non
  | _, _, .bl b => .bl b
  | _, _, .int i => .int i
  | _, _, .str x => .str x
  | _, _, .lst h ne r => .lst h (fun z => ne (k _ z)) (DaAll.less k r)
  | _, _, .tup h r => .tup h (DaAll.less k r)
  | _, _, .dct h ne r => .dct h (fun z => ne (k _ z)) (DaAll.less k r)
theorem DaAll.less (k : ∀ a, N' a → N a) : ∀ {vs : List V} {ds : List PyData}, DaAll K N H vs ds → DaAll K N' H vs ds
  | _, _, .nil => .nil
  | _, _, .cons a r => .cons (Da.less k a) (DaAll.less k r)
end
theorem DaAll.length : ∀ {vs : List V} {ds : List PyData}, DaAll K N H vs ds → vs.length = ds.length
  | _, _, .nil => rfl
  | _, _, .cons _ r => by rw [List.length_cons, List.length_cons, DaAll.length r]
theorem DaAll.get : ∀ {vs : List V} {ds : List PyData}, DaAll K N H vs ds → ∀ {i : Nat} {v : V}, vs[i]? = some v → ∃ d, ds[i]? = some d ∧ Da K N H v d
  | _, _, .nil, _, _, e => by simp at e
  | _, _, .cons a r, 0, _, e => by
    simp only [List.getElem?_cons_zero, Option.some.injEq] at e
    subst e
    exact ⟨_, rfl, a⟩
  | _, _, .cons a r, i + 1, _, e => by
    simp only [List.getElem?_cons_succ] at e
    obtain ⟨d, h1, h2⟩ := DaAll.get r e
    exact ⟨d, by simpa using h1, h2⟩
theorem DaAll.append : ∀ {vs us : List V} {ds es : List PyData}, DaAll K N H vs ds → DaAll K N H us es → DaAll K N H (vs ++ us) (ds ++ es)
  | _, _, _, _, .nil, s => s
  | _, _, _, _, .cons a r, s => .cons a (DaAll.append r s)
theorem DaAll.take : ∀ {vs : List V} {ds : List PyData} (n : Nat), DaAll K N H vs ds → DaAll K N H (vs.take n) (ds.take n)
  | _, _, 0, _ => .nil
  | _, _, _ + 1, .nil => .nil
  | _, _, n + 1, .cons a r => .cons a (DaAll.take n r)
theorem DaAll.drop : ∀ {vs : List V} {ds : List PyData} (n : Nat), DaAll K N H vs ds → DaAll K N H (vs.drop n) (ds.drop n)
  | _, _, 0, r => r
  | _, _, _ + 1, .nil => .nil
  | _, _, n + 1, .cons _ r => DaAll.drop n r
end

/-! ### how long what is shown is, how deep -/
theorem joinLen : ∀ ts : List Str, (Str.join ", " ts).length ≤ (ts.map fun t => t.length + 2).sum
  | [] => by decide
  | [x] => by
    show x.length ≤ _
    simp
  | x :: y :: r => by
    have ih := joinLen (y :: r)
    have e : (Str.join ", " (x :: y :: r)).length = x.length + 2 + (Str.join ", " (y :: r)).length := by
      show (x ++ ", " ++ Str.join ", " (y :: r)).length = _
      rw [strLen_append, strLen_append]
      rfl
    rw [e, List.map_cons, List.sum_cons]
    omega
end Ow

namespace Ow
open PySem PySem.Spec PyProof.Rows L2

/-! ### how long what is shown is -/
mutual
/-- at least as long as what is shown; each place of a row and a brace counted with it -/
def wt : PyData → Nat
  | .none => 4
  | .bool _ => 5
  | .int i => (toString i : Str).length
  | .str x => (reprText x).length + x.length
  | .list xs => wtAll xs + 4
  | .tuple xs => wtAll xs + 4
  | .dict kvs => wtKv kvs + 4
def wtAll : List PyData → Nat
  | [] => 0
  | x :: xs => wt x + 2 + wtAll xs
def wtKv : List (PyData × PyData) → Nat
  | [] => 0
  | (k, v) :: r => wt k + wt v + 4 + wtKv r
end
theorem textFromLen : ∀ (ts : List Str) (k : Nat) (acc : Str), (textFrom k acc ts).length ≤ acc.length + (ts.map fun t => t.length + 2).sum
  | [], k, acc => by
    show acc.length ≤ _
    simp
  | t :: r, k, acc => by
    have ih := textFromLen r (k + 1) (acc ++ (if k > 0 then ", " else "" : String) ++ t)
    have e : (acc ++ (if k > 0 then ", " else "" : String) ++ t).length ≤ acc.length + 2 + t.length := by
      rw [strLen_append, strLen_append]
      by_cases h : k > 0
      · rw [if_pos h]
        show acc.length + 2 + t.length ≤ _
        omega
      · rw [if_neg h]
        show acc.length + 0 + t.length ≤ _
        omega
    show (textFrom (k + 1) (acc ++ (if k > 0 then ", " else "" : String) ++ t) r).length ≤ _
    rw [List.map_cons, List.sum_cons]
    omega
theorem listTextLen (ts : List Str) : (listText ts).length ≤ (ts.map fun t => t.length + 2).sum + 4 := by
  have h := textFromLen ts 0 "["
  have e : (listText ts).length = (textFrom 0 "[" ts).length + 1 := by
    unfold listText
    rw [strLen_append]
    rfl
  have e1 : (("[" : String) : Str).length = 1 := rfl
  rw [e]
  rw [e1] at h
  omega
theorem tupleTextLen (ts : List Str) : (tupleText ts).length ≤ (ts.map fun t => t.length + 2).sum + 4 := by
  have h := joinLen ts
  have e : (tupleText ts).length ≤ 1 + (Str.join ", " ts).length + 2 := by
    unfold tupleText
    rw [strLen_append, strLen_append]
    by_cases q : (ts.length == 1) = true
    · rw [if_pos q]
      exact Nat.le_refl _
    · rw [if_neg q]
      show 1 + (Str.join ", " ts).length + 1 ≤ _
      omega
  omega
theorem dictTextLen (ts : List Str) : (dictText ts).length ≤ (ts.map fun t => t.length + 2).sum + 4 := by
  have h := joinLen ts
  have e : (dictText ts).length = 1 + (Str.join ", " ts).length + 1 := by
    unfold dictText
    rw [strLen_append, strLen_append]
    rfl
  omega
mutual
theorem shownLen : ∀ d : PyData, d.shown.length ≤ wt d
  | .none => by decide
  | .bool b => by
    cases b
    · decide
    · decide
  | .int i => by
    simp only [PyData.shown, wt]
    exact Nat.le_refl _
  | .str x => by
    simp only [PyData.shown, wt]
    exact Nat.le_add_right _ _
  | .list xs => by
    simp only [PyData.shown, wt]
    have h := listTextLen (PyData.shownAll xs)
    have h2 := shownAllLen xs
    omega
  | .tuple xs => by
    simp only [PyData.shown, wt]
    have h := tupleTextLen (PyData.shownAll xs)
    have h2 := shownAllLen xs
    omega
  | .dict kvs => by
    simp only [PyData.shown, wt]
    have h := dictTextLen (PyData.shownKv kvs)
    have h2 := shownKvLen kvs
    omega
theorem shownAllLen : ∀ ds : List PyData, ((PyData.shownAll ds).map fun t => t.length + 2).sum ≤ wtAll ds
  | [] => by simp [PyData.shownAll, wtAll]
  | d :: ds => by
    have h1 := shownLen d
    have h2 := shownAllLen ds
    simp only [PyData.shownAll, wtAll, List.map_cons, List.sum_cons]
    omega
theorem shownKvLen : ∀ ds : List (PyData × PyData), ((PyData.shownKv ds).map fun t => t.length + 2).sum ≤ wtKv ds
  | [] => by simp [PyData.shownKv, wtKv]
  | (k, v) :: r => by
    have h1 := shownLen k
    have h2 := shownLen v
    have h3 := shownKvLen r
    simp only [PyData.shownKv, wtKv, List.map_cons, List.sum_cons]
    have e : (PyData.shown k ++ (": " : Str) ++ PyData.shown v).length = (PyData.shown k).length + 2 + (PyData.shown v).length := by
      rw [strLen_append, strLen_append]
      rfl
    rw [e]
    omega
end
/-- data that repr may be asked of: what is shown at most n long, at most m deep -/
structure Fit (n m : Nat) (d : PyData) : Prop where
  sh : d.showable = true
  wt : wt d ≤ n
  dp : d.depth ≤ m
theorem Fit.le {n m n' m' : Nat} {d : PyData} (f : Fit n m d) (h : n ≤ n') (k : m ≤ m') : Fit n' m' d := ⟨f.sh, Nat.le_trans f.wt h, Nat.le_trans f.dp k⟩

/-! ### what stands in the heap, read as data -/
section
variable {X : Cx} {pins : List (Addr × Obj)} {σ : L2.St} {H : Hp} {s : Shared} {N : Addr → Prop}
theorem pairs_read {P : Program} {w : World} {h : Heap} : ∀ {kvs : List (Key × V)} {vs : List (Key × Value)} {el : List DictEntry}, KV kvs vs → Pairs (mixKind P w) el vs →
    Vals (kvs.map (·.2)) (el.map (·.val)) ∧ ReadsAll h (el.map (·.key)) (kvs.map fun q => kD q.1) []
  | _, _, _, .nil, .nil => ⟨.nil, .nil⟩
  | _, _, _, .cons (a := a) (b := b) q r, .cons (e := e) h1 h2 h3 => by
    obtain ⟨i1, i2⟩ := pairs_read (h := h) r h3
    refine ⟨.cons (by show RelV a.2 e.val; rw [h2]; exact q.2) i1, ?_⟩
    have hk : Reads h e.key (kD a.1) [] := by
      rw [q.1]
      rcases keyIs_shape (k := b.1) (v := e.key) h1 with ⟨i, t, z, z2⟩ | ⟨x, t, z, z2⟩
      · rw [z, z2]
        exact .int i t
      · rw [z, z2]
        exact .str x t
    exact .cons hk i2
theorem list_nsys (I : Inv X pins σ H s) (hs : ∃ o, s.heap.get? sysModules = some o ∧ o.cls ≠ .type "list") {a : Addr} {xs : List V} (h : H a = some (.lst xs)) : a ≠ sysModules := by
  rintro rfl
  obtain ⟨o, e, c⟩ := hs
  obtain ⟨_, its, n, _, q⟩ := I.hok _ _ h
  rw [e] at q
  cases q
  exact c rfl
mutual
theorem Da.reads (I : Inv X pins σ H s) : ∀ {v : V} {d : PyData}, Da X.K N H v d → ∀ {u : Value}, RelV v u → ∃ as, Reads s.heap u d as ∧ ((∃ o, s.heap.get? sysModules = some o ∧ o.cls ≠ .type "list") → sysModules ∉ as)
  | _, _, .non, _, r => by
    cases r
    exact ⟨_, .none, fun _ z => nomatch z⟩
  | _, _, .bl b, _, r => by
    cases r
    exact ⟨_, .bool b, fun _ z => nomatch z⟩
  | _, _, .int i, _, r => by
    obtain ⟨t, rfl⟩ := r
    exact ⟨_, .int i t, fun _ z => nomatch z⟩
  | _, _, .str x, _, r => by
    obtain ⟨t, rfl⟩ := r
    exact ⟨_, .str x t, fun _ z => nomatch z⟩
  | _, _, .lst h ne ra, _, r => by
    cases r
    obtain ⟨its, rv, ⟨o, n, ho, hc, _, hd⟩, _⟩ := I.list (SqL.of h)
    obtain ⟨as, hr, hn⟩ := DaAll.reads I ra rv
    refine ⟨_, .list ho hc hd hr, fun hs z => ?_⟩
    rcases List.mem_cons.mp z with e | z
    · exact list_nsys I hs h e.symm
    · exact hn hs z
  | _, _, .tup h ra, _, r => by
    cases r
    obtain ⟨its, rv, ⟨o, ho, hc, n, hd⟩, _⟩ := I.tuple h
    obtain ⟨as, hr, hn⟩ := DaAll.reads I ra rv
    exact ⟨_, .tuple ho hc hd hr, hn⟩
  | _, _, .dct (kvs := kvs) (ds := ds) h ne ra, _, r => by
    cases r
    obtain ⟨_, hsys, vs, kv, o, es, ep, ho, hx, hd, hko, hpr, _⟩ := I.hok _ _ h
    obtain ⟨q1, q2⟩ := pairs_read (h := s.heap) kv hpr
    obtain ⟨as, hr, hn⟩ := DaAll.reads I ra q1
    have hl : (kvs.map fun q => kD q.1).length = ds.length := by
      rw [List.length_map, ← DaAll.length ra, List.length_map]
    refine ⟨_, .dict (as := []) (bs := as) ho hx.1 hd ?_ ?_, fun hs z => ?_⟩
    · rw [List.map_fst_zip (Nat.le_of_eq hl)]
      exact q2
    · rw [List.map_snd_zip (Nat.le_of_eq hl.symm)]
      exact hr
    · rcases List.mem_cons.mp z with e | z
      · rw [← e] at hsys
        exact absurd hsys (by decide)
      · exact hn hs z
theorem DaAll.reads (I : Inv X pins σ H s) : ∀ {vs : List V} {ds : List PyData}, DaAll X.K N H vs ds → ∀ {us : List Value}, Vals vs us → ∃ as, ReadsAll s.heap us ds as ∧ ((∃ o, s.heap.get? sysModules = some o ∧ o.cls ≠ .type "list") → sysModules ∉ as)
  | _, _, .nil, _, r => by
    cases r
    exact ⟨_, .nil, fun _ z => nomatch z⟩
  | _, _, .cons a ra, _, r => by
    cases r with
    | cons r1 r2 =>
      obtain ⟨as, h1, n1⟩ := Da.reads I a r1
      obtain ⟨bs, h2, n2⟩ := DaAll.reads I ra r2
      exact ⟨_, .cons h1 h2, fun hs z => (List.mem_append.mp z).elim (n1 hs) (n2 hs)⟩
end
end
/-! ### what is shown, item by item -/
section
variable {X : Cx} {pins : List (Addr × Obj)} {σ : L2.St} {H : Hp} {s : Shared} {N : Addr → Prop}
theorem reads_of (I : Inv X pins σ H s) {v : V} {d : PyData} (h : Da X.K N H v d) {u : Value} (r : RelV v u) : ∃ as, Reads s.heap u d as :=
  let ⟨as, q, _⟩ := Da.reads I h r
  ⟨as, q⟩
theorem out_of {a : Addr} {d : PyData} {as bs : List Addr} {h : Heap} (r : Reads h (.ref a) d as) {n : Nat} (hb : ReadAtMost h n bs) (hn : n < d.depth) : a ∉ bs ∧ ReadAtMost h d.depth (a :: bs) :=
  ⟨not_mem_of_deeper r hn hb, .cons r (Nat.le_of_lt hn) hb⟩
theorem dct_of (I : Inv X pins σ H s) {a : Addr} {kvs : List (Key × V)} {ds : List PyData} (h : H a = some (.dK kvs)) (ne : ¬ N a) (ra : DaAll X.K N H (kvs.map (·.2)) ds)
    (hz : (dictText (PyData.shownKv ((kvs.map fun q => kD q.1).zip ds))).length ≤ sizeLine) (hs : PyData.showableKv ((kvs.map fun q => kD q.1).zip ds) = true)
    (vals : ∀ {us : List Value}, Vals (kvs.map (·.2)) us → PyData.showableAll ds = true → (∀ t ∈ PyData.shownAll ds, t.length ≤ sizeLine) →
      ∃ bs, ReadAtMost s.heap (PyData.depthAll ds) bs ∧ ReprAllK X.prog X.w bs s.heap (PyData.depthAll ds) us (PyData.shownAll ds)) :
    ∃ (o : Obj) (es : Array DictEntry) (ep : Nat) (bs : List Addr), s.heap.get? a = some o ∧ o.cls = .type "dict" ∧ o.data = .dict es ep ∧ (a == sysModules) = false ∧ a ∉ bs ∧
      ReadAtMost s.heap (PyData.dict ((kvs.map fun q => kD q.1).zip ds)).depth (a :: bs) ∧ ReprEntriesK X.prog X.w bs s.heap (PyData.depthKv ((kvs.map fun q => kD q.1).zip ds)) es.toList (PyData.shownKv ((kvs.map fun q => kD q.1).zip ds)) := by
  obtain ⟨as, rd⟩ := reads_of I (.dct h ne ra) (u := .ref a) rfl
  obtain ⟨_, hsys, vs, kv, o, es, ep, ho, hx, hd, hko, hpr, _⟩ := I.hok _ _ h
  obtain ⟨q1, q2⟩ := pairs_read (h := s.heap) kv hpr
  have hl : (kvs.map fun q => kD q.1).length = ds.length := by
    rw [List.length_map, ← DaAll.length ra, List.length_map]
  have e1 : (((kvs.map fun q => kD q.1)).zip ds).map (·.1) = kvs.map fun q => kD q.1 := List.map_fst_zip (Nat.le_of_eq hl)
  have e2 : (((kvs.map fun q => kD q.1)).zip ds).map (·.2) = ds := List.map_snd_zip (Nat.le_of_eq hl.symm)
  obtain ⟨s1, s2⟩ := PyData.showableKv_split _ hs
  have zk := fun t ht => Nat.le_trans (let ⟨y, hy, hl⟩ := PyData.shownKv_key_le ((kvs.map fun q => kD q.1).zip ds) t ht; Nat.le_trans hl (dictText_mem_le hy)) hz
  have zv := fun t ht => Nat.le_trans (let ⟨y, hy, hl⟩ := PyData.shownKv_val_le ((kvs.map fun q => kD q.1).zip ds) t ht; Nat.le_trans hl (dictText_mem_le hy)) hz
  have d1 := PyData.depthAll_keys_le (((kvs.map fun q => kD q.1)).zip ds)
  have d2 := PyData.depthAll_vals_le (((kvs.map fun q => kD q.1)).zip ds)
  rw [e1] at s1 zk d1
  rw [e2] at s2 zv d2
  obtain ⟨b1, hb1, k1⟩ := ReprAllK.of_readsAll (prog := X.prog) (w := X.w) q2 s1 (fun _ z => nomatch z) zk
  obtain ⟨b2, hb2, k2⟩ := vals q1 s2 zv
  obtain ⟨o1, o2⟩ := out_of rd ((hb1.mono d1).append (hb2.mono d2)) (by rw [PyData.depth]; exact Nat.lt_succ_self _)
  refine ⟨o, es, ep, b1 ++ b2, ho, hx.1, hd, hsys, o1, o2, ?_⟩
  rw [PyData.shownKv_eq, e1, e2]
  exact .of_two es.toList _ _ (k1.more_le (fun b z => List.mem_append_left _ z) d1) (k2.more_le (fun b z => List.mem_append_right _ z) d2)
mutual
theorem Da.rk (I : Inv X pins σ H s) : ∀ {v : V} {d : PyData}, Da X.K N H v d → ∀ {u : Value}, RelV v u → d.showable = true → d.shown.length ≤ sizeLine →
    ∃ bs, ReadAtMost s.heap d.depth bs ∧ ReprK X.prog X.w bs s.heap d.depth u d.shown
  | _, _, .non, _, r, _, _ => by
    cases r
    refine ⟨[], fun _ z => (nomatch z), ?_⟩
    rw [PyData.shown]
    exact .of_is .none _ _ _
  | _, _, .bl b, _, r, _, _ => by
    cases r
    refine ⟨[], fun _ z => (nomatch z), ?_⟩
    rw [PyData.shown]
    exact .of_is (.bool b) _ _ _
  | _, _, .int i, _, r, hs, _ => by
    obtain ⟨t, rfl⟩ := r
    refine ⟨[], fun _ z => (nomatch z), ?_⟩
    rw [PyData.showable, decide_eq_true_eq] at hs
    rw [PyData.shown]
    exact .of_is (.int t hs) _ _ _
  | _, _, .str x, _, r, _, hz => by
    obtain ⟨t, rfl⟩ := r
    refine ⟨[], fun _ z => (nomatch z), ?_⟩
    rw [PyData.shown] at hz ⊢
    exact .of_is (.str x t hz) _ _ _
  | _, _, .lst (a := a) (ds := ds) h ne ra, _, r, hs, hz => by
    cases r
    obtain ⟨as, rd⟩ := reads_of I (.lst h ne ra) (u := .ref a) rfl
    obtain ⟨its, rv, ⟨o, n, ho, hc, _, hd⟩, _⟩ := I.list (SqL.of h)
    rw [PyData.showable] at hs
    rw [PyData.shown] at hz ⊢
    obtain ⟨bs, hb, hk⟩ := DaAll.rk I ra rv hs fun t ht => Nat.le_trans (listText_mem_le ht) hz
    obtain ⟨o1, o2⟩ := out_of rd hb (by rw [PyData.depth]; exact Nat.lt_succ_self _)
    refine ⟨a :: bs, o2, ?_⟩
    rw [PyData.depth]
    cases its with
    | nil =>
      cases rv
      cases ra
      rw [PyData.shownAll, listText_nil]
      exact .listEmpty ho hc hd
    | cons y t =>
      refine .list ho hc hd o1 ?_ fun i z e => hk.item i z ?_
      · simpa using hk.length_eq
      · simpa using e
  | _, _, .tup (a := a) h ra, _, r, hs, hz => by
    cases r
    obtain ⟨as, rd⟩ := reads_of I (.tup (N := N) h ra) (u := .ref a) rfl
    obtain ⟨its, rv, ⟨o, ho, hc, n, hd⟩, _⟩ := I.tuple h
    rw [PyData.showable] at hs
    rw [PyData.shown] at hz ⊢
    obtain ⟨bs, hb, hk⟩ := DaAll.rk I ra rv hs fun t ht => Nat.le_trans (tupleText_mem_le ht) hz
    obtain ⟨o1, o2⟩ := out_of rd hb (by rw [PyData.depth]; exact Nat.lt_succ_self _)
    refine ⟨a :: bs, o2, ?_⟩
    rw [PyData.depth]
    exact .tuple ho hc hd o1 (by simpa using hk)
  | _, _, .dct (a := a) (kvs := kvs) (ds := ds) h ne ra, _, r, hs, hz => by
    cases r
    rw [PyData.showable] at hs
    rw [PyData.shown] at hz ⊢
    obtain ⟨o, es, ep, bs, h1, h2, h3, h4, h5, h6, h7⟩ := dct_of I h ne ra hz hs fun rv s2 z2 => DaAll.rk I ra rv s2 z2
    refine ⟨a :: bs, h6, ?_⟩
    rw [PyData.depth]
    exact .dict h1 h2 h3 h4 h5 h7
theorem DaAll.rk (I : Inv X pins σ H s) : ∀ {vs : List V} {ds : List PyData}, DaAll X.K N H vs ds → ∀ {us : List Value}, Vals vs us → PyData.showableAll ds = true → (∀ t ∈ PyData.shownAll ds, t.length ≤ sizeLine) →
    ∃ bs, ReadAtMost s.heap (PyData.depthAll ds) bs ∧ ReprAllK X.prog X.w bs s.heap (PyData.depthAll ds) us (PyData.shownAll ds)
  | _, _, .nil, _, r, _, _ => by
    cases r
    refine ⟨[], fun _ z => (nomatch z), ?_⟩
    rw [PyData.shownAll]
    exact .nil
  | _, _, .cons (d := d) (ds := ds) a ra, _, r, hs, hz => by
    cases r with
    | cons r1 r2 =>
      rw [PyData.showableAll, Bool.and_eq_true] at hs
      rw [PyData.shownAll] at hz ⊢
      obtain ⟨b1, h1, k1⟩ := Da.rk I a r1 hs.1 (hz _ (List.mem_cons_self ..))
      obtain ⟨b2, h2, k2⟩ := DaAll.rk I ra r2 hs.2 fun t ht => hz t (List.mem_cons_of_mem _ ht)
      rw [PyData.depthAll]
      exact ⟨b1 ++ b2, .append (h1.mono (Nat.le_max_left _ _)) (h2.mono (Nat.le_max_right _ _)),
        .cons ((k1.more fun b z => List.mem_append_left _ z).level_le (Nat.le_max_left _ _)) (k2.more_le (fun b z => List.mem_append_right _ z) (Nat.le_max_right _ _))⟩
end
end
section
variable {X : Cx}
/-- repr of data: nothing else is shown around, and there is room -/
def rRepr (K : PySem.W.Frag) (un : Nat) : List V → Hp → VK → Prop := fun xs H Q => ∃ (N : Addr → Prop) (v : V) (d : PyData) (n : Nat), xs = [v] ∧ Da K N H v d ∧ Fit n 150 d ∧ n ≤ sizeLine ∧
  un + 151 < cLine ∧ Q (.str d.shown) H
theorem call_reprD (hg : X.A.guards = some []) : CallR X (.builtin "repr") (rRepr X.K X.A.units) := by
  intro pins s σ H xs us Q I r h
  obtain ⟨N, v, d, n, rfl, hd, hf, hn, hu, q⟩ := h
  obtain ⟨u, rfl, r1⟩ := vals1 r
  have hz : d.shown.length ≤ sizeLine := Nat.le_trans (shownLen d) (Nat.le_trans hf.wt hn)
  have hdp := hf.dp
  have hsh := hf.sh
  have fin : ∀ (h' : Heap) (u : Tok) (tk : Nat), (∀ b o, s.heap.get? b = some o → h'.get? b = some o) → EP X pins σ Q (.str d.shown u) { s with heap := h', toks := tk } := fun h' u tk k => ⟨.str _, H, I.kept k, ⟨u, rfl⟩, q⟩
  cases hd with
  | non =>
    cases r1
    exact PySem.P.repr_of_none ⟨.str _, H, I.tok _, ⟨_, rfl⟩, q⟩
  | bl b =>
    cases r1
    exact PySem.P.repr_of_bool ⟨.str _, H, I.tok _, ⟨_, rfl⟩, q⟩
  | int i =>
    obtain ⟨t, rfl⟩ := r1
    rw [PyData.showable, decide_eq_true_eq] at hsh
    exact PySem.P.repr_of_int hsh ⟨.str _, H, I.tok _, ⟨_, rfl⟩, q⟩
  | str x =>
    obtain ⟨t, rfl⟩ := r1
    exact PySem.P.repr_of_str ⟨.str _, H, I.tok _, ⟨_, rfl⟩, q⟩ hz
  | @lst a xs ds h1 h2 h3 =>
    cases r1
    obtain ⟨as, rd⟩ := reads_of I (.lst h1 h2 h3) (u := .ref a) rfl
    obtain ⟨its, rv, ⟨o, m, ho, hc, _, hdt⟩, _⟩ := I.list (SqL.of h1)
    rw [PyData.showable] at hsh
    rw [PyData.shown] at hz fin
    rw [PyData.depth] at hdp
    obtain ⟨bs, hb, hk⟩ := DaAll.rk I h3 rv hsh fun t ht => Nat.le_trans (listText_mem_le ht) hz
    obtain ⟨o1, _⟩ := out_of rd hb (by rw [PyData.depth]; exact Nat.lt_succ_self _)
    refine call_repr_slot (by omega) ⟨o, ho, hc⟩ PySem.F.slot_list_repr.toG ?_
    cases its with
    | nil =>
      cases rv
      cases h3
      rw [PyData.shownAll, listText_nil] at fin
      exact call_list_repr_empty ⟨o, ho, hc⟩ ho hdt ⟨_, _, rfl, fin s.heap _ _ fun _ _ e => e⟩
    | cons y t =>
      refine call_list_reprK ho hc hdt o1 ?_ (fun i z e => hk.item i z ?_) hg (fun b _ => Clear.nil b) ?_ (fun _ _ e => e) (fun h' u tk k => ⟨_, _, rfl, fin h' u tk k⟩) hz
      · simpa using hk.length_eq
      · simpa using e
      · show X.A.units + 1 + (PyData.depthAll ds + 1) < cLine
        omega
  | @tup a xs ds h1 h3 =>
    cases r1
    obtain ⟨as, rd⟩ := reads_of I (.tup (N := N) h1 h3) (u := .ref a) rfl
    obtain ⟨its, rv, ⟨o, ho, hc, m, hdt⟩, _⟩ := I.tuple h1
    rw [PyData.showable] at hsh
    rw [PyData.shown] at hz fin
    rw [PyData.depth] at hdp
    obtain ⟨bs, hb, hk⟩ := DaAll.rk I h3 rv hsh fun t ht => Nat.le_trans (tupleText_mem_le ht) hz
    obtain ⟨o1, _⟩ := out_of rd hb (by rw [PyData.depth]; exact Nat.lt_succ_self _)
    refine call_repr_slot (by omega) ⟨o, ho, hc⟩ PySem.F.slot_tuple_repr ?_
    refine call_tuple_reprK ho hc hdt o1 (by simpa using hk) hg (fun b _ => Clear.nil b) ?_ (fun _ _ e => e) (fun h' u tk k => ⟨_, _, rfl, fin h' u tk k⟩) hz
    show X.A.units + 1 + (PyData.depthAll ds + 1) < cLine
    omega
  | @dct a kvs ds h1 h2 h3 =>
    cases r1
    rw [PyData.showable] at hsh
    rw [PyData.shown] at hz fin
    rw [PyData.depth] at hdp
    obtain ⟨o, es, ep, bs, g1, g2, g3, g4, g5, g6, g7⟩ := dct_of I h1 h2 h3 hz hsh fun rv s2 z2 => DaAll.rk I h3 rv s2 z2
    refine call_repr_slot (by omega) ⟨o, g1, g2⟩ PySem.F.slot_dict_repr ?_
    refine call_dict_reprK g1 g2 g3 g4 g5 g7 hg (fun b _ => Clear.nil b) ?_ (fun _ _ e => e) (fun h' u tk k => ⟨_, _, rfl, fin h' u tk k⟩) hz
    show X.A.units + 1 + (PyData.depthKv ((kvs.map fun q => kD q.1).zip ds) + 1) < cLine
    omega
end

/-! ### a def that runs where nothing is being shown -/
structure FnG (P : Program) (w : World) (K : PySem.W.Frag) (mg : Str → Option Value) (base : Heap) (k : Nat) (f : Addr) (fd : FuncData) (ps : List Str) (sp : Sp) : Prop where
  len : ∀ vs H Q E, sp vs H Q E → vs.length = ps.length
  run : ∀ (A : Around) (outer : List Env) (s : Shared) (H : Hp) (args : Args) (us : List Value) (vs : List V) (Q : VK) (E : XK),
    A.guards = some [] → Room k A → Env0 P w K mg base A outer s H → BindsTo s fd args (ps.zip us) → Vals vs us → sp vs H Q E →
    codeAny (model P w) A (.call (.ref f) args) (CR CX0 outer P w H s Q E) s
/-- the end of a body, as the end of its call -/
theorem ends_call {P : Program} {w : World} {K : PySem.W.Frag} {mg : Str → Option Value} {base : Heap} {N : List Str} {qual : Str} {scope : Scope} {f : Addr} {cd : Value} {A : Around} {outer : List Env} {s s' : Shared} {H : Hp} {E : XK} {Q : VK} {fl : Flow}
    (h : SP (cxOf CX0 P w K mg base N qual scope f cd A outer s H E) [] { nx := fun _ H' => Q .non H', rt := Q } fl s') :
    match fl with
    | .next => CE outer P w H s Q .none s'
    | .ret u => CE outer P w H s Q u s'
    | _ => False := by
  cases fl with
  | next =>
    obtain ⟨_, H', J, q⟩ := h
    exact ⟨.non, H', J.os, J.bare, J.base, J.hok, rfl, q⟩
  | ret u =>
    obtain ⟨v, _, H', J, r, q⟩ := h
    exact ⟨v, H', J.os, J.bare, J.base, J.hok, r, q⟩
  | brk =>
    obtain ⟨_, _, _, q⟩ := h
    exact q
  | cont =>
    obtain ⟨_, _, _, q⟩ := h
    exact q
theorem Fun.okG {P : Program} {w : World} {K : PySem.W.Frag} {mg : Str → Option Value} {base : Heap} {x qual : Str} {st : Stmt} {f : Addr} {fd : FuncData} {N ps : List Str} {k : Nat} {sp : Sp} (F : Fun K x qual st f fd) (S : FnScope N ps (defScope st))
    (len : ∀ vs H Q E, sp vs H Q E → vs.length = ps.length)
    (body : ∀ (cdv : Value) (A : Around) (outer : List Env) (s : Shared) (H : Hp) (vs : List V) (Q : VK) (E : XK), A.guards = some [] → Room k (A.deeper (envOfC qual (defScope st) s.heap.objs.size f cdv)) → sp vs H Q E →
      ∃ t, PSs (cxOf CX0 P w K mg base N qual (defScope st) f cdv A outer s H E).nox (defBody st) t ∧ t { nx := fun _ H' => Q .non H', rt := Q } (start N vs) H) : FnG P w K mg base (k + 1) f fd ps sp := by
  obtain ⟨oc, od, kV, doc, pm, an, cdv, ct, osl, rfl, lk, hcd⟩ := F.ex
  constructor
  · exact len
  · intro A outer s H args us vs Q E ag room e0 bind rel want
    have ln := len vs H Q E want
    have old : ∀ b o, base.get? b = some o → s.heap.get? b = some o := fun b o q => (e0.bs b o q).1
    have KS : K.In s.heap := e0.mod.kin.keeps old
    refine codeAny_call_function room.depth (KS _ _ lk) rfl S.co S.gen rfl (PySem.W.codeRec_of KS hcd) (bind _ _ _ _ ?_)
    refine wpAny_newFunctionEnv_cells S.kind ?_ ?_
    · intro y hy
      obtain ⟨n, v⟩ := y
      have hp := S.par n (List.of_mem_zip hy).1
      rcases hp with q | q
      · exact Or.inl q
      · exact Or.inr ⟨q, PySem.W.cellsFrom_some _ _ _ (Or.inl q)⟩
    · intro env he s1 x
      subst he
      refine ⟨(e0.mod.nolimit.keeps old).keeps x.toInCall.keep, codeAny_func ?_⟩
      obtain ⟨t, ht, hq⟩ := body cdv A outer s H vs Q E ag (room.deeper _) want
      have J : Inv (cxOf CX0 P w K mg base N qual (defScope st) f cdv A outer s H E) [] (start N vs) H s1 := inv_start S room.hd e0 ln rel x
      refine wpAny_mono (ht.nox.run [] s1 (start N vs) H _ J hq) (fun fl s' hs => ?_) fun _ _ z => z
      have z := ends_call hs
      cases fl with
      | next => exact z
      | ret u => exact z
      | brk => exact z.elim
      | cont => exact z.elim
theorem FnOk.g {P : Program} {w : World} {K : PySem.W.Frag} {mg : Str → Option Value} {base : Heap} {k : Nat} {f : Addr} {fd : FuncData} {ps : List Str} {sp : Sp} (F : FnOk P w K mg base CX0 k f fd ps sp) : FnG P w K mg base k f fd ps sp :=
  ⟨F.len, fun A outer s H args us vs Q E _ => F.run A outer s H args us vs Q E⟩
structure CallG (P : Program) (w : World) (K : PySem.W.Frag) (mg : Str → Option Value) (base : Heap) (k : Nat) (x : Str) (ps : List Str) (sp : Sp) : Prop where
  ex : ∃ (f : Addr) (fd : FuncData), FnG P w K mg base k f fd ps sp ∧ mg x = some (.ref f) ∧ PySem.W.keepIn K (.ref f) = true ∧ Binds K fd ps []
theorem DefAt.okG {P : Program} {w : World} {K : PySem.W.Frag} {mg : Str → Option Value} {base : Heap} {x : Str} {st : Stmt} {N ps : List Str} {k : Nat} {sp : Sp} (D : DefAt K mg x st ps) (S : FnScope N ps (defScope st)) (len : ∀ vs H Q E, sp vs H Q E → vs.length = ps.length)
    (body : ∀ (f : Addr) (cdv : Value) (A : Around) (outer : List Env) (s : Shared) (H : Hp) (vs : List V) (Q : VK) (E : XK), A.guards = some [] → Room k (A.deeper (envOfC x (defScope st) s.heap.objs.size f cdv)) → sp vs H Q E →
      ∃ t, PSs (cxOf CX0 P w K mg base N x (defScope st) f cdv A outer s H E).nox (defBody st) t ∧ t { nx := fun _ H' => Q .non H', rt := Q } (start N vs) H) : CallG P w K mg base (k + 1) x ps sp := by
  obtain ⟨f, fd, F, hm, hb⟩ := D.ex
  exact ⟨f, fd, Fun.okG F S len fun cdv A outer s H vs Q E ag hr h => body f cdv A outer s H vs Q E ag hr h, hm, F.kp, hb⟩
section
variable {X : Cx} {k j : Nat} {x : Str} {ps : List Str} {sp : Sp} {p pos : Pos} {e : Expr} {es : List Expr} {t : TA}
theorem pe_callG (ag : X.A.guards = some []) (C : CallG X.prog X.w X.K X.mg X.base k x ps sp) (hr : Room j X.A) (hj : k ≤ j) (hg : Gl X x) (ha : PA X (e :: es) t)
    (hdb : (x == ("__debug__" : Str)) = false := by decide) (he : starEach (e :: es) X.env = (false, eval e X.env) :: starEach es X.env := by rfl)
    (hpl : (backTo pos (starEach es X.env)).any (·.1) = false := by rfl) : PE X (.Call (.Name x p) (e :: es) [] pos) (tCall sp [] E0 t) := by
  obtain ⟨f, fd, F, hm, hk, hb⟩ := C.ex
  constructor
  intro pins s σ H Q I h
  refine wpAny_Call_Name_kw (ld_glob I hg hm ?_ hdb)
  refine PySem.W.callWith_K (h₀ := X.base) I.ok.mod.kin hk (thn (ha.run pos pins s σ H _ I h) fun us s1 q0 => ?_) he hpl
  obtain ⟨vs, H1, I1, r, q⟩ := q0
  refine ⟨I1.kIn, ?_⟩
  have r2 : Vals (vs ++ []) (us ++ []) := r.append .nil
  have ln : (us ++ []).length = ps.length := by
    rw [← r2.length]
    exact F.len _ _ _ _ q
  refine wpAny_call (codeAny_mono (F.run X.A X.stack s1 H1 ⟨us, []⟩ (us ++ []) (vs ++ []) Q E0 ag (hr.mono hj) I1.env0 (hb s1 us I1.kIn ln) r2 q) fun a s' z => ?_)
  match a, z with
  | .ok (.ret u), z => exact I1.after z
  | .ok .next, z => exact z.elim
  | .ok .brk, z => exact z.elim
  | .ok .cont, z => exact z.elim
  | .error _, z => exact z.elim
end
end Ow

namespace Ow
open PySem PySem.Spec PyProof.Rows L2

/-! ### the law's own call -/
/-- the script alone is known, where the module has it not -/
noncomputable def scriptH (K : PySem.W.Frag) (a : Addr) (ob : Obj) (ns : List Int) : Hp := fun b =>
  if b = a ∧ (K.lookup a).isNone = true then some (.frz ob (.lst (ns.map V.int))) else none
section
variable {K : PySem.W.Frag} {a b : Addr} {ob : Obj} {ns : List Int}
theorem scriptH_some {u : HO} (h : scriptH K a ob ns b = some u) : b = a ∧ (K.lookup a).isNone = true ∧ u = .frz ob (.lst (ns.map V.int)) := by
  unfold scriptH at h
  by_cases c : b = a ∧ (K.lookup a).isNone = true
  · rw [if_pos c] at h
    exact ⟨c.1, c.2, (Option.some.inj h).symm⟩
  · rw [if_neg c] at h
    cases h
theorem scriptH_only : Only (scriptH K a ob ns) := fun c => by
  cases e : scriptH K a ob ns c with
  | none => exact .inl rfl
  | some u =>
    obtain ⟨_, _, rfl⟩ := scriptH_some e
    exact .inr ⟨ob, _, rfl⟩
end
/-- a def of one parameter, run on the script from where the top has left off: True -/
theorem law_run {P : Program} {w : World} {K : PySem.W.Frag} {mg mb : Str → Option Value} {k : Nat} {fa a : Addr} {fd : FuncData} {x : Str} {sp : Sp} {t : Shared} {vs : List Value} {ns : List Int}
    (inK : K.In t.heap) (gl : t.heap.Ns mainGlobals mg) (bl : t.heap.Ns builtinsNs mb) (bl2 : ∀ x : Str, x ≠ "__name__" → mb x = bootBuiltins x) (lim : t.heap.NoLimit) (gens : t.gens = #[])
    (obj : t.heap.get? a = some { cls := .type "list", data := .seq vs.toArray }) (hints : IntsAre vs ns) (short : ns.length ≤ sizeLine) (room : Room k callerA)
    (F : ∀ base : Heap, K.In base → base.Ns mainGlobals mg → FnG P w K mg base k fa fd [x] sp) (bind : ∀ (s : Shared) (u : Value), BindsTo s fd ⟨[u], []⟩ [(x, u)])
    (want : ∀ H : Hp, Only H → SqL K H a (ns.map V.int) → sp [.ref a] H (fun v _ => v = .bl true) fun _ _ _ => False) :
    codeAny (model P w) callerA (.call (.ref fa) ⟨[.ref a], []⟩) (fun r s' => r = .ok (.ret (.bool true)) ∧ OldK t.heap s'.heap ∧ s'.os = t.os ∧ AllBare s'.gens) t := by
  have rel := vals_ints hints
  have len := hints.length
  generalize hS : scriptH K a { cls := .type "list", data := .seq vs.toArray } ns = S
  have only : Only S := hS ▸ scriptH_only
  have know : ∀ b u, S b = some u → b = a ∧ (K.lookup a).isNone = true ∧ u = .frz { cls := .type "list", data := .seq vs.toArray } (.lst (ns.map V.int)) := fun b u q => by
    rw [← hS] at q
    exact scriptH_some q
  have read : SqL K S a (ns.map V.int) := by
    cases q : K.lookup a with
    | none =>
      refine .inl (.inr ⟨{ cls := .type "list", data := .seq vs.toArray }, ?_⟩)
      rw [← hS]
      unfold scriptH
      rw [if_pos ⟨rfl, by rw [q]; rfl⟩]
    | some o =>
      have e := inK a o q
      rw [obj] at e
      cases e
      refine .inr ⟨_, vs.toArray, _, q, rfl, rfl, rfl, ?_, rel⟩
      rw [List.size_toArray, len]
      exact short
  have hok : HOk P w S t.heap := fun b u q => by
    obtain ⟨rfl, _, rfl⟩ := know b u q
    refine ⟨obj, ?_, vs, _, rel, obj⟩
    rw [List.length_map]
    exact short
  -- what is no list stands in the base
  have hid : ∀ {b : Addr} {o : Obj}, t.heap.get? b = some o → (b = a → (K.lookup a).isNone = true → False) → (hidT t.heap S).get? b = some o := fun {b o} q n => hidT_get q (by
    cases z : S b with
    | none => rfl
    | some u =>
      obtain ⟨e1, e2, _⟩ := know b u z
      exact (n e1 e2).elim)
  have ns_hid : ∀ {b : Addr} {m : Str → Option Value}, t.heap.Ns b m → (hidT t.heap S).Ns b m := fun {b m} q => by
    obtain ⟨o, es, ep, h1, h2, r⟩ := q
    refine ⟨o, es, ep, hid h1 (fun e _ => ?_), h2, r⟩
    subst e
    rw [obj] at h1
    cases h1
    cases h2
  have in_hid : K.In (hidT t.heap S) := fun b o q => hid (inK b o q) (fun e n => by
    subst e
    rw [q] at n
    cases n)
  have e0 : Env0 P w K mg (hidT t.heap S) callerA [] t S := by
    refine ⟨rfl, ⟨in_hid, ns_hid gl, ⟨mb, ns_hid bl, bl2⟩, ?_⟩, fun b o q => of_hidT q, Nat.le_of_eq (hidT_size _ _), trivial, fun b z => ?_, hok, .of_eq gens⟩
    · obtain ⟨mc, h1, h2⟩ := lim
      exact ⟨mc, ns_hid h1, h2⟩
    · cases z
  refine codeAny_mono ((F _ in_hid (ns_hid gl)).run callerA [] t S ⟨[.ref a], []⟩ [.ref a] [.ref a] _ _ rfl room e0 (bind t (.ref a)) (.cons rfl .nil) (want S only read)) fun r s' h => ?_
  match r, h with
  | .ok (.ret u), h =>
    obtain ⟨v, H', os, bare, un, hok', r', q⟩ := h
    obtain rfl : v = .bl true := q
    obtain rfl : u = Value.bool true := r'
    refine ⟨rfl, OldK.of_keep fun b o q => ?_, os, bare⟩
    cases z : S b with
    | none =>
      refine un.keep b o q z ?_ ?_
      · intro y
        cases y
      · intro y
        cases y
    | some u =>
      obtain ⟨_, _, rfl⟩ := know b u z
      obtain ⟨f1, _⟩ := hok b _ z
      obtain ⟨f2, _⟩ := hok' b _ (un.frzs b _ _ z)
      rw [q] at f1
      cases f1
      exact f2
  | .ok .next, h => exact h.elim
  | .ok .brk, h => exact h.elim
  | .ok .cont, h => exact h.elim
  | .error _, h => exact h.elim

/-- the goal of the head (case hc) -/
theorem walkG {l : PySem.W.OpenLaw} {n k : Nat} {q : Program} {loose : List Str} {XP : (Str → Option Value) → Heap → Prop} {YP : World → Heap → Prop} {d : DefRec} {K : Params → PySem.W.Frag} {sp : PySem.W.Frag → Sp} {x : Str}
    (hn : l.most = some n) (hn2 : n ≤ sizeLine) (hdf : d.params.defaults = []) (hr : Room k callerA) (hY : ∀ (w : World) (h : Heap), YP w h → (K w.params).In h)
    (F : ∀ (w : World) (mg : Str → Option Value) (fa : Addr) (h : Heap), (K w.params).In h → h.Ns mainGlobals mg → mg d.name = some (.ref fa) →
      ∃ fd : FuncData, (∀ (s : Shared) (u : Value), BindsTo s fd ⟨[u], []⟩ [(x, u)]) ∧
        ∀ base : Heap, (K w.params).In base → base.Ns mainGlobals mg → FnG l.prog w (K w.params) mg base k fa fd [x] (sp (K w.params)))
    (want : ∀ (K : PySem.W.Frag) (H : Hp) (a : Addr) (ns : List Int), ns.length ≤ n → Only H → SqL K H a (ns.map V.int) → sp K [.ref a] H (fun v _ => v = .bl true) fun _ _ _ => False) :
    PySem.W.WalkO q loose XP YP l.row.toRowW d [] (fun f vs => PySem.call f vs) := by
  refine Att.attach_call hn hdf fun w s₀ s₁ mg mb fa o pm cd doc a vs ns G Y ho hd hcd hmg hobj hints hlen hg => ?_
  obtain ⟨fd, hb, hF⟩ := F w mg fa _ (hY w _ Y) G.T.g hmg
  exact law_run (hY w _ Y) G.T.g G.T.b G.T.builtins G.T.nolimit hg hobj hints (Nat.le_trans hlen hn2) hr hF hb fun H h1 h2 => want _ H a ns hlen h1 h2
end Ow
namespace Ow
open PySem PySem.Spec PyProof.Rows L2
/-! ### names of the module -/
/-- the built-in names that the text leaves alone -/
structure Bl (mg : Str → Option Value) : Prop where
  len_ : mg "len" = none
  list_ : mg "list" = none
  range_ : mg "range" = none
  isinstance_ : mg "isinstance" = none
  all_ : mg "all" = none
  any_ : mg "any" = none
  tuple_ : mg "tuple" = none
  repr_ : mg "repr" = none
  zip_ : mg "zip" = none
  str_ : mg "str" = none
  bool_ : mg "bool" = none
  int_ : mg "int" = none
  set_ : mg "set" = none
  sum_ : mg "sum" = none
  max_ : mg "max" = none
  min_ : mg "min" = none
  dict_ : mg "dict" = none
  sorted_ : mg "sorted" = none
  enumerate_ : mg "enumerate" = none
/-- a module's constant -/
def GV (mg : Str → Option Value) (x : Str) (v : V) : Prop := ∃ u, mg x = some u ∧ RelV v u
theorem pe_gv {X : Cx} {x : Str} {v : V} {pos : Pos} (h : GV X.mg x v) (hg : Gl X x) (hd : (x == ("__debug__" : Str)) = false := by decide) : PE X (.Name x pos) (tC v) := by
  obtain ⟨u, hm, r⟩ := h
  exact pe_glob hg hm r hd

/-! ### the pen's mathematics -/
theorem cut_front (ns : List Int) (k : Nat) : cutV (ns.map V.int) none (some (k : Int)) = (ns.take (min k ns.length)).map V.int := by
  unfold cutV
  rw [HT.sIx_none, HT.sIx_nat, List.drop_zero, Nat.sub_zero, List.length_map, List.map_take]
theorem dp_ints (K : PySem.W.Frag) (H : Hp) : ∀ cs : List Int, DpAll K H (cs.map V.int) (cs.map PyData.int)
  | [] => .nil
  | c :: cs => .cons (.int c) (dp_ints K H cs)
theorem at_mod (cs : List Int) (z : Int) (h : 0 < cs.length) : ∃ v : Int, atI (cs.map V.int) (z % (cs.length : Int)) = some (.int v) := by
  have h1 : 0 ≤ z % (cs.length : Int) := Int.emod_nonneg _ (by omega)
  have h2 : z % (cs.length : Int) < cs.length := Int.emod_lt_of_pos _ (by omega)
  obtain ⟨j, hj⟩ : ∃ j : Nat, z % (cs.length : Int) = (j : Int) := ⟨(z % (cs.length : Int)).toNat, by omega⟩
  rw [hj] at h2 ⊢
  have h3 : j < cs.length := by omega
  refine ⟨cs[j], atI_nat ?_⟩
  rw [List.getElem?_map, List.getElem?_eq_getElem h3]
  rfl
/-! ### the pen's promises -/
def spPen (K : PySem.W.Frag) : Sp := fun vs H Q _ => ∃ (a : Addr) (ns : List Int), vs = [.ref a] ∧ SqL K H a (ns.map V.int) ∧ ns.length ≤ 63 ∧
  ∀ (p c : Addr) (H' : Hp), Pen H' p c → Same H H' → H p = none → H c = none → Q (.ref p) H'
def spFresh : Sp := fun vs H Q _ => ∃ (p c : Addr), vs = [.ref p] ∧ Pen H p c ∧ ∀ (n : Int) (H' : Hp), Pen H' p c → Kp p H H' → Q (.int n) H'
def spDraw : Sp := fun vs H Q _ => ∃ (p c : Addr) (b : Int), vs = [.ref p, .int b] ∧ Pen H p c ∧ 0 < b ∧ b < 1073741824 ∧
  ∀ (n : Int) (H' : Hp), 0 ≤ n → n < b → Pen H' p c → Kp p H H' → Q (.int n) H'
/-- a name: one to eight small letters -/
def Nm (x : Str) : Prop := 0 < x.cps.size ∧ x.cps.size ≤ 8 ∧ ∀ c ∈ x.cps.toList, 97 ≤ c ∧ c ≤ 122
def spName : Sp := fun vs H Q _ => ∃ (p c g : Addr) (gs : List Str), vs = [.ref p, .ref g] ∧ Pen H p c ∧ H g = some (.lst (gs.map V.str)) ∧ g ≠ p ∧ gs.length ≤ 600 ∧
  ∀ (x : Str) (H' : Hp), Nm x → Pen H' p c → Kp p H H' → Q (.str x) H'
end Ow
namespace Ow
open PySem PySem.Spec PyProof.Rows L2
theorem shaped_intsAll : ∀ cs : List Int, PyData.canLayAll0 (cs.map PyData.int) = true ∧ PyData.depthAll (cs.map PyData.int) ≤ 1
  | [] => by simp [PyData.canLayAll0, PyData.depthAll]
  | c :: cs => by
    obtain ⟨h1, h2⟩ := shaped_intsAll cs
    refine ⟨?_, ?_⟩
    · simp only [List.map_cons, PyData.canLayAll0, PyData.canLay0, h1, Bool.and_self]
    · simp only [List.map_cons, PyData.depthAll, PyData.depth]
      omega
theorem shaped_ints (cs : List Int) : SeqAt.shaped (.list (cs.map PyData.int)) = true := by
  obtain ⟨h1, h2⟩ := shaped_intsAll cs
  have h3 : (PyData.list (cs.map PyData.int)).depth ≤ 64 := by
    simp only [PyData.depth]
    omega
  unfold SeqAt.shaped
  rw [decide_eq_true h3, Bool.and_true]
  simp only [PyData.canLay0]
  exact h1
theorem shaped_nil : SeqAt.shaped (.list []) = true := shaped_ints []
theorem eqv_nil (cs : List Int) : PyData.eqv (.list (cs.map PyData.int)) (.list []) = cs.isEmpty := by
  cases cs with
  | nil => simp [PyData.eqv, PyData.eqvAll]
  | cons c cs => simp [PyData.eqv, PyData.eqvAll]
theorem le_line {n : Nat} (h : n ≤ 16000000) : n ≤ sizeLine := Nat.le_trans h (by decide)
theorem lt_line {n : Nat} (h : n ≤ 16000000) : n < sizeLine := Nat.lt_of_le_of_lt h (by decide)
end Ow
namespace Ow
open PySem PySem.Spec PyProof.Rows L2
/-! ### names' mathematics -/
abbrev abc : Str := Str.ofString "abcdefghijklmnopqrstuvwxyz"
theorem abc_list : abc.cps.toList = (List.range 26).map (97 + ·) := by decide +kernel
theorem abc_at {n : Int} (h0 : 0 ≤ n) (h1 : n < 26) : ∃ c : Nat, atI abc.cps.toList n = some c ∧ 97 ≤ c ∧ c ≤ 122 := by
  obtain ⟨j, rfl⟩ : ∃ j : Nat, n = (j : Int) := ⟨n.toNat, by omega⟩
  refine ⟨97 + j, atI_nat ?_, by omega, by omega⟩
  rw [abc_list, List.getElem?_map, List.getElem?_range (by omega)]
  rfl
theorem abc_len : abc.length ≤ sizeLine := by decide +kernel
/-- small letters alone, so many -/
def Lt (x : Str) (n : Nat) : Prop := x.cps.size = n ∧ ∀ c ∈ x.cps.toList, 97 ≤ c ∧ c ≤ 122
theorem lt_nil : Lt (Str.ofString "") 0 := ⟨by decide, fun c h => by
  have e : (Str.ofString "").cps.toList = [] := by decide
  rw [e] at h
  cases h⟩
theorem app_cps (x y : Str) : (x ++ y).cps.toList = x.cps.toList ++ y.cps.toList := by
  show (x.cps ++ y.cps).toList = _
  rw [Array.toList_append]
theorem Lt.app {x y : Str} {n m : Nat} (h : Lt x n) (k : Lt y m) : Lt (x ++ y) (n + m) := by
  refine ⟨?_, fun c hc => ?_⟩
  · show (x.cps ++ y.cps).size = _
    rw [Array.size_append, h.1, k.1]
  · rw [app_cps] at hc
    exact (List.mem_append.mp hc).elim (h.2 c) (k.2 c)
theorem lt_one {c : Nat} (h1 : 97 ≤ c) (h2 : c ≤ 122) : Lt ⟨#[c]⟩ 1 := ⟨rfl, fun d hd => by
  have e : d = c := by simpa using hd
  subst e
  exact ⟨h1, h2⟩⟩
theorem Lt.front {x : Str} {n : Nat} (h : Lt x n) (k : Nat) : ∃ m, m ≤ k ∧ Lt (cutS x none (some (k : Int))) m := by
  have e : (cutS x none (some (k : Int))).cps.toList = x.cps.toList.take (min k x.length) := by
    unfold cutS
    rw [HT.sIx_none, HT.sIx_nat, List.drop_zero, Nat.sub_zero]
  have z : (cutS x none (some (k : Int))).cps.size = (x.cps.toList.take (min k x.length)).length := by
    rw [← e, Array.length_toList]
  refine ⟨_, ?_, rfl, fun c hc => ?_⟩
  · rw [z, List.length_take]
    omega
  · rw [e] at hc
    exact h.2 c (List.mem_of_mem_take hc)
theorem Lt.nm {x : Str} {n : Nat} (h : Lt x n) (h0 : 0 < n) (h8 : n ≤ 8) : Nm x := ⟨by rw [h.1]; exact h0, by rw [h.1]; exact h8, h.2⟩
theorem Lt.len {x : Str} {n : Nat} (h : Lt x n) : x.length = n := h.1
end Ow

/-! Data of any kind beside a text: equal, in a tuple of texts. -/
namespace PySem.SeqAt
open AutoSeq1 (wpAny_loadPart')
open MeetsSeq
theorem str_no_dict (b : Str) (u : Tok) (l : Addr) (c : Value) (es : Array DictEntry) (n : Nat) (dd : Option Addr) (sl : Array (Option Value)) :
    Meets (Builtin.«str.__eq__» ⟨[.str b u, .ref l], []⟩) (fun _ R s => s.heap.get? l = some { cls := c, dict := dd, data := .dict es n, slots := sl } ∧ R (.ok (.ret .notImplemented)) s) :=
  .of_wp fun prog w A R s h => by
    obtain ⟨hp, g, d, tk, os⟩ := s
    obtain ⟨hl, h⟩ := h
    wp_walk using wpAny_loadPart' hl, wpAny_load hl
    exact ⟨_, rfl, h⟩
theorem dict_no_str (l : Addr) (es : Array DictEntry) (n : Nat) (dd : Option Addr) (sl : Array (Option Value)) (b : Str) (u : Tok) :
    Meets (Builtin.«dict.__eq__» ⟨[.ref l, .str b u], []⟩) (fun _ R s => s.heap.get? l = some { cls := .type "dict", dict := dd, data := .dict es n, slots := sl } ∧ R (.ok (.ret .notImplemented)) s) :=
  .of_wp fun prog w A R s h => by
    obtain ⟨hp, g, d, tk, os⟩ := s
    obtain ⟨hl, h⟩ := h
    have f1 : isSubtype (.type "str") (.type "dict") = pure false := by rw [isSubtype_type]; kernel_rfl
    wp_walk using wpAny_loadPart' hl, wpAny_load hl
    exact ⟨_, rfl, h⟩
section
variable {A : Around} {s : Shared}
theorem str_dict {l : Addr} {o : Obj} {es : Array DictEntry} {n : Nat} (b : Str) (u : Tok) (ho : s.heap.get? l = some o) (hc : o.cls = .type "dict") (hd : o.data = .dict es n) (hu : A.units < cLine) : EqAt A s (.str b u) (.ref l) false := fun prog w E Q h => by
  obtain ⟨cls, dd, data, sl⟩ := o
  simp only at hc hd
  subst hc hd
  unfold eqBool
  refine wpAny_holding ?_
  refine wpAny_ite_split (fun hab => absurd (eq_of_beq hab) nofun) (fun _ => ?_)
  refine wpAny_bind (rc_eq_decline_or (k := false) (typeIs_str s b u) ⟨_, ho, rfl⟩ (by decide) F.sub_dict_str F.slot_str_eq F.slot_dict_eq_refl ?_ ?_ ?_ (.inr hu) (wpAny_truthy_bool h))
  · exact fun _ hq => call_meets F.slot_str_eq (typeIs_str s b u) F.entry_str_eq (F.args_str_eq_2 _ _) (str_no_dict b u l (.type "dict") es n dd sl) ⟨ho, hq⟩
  · exact fun _ hq => call_meets F.slot_dict_eq_refl ⟨_, ho, rfl⟩ F.entry_dict_eq (F.args_dict_eq_2 _ _) (dict_no_str l es n dd sl b u) ⟨ho, hq⟩
  · exact fun _ hq => wpAny_of_eq (rfl : isSame (.str b u) (.ref l) = pure false) hq
end
end PySem.SeqAt
namespace Ow
open PySem PySem.Spec PyProof.Rows L2
/-- whether a text is among some, of any data -/
def memD (d : PyData) (zs : List Str) : Bool := match d with
  | .str z => decide (z ∈ zs)
  | _ => false
/-- the equality that such an item has with the data -/
def eqD (d : PyData) : Value → Bool
  | .str b _ => (match d with | .str z => decide (b = z) | _ => false)
  | _ => false
section
variable {X : Cx} {pins : List (Addr × Obj)} {σ : L2.St} {H : Hp} {s : Shared} {N : Addr → Prop}
/-- a text beside data -/
theorem eq_text (I : Inv X pins σ H s) {A : Around} (hu : A.units < cLine) {v : V} {d : PyData} (h : Da X.K N H v d) {u : Value} (r : RelV v u) (b : Str) (t : Tok) : SeqAt.EqAt A s (.str b t) u (eqD d (.str b t)) := by
  cases h with
  | non => cases r; exact .str_none b t
  | bl x => cases r; exact .str_bool b t x
  | int i =>
    obtain ⟨t2, rfl⟩ := r
    exact .str_int b t i t2
  | str x =>
    obtain ⟨t2, rfl⟩ := r
    have e := SeqAt.EqAt.str_str (A := A) (s := s) b t x t2
    have e2 : (b == x) = decide (b = x) := by
      by_cases z : b = x
      · subst z
        simp
      · rw [decide_eq_false z]
        exact beq_eq_false_iff_ne.mpr z
    rw [e2] at e
    exact e
  | lst h1 h2 h3 =>
    cases r
    obtain ⟨its, rv, ⟨o, n, ho, hc, _, hd⟩, _⟩ := I.list (SqL.of h1)
    exact .str_list b t ⟨o, ho, hc, n, hd⟩ hu
  | tup h1 h3 =>
    cases r
    obtain ⟨its, rv, ht, _⟩ := I.tuple h1
    exact .str_tuple b t ht hu
  | dct h1 h2 h3 =>
    cases r
    obtain ⟨_, hsys, vs, kv, o, es, ep, ho, hx, hd, _⟩ := I.hok _ _ h1
    exact SeqAt.str_dict b t ho hx.1 hd hu
/-- x in a tuple of texts, x not in it -/
def rInT (K : PySem.W.Frag) (neg : Bool) : R2 := fun x y H Q => ∃ (N : Addr → Prop) (t : Addr) (zs : List Str) (d : PyData), y = .ref t ∧ SqT K H t (zs.map V.str) ∧ Da K N H x d ∧ Q (.bl (if neg then !memD d zs else memD d zs)) H
theorem strs_of : ∀ {zs : List Str} {us : List Value}, Vals (zs.map V.str) us → ∀ y ∈ us, ∃ z t, z ∈ zs ∧ y = .str z t
  | [], _, r, y, h => by
    cases r
    cases h
  | z :: zs, _, r, y, h => by
    rw [List.map_cons] at r
    cases r with
    | cons r1 r2 =>
      rcases List.mem_cons.mp h with e | h
      · obtain ⟨t, q⟩ := r1
        exact ⟨z, t, List.mem_cons_self .., e.trans q⟩
      · obtain ⟨z', t, h1, h2⟩ := strs_of r2 y h
        exact ⟨z', t, List.mem_cons_of_mem _ h1, h2⟩
theorem any_strs (d : PyData) : ∀ {zs : List Str} {us : List Value}, Vals (zs.map V.str) us → us.any (eqD d) = memD d zs
  | [], _, r => by
    cases r
    cases d <;> rfl
  | z :: zs, _, r => by
    rw [List.map_cons] at r
    cases r with
    | cons r1 r2 =>
      obtain ⟨t, rfl⟩ := r1
      rw [List.any_cons, any_strs d r2]
      cases d with
      | str x =>
        show (decide (z = x) || decide (x ∈ zs)) = decide (x ∈ z :: zs)
        rw [← Bool.decide_or]
        exact decide_eq_decide.mpr ⟨fun e => e.elim (fun e => e ▸ List.mem_cons_self ..) (List.mem_cons_of_mem _), fun e => (List.mem_cons.mp e).imp Eq.symm id⟩
      | _ => rfl
theorem op_inT (hu : X.A.units + 64 < cLine) : OpR X (compareOp .In) (rInT X.K false) := by
  intro pins s σ H x y v u Q I rx ry h
  obtain ⟨p, t, zs, d, rfl, ht, hd, q⟩ := h
  cases ry
  obtain ⟨its, rv, hit, _⟩ := I.tuple ht
  refine SeqAt.in_tupleAt (eqD d) hit (fun y hy => ?_) ?_
  · obtain ⟨z, tk, _, rfl⟩ := strs_of rv y (by simpa using hy)
    exact eq_text I (A := X.A.in1) (by show X.A.units + 1 < cLine; omega) hd rx z tk
  · refine ⟨.bl _, H, I, ?_, q⟩
    show Value.bool _ = Value.bool _
    rw [← any_strs d rv]
    simp
theorem op_notInT (hu : X.A.units + 64 < cLine) : OpR X (compareOp .NotIn) (rInT X.K true) := by
  intro pins s σ H x y v u Q I rx ry h
  obtain ⟨p, t, zs, d, rfl, ht, hd, q⟩ := h
  cases ry
  obtain ⟨its, rv, hit, _⟩ := I.tuple ht
  refine SeqAt.notIn_tupleAt (eqD d) hit (fun y hy => ?_) ?_
  · obtain ⟨z, tk, _, rfl⟩ := strs_of rv y (by simpa using hy)
    exact eq_text I (A := X.A.in1) (by show X.A.units + 1 < cLine; omega) hd rx z tk
  · refine ⟨.bl _, H, I, ?_, q⟩
    show Value.bool _ = Value.bool _
    rw [← any_strs d rv]
    simp
/-! ### isinstance of data -/
def tyD : PyData → String
  | .none => "NoneType"
  | .bool _ => "bool"
  | .int _ => "int"
  | .str _ => "str"
  | .list _ => "list"
  | .tuple _ => "tuple"
  | .dict _ => "dict"
theorem Da.ty {K : PySem.W.Frag} {v : V} {d : PyData} (h : Da K N H v d) : TyX K H v (.type (tyD d)) := by
  cases h with
  | non => exact .base .non
  | bl b => exact .base (.bl b)
  | int i => exact .base (.int i)
  | str x => exact .base (.str x)
  | lst h1 _ _ => exact .base (.lst h1)
  | tup h1 _ =>
    rcases h1 with (h1 | ⟨o, h1⟩) | ⟨o, its, n, hk, hc, _⟩
    · exact .base (.tup h1)
    · exact .fTuple h1
    · exact .kTuple hk hc
  | dct h1 _ _ => exact .base (.dK h1)
/-- isinstance(x, T) of data, T one of the built-in types that laws ask for -/
def rIsD (K : PySem.W.Frag) : List V → Hp → VK → Prop := fun xs H Q => ∃ (N : Addr → Prop) (v : V) (d : PyData) (T : String), xs = [v, .ty T] ∧ Da K N H v d ∧ (T = "str" ∨ T = "tuple" ∨ T = "bool") ∧ Q (.bl (decide (tyD d = T))) H
theorem kit_all : ∀ t ∈ ["NoneType", "bool", "int", "str", "list", "tuple", "dict"], ∀ T ∈ ["str", "tuple", "bool"], kitB t T = some (decide (t = T)) := by decide +kernel
theorem kit_tyD (d : PyData) (T : String) (h : T = "str" ∨ T = "tuple" ∨ T = "bool") : kitB (tyD d) T = some (decide (tyD d = T)) := by
  refine kit_all _ ?_ _ ?_
  · cases d <;> simp [tyD]
  · simpa using h
theorem call_isD : CallR X (.builtin "isinstance") (rIsD X.K) := by
  intro pins s σ H xs us Q I r h
  obtain ⟨p, v, d, T, rfl, hd, hT, q⟩ := h
  exact call_isi pins s σ H _ us Q I r ⟨v, .ty T, _, _, _, rfl, .ty T, hd.ty, kit_ty (kit_tyD d T hT), q⟩
end
end Ow

/-! How large data is; what is a name, a kind. -/
namespace Ow
open PySem PySem.Spec PyProof.Rows L2
/-! ### sizes -/
structure FitAll (n m : Nat) (ds : List PyData) : Prop where
  sh : PyData.showableAll ds = true
  wt : wtAll ds ≤ n
  dp : PyData.depthAll ds ≤ m
section
variable {n m n' m' k : Nat} {d : PyData} {ds es : List PyData}
theorem FitAll.nil : FitAll n m [] := ⟨by rw [PyData.showableAll], by rw [wtAll]; exact Nat.zero_le _, by rw [PyData.depthAll]; exact Nat.zero_le _⟩
theorem FitAll.cons (f : Fit n m d) (g : FitAll n' m ds) : FitAll (n + 2 + n') m (d :: ds) := by
  refine ⟨?_, ?_, ?_⟩
  · rw [PyData.showableAll, f.sh, g.sh]
    rfl
  · rw [wtAll]
    have := f.wt
    have := g.wt
    omega
  · rw [PyData.depthAll]
    have := f.dp
    have := g.dp
    omega
theorem FitAll.le (f : FitAll n m ds) (h : n ≤ n') (k : m ≤ m') : FitAll n' m' ds := ⟨f.sh, Nat.le_trans f.wt h, Nat.le_trans f.dp k⟩
theorem FitAll.append : ∀ {ds : List PyData} {n : Nat}, FitAll n m ds → FitAll n' m es → FitAll (n + n') m (ds ++ es)
  | [], n, _, g => g.le (by omega) (Nat.le_refl _)
  | d :: ds, n, f, g => by
    have hs := f.sh
    rw [PyData.showableAll, Bool.and_eq_true] at hs
    have hw := f.wt
    rw [wtAll] at hw
    have hd := f.dp
    rw [PyData.depthAll] at hd
    have f1 : Fit (Ow.wt d) m d := ⟨hs.1, Nat.le_refl _, by omega⟩
    have f2 : FitAll (wtAll ds) m ds := ⟨hs.2, Nat.le_refl _, by omega⟩
    exact (FitAll.cons f1 (f2.append g)).le (by omega) (Nat.le_refl _)
theorem Fit.tup (f : FitAll n m ds) : Fit (n + 4) (m + 1) (.tuple ds) := by
  refine ⟨by rw [PyData.showable]; exact f.sh, ?_, ?_⟩
  · rw [Ow.wt]
    have := f.wt
    omega
  · rw [PyData.depth]
    have := f.dp
    omega
theorem Fit.lst (f : FitAll n m ds) : Fit (n + 4) (m + 1) (.list ds) := by
  refine ⟨by rw [PyData.showable]; exact f.sh, ?_, ?_⟩
  · rw [Ow.wt]
    have := f.wt
    omega
  · rw [PyData.depth]
    have := f.dp
    omega
theorem Fit.items (f : Fit n (m + 1) (.tuple ds)) : 4 ≤ n ∧ FitAll (n - 4) m ds := by
  have h1 := f.sh
  have h2 := f.wt
  have h3 := f.dp
  rw [PyData.showable] at h1
  rw [Ow.wt] at h2
  rw [PyData.depth] at h3
  exact ⟨by omega, h1, by omega, by omega⟩
theorem Fit.deep (f : Fit n m (.tuple ds)) : ∃ m', m = m' + 1 := by
  have h3 := f.dp
  rw [PyData.depth] at h3
  exact ⟨m - 1, by omega⟩
theorem FitAll.split (f : FitAll n m ds) (k : Nat) : ∃ a b, a + b ≤ n ∧ FitAll a m (ds.take k) ∧ FitAll b m (ds.drop k) := by
  induction k generalizing ds n with
  | zero => exact ⟨0, n, by omega, .nil, by simpa using f⟩
  | succ k ih =>
    cases ds with
    | nil => exact ⟨0, 0, by omega, .nil, .nil⟩
    | cons d ds =>
      have hs := f.sh
      rw [PyData.showableAll, Bool.and_eq_true] at hs
      have hw := f.wt
      rw [wtAll] at hw
      have hd := f.dp
      rw [PyData.depthAll] at hd
      have f1 : Fit (Ow.wt d) m d := ⟨hs.1, Nat.le_refl _, by omega⟩
      have f2 : FitAll (wtAll ds) m ds := ⟨hs.2, Nat.le_refl _, by omega⟩
      obtain ⟨a, b, hab, fa, fb⟩ := ih f2
      exact ⟨Ow.wt d + 2 + a, b, by omega, .cons f1 fa, fb⟩
theorem FitAll.get {i : Nat} (f : FitAll n m ds) (h : ds[i]? = some d) : ∃ a b c, a + b + 2 + c ≤ n ∧ FitAll a m (ds.take i) ∧ Fit b m d ∧ FitAll c m (ds.drop (i + 1)) := by
  obtain ⟨a, b, hab, fa, fb⟩ := f.split i
  obtain ⟨hi, e⟩ := List.getElem?_eq_some_iff.mp h
  have q : ds.drop i = d :: ds.drop (i + 1) := by
    rw [← e]
    exact List.drop_eq_getElem_cons hi
  rw [q] at fb
  have hs := fb.sh
  rw [PyData.showableAll, Bool.and_eq_true] at hs
  have hw := fb.wt
  rw [wtAll] at hw
  have hd := fb.dp
  rw [PyData.depthAll] at hd
  exact ⟨a, Ow.wt d, wtAll (ds.drop (i + 1)), by omega, fa, ⟨hs.1, Nat.le_refl _, by omega⟩, ⟨hs.2, Nat.le_refl _, by omega⟩⟩
theorem FitAll.rep (f : Fit n m d) : ∀ k : Nat, ∀ {ds : List PyData}, ds.length = k → (∀ e ∈ ds, Fit n m e) → FitAll (k * (n + 2)) m ds
  | 0, [], _, _ => .nil
  | k + 1, e :: ds, h, g => by
    have h2 := FitAll.rep f k (ds := ds) (by simpa using h) fun x hx => g x (List.mem_cons_of_mem _ hx)
    refine (FitAll.cons (g e (List.mem_cons_self ..)) h2).le ?_ (Nat.le_refl _)
    rw [Nat.succ_mul]
    omega
end
theorem fit_str {x : Str} {n : Nat} (hc : ∀ c ∈ x.cps.toList, c < 16 ^ 8) (hn : x.length ≤ n) : Fit (11 * n + 2) 0 (.str x) := by
  refine ⟨by rw [PyData.showable], ?_, ?_⟩
  · rw [Ow.wt]
    have := StrLaws.reprText_len x hc
    omega
  · simp only [PyData.depth]
    exact Nat.zero_le _
theorem fit_nm {x : Str} (h : Nm x) : Fit 90 0 (.str x) := (fit_str (n := 8) (fun c hc => by have := (h.2.2 c hc).2; omega) h.2.1).le (by decide) (Nat.le_refl _)
theorem fit_str_len {n m : Nat} {x : Str} (f : Fit n m (.str x)) : x.length ≤ n := by
  have h := f.wt
  rw [Ow.wt] at h
  omega
/-! ### a tuple beside the empty one -/
def rEqU (K : PySem.W.Frag) : R2 := fun x y H Q => ∃ (a b : Addr) (xs : List V), x = .ref a ∧ y = .ref b ∧ SqT K H a xs ∧ SqT K H b [] ∧ Q (.bl xs.isEmpty) H
theorem op_eqU {X : Cx} (hu : X.A.units + 64 < cLine) : OpR X (compareOp .Eq) (rEqU X.K) := by
  intro pins s σ H x y v u Q I rx ry h
  obtain ⟨a, b, xs, rfl, rfl, ha, hb, q⟩ := h
  cases rx
  cases ry
  obtain ⟨its, rv, hit, _⟩ := I.tuple ha
  obtain ⟨its2, rv2, hit2, _⟩ := I.tuple hb
  cases rv2
  refine SeqAt.eq_tupleAt (e := fun _ => true) hit hit2 (by omega) (fun j h1 h2 => ?_) ?_
  · exact absurd h2 (Nat.not_lt_zero _)
  · refine ⟨.bl _, H, I, ?_, q⟩
    show Value.bool _ = Value.bool _
    cases rv with
    | nil => rfl
    | cons _ _ => simp
/-! ### names and kinds, of any data -/
def isNameD : PyData → Bool
  | .str z => decide (1 ≤ z.length) && decide (z.length ≤ 8) && z.cps.toList.all fun c => decide (c ∈ abc.cps.toList)
  | _ => false
def isRowD (d : PyData) (a b : Int) : Bool := match d with
  | .tuple ds => decide (a ≤ ds.length) && decide ((ds.length : Int) ≤ b)
  | _ => false
abbrev signs2 : List Str := [Str.ofString ">", Str.ofString "*"]
/-- a kind of at most so many within one another -/
def kindW : Nat → PyData → Bool
  | 0, _ => false
  | n + 1, d => match d with
    | .str z => isNameD (.str z)
    | .tuple [s, a, b] => decide (n ≠ 0) && memD s signs2 && kindW n a && kindW n b
    | _ => false
/-- whether no function stands in a kind -/
def shownW : Nat → PyData → Bool
  | 0, _ => true
  | n + 1, d => match d with
    | .tuple [s, a, b] => !(memD s [Str.ofString ">"]) && shownW n a && shownW n b
    | _ => true
end Ow
namespace Ow
open PySem PySem.Spec PyProof.Rows L2
section
variable {K : PySem.W.Frag} {N : Addr → Prop} {H H' : Hp}
theorem sqT_same {a : Addr} {xs : List V} (k : Same H H') (h : SqT K H a xs) : SqT K H' a xs := by
  rcases h with (h | ⟨o, h⟩) | h
  · exact .inl (.inl (k _ _ h))
  · exact .inl (.inr ⟨o, k _ _ h⟩)
  · exact .inr h
mutual
theorem Da.same (k : Same H H') : ∀ {v : V} {d : PyData}, Da K N H v d → Da K N H' v d
  | _, _, .non => .non
  | _, _, .bl b => .bl b
  | _, _, .int i => .int i
  | _, _, .str x => .str x
  | _, _, .lst h ne r => .lst (k _ _ h) ne (DaAll.same k r)
  | _, _, .tup h r => .tup (sqT_same k h) (DaAll.same k r)
  | _, _, .dct h ne r => .dct (k _ _ h) ne (DaAll.same k r)
theorem DaAll.same (k : Same H H') : ∀ {vs : List V} {ds : List PyData}, DaAll K N H vs ds → DaAll K N H' vs ds
  | _, _, .nil => .nil
  | _, _, .cons a r => .cons (Da.same k a) (DaAll.same k r)
end
theorem Da.tupInv {v : V} {ds : List PyData} (h : Da K N H v (.tuple ds)) : ∃ a xs, v = .ref a ∧ SqT K H a xs ∧ DaAll K N H xs ds := by
  cases h with
  | tup h r => exact ⟨_, _, rfl, h, r⟩
theorem Da.strInv {v : V} {x : Str} (h : Da K N H v (.str x)) : v = .str x := by
  cases h
  rfl
theorem Da.tup3 {v : V} {s a b : PyData} (h : Da K N H v (.tuple [s, a, b])) : ∃ t x y z, v = .ref t ∧ SqT K H t [x, y, z] ∧ Da K N H x s ∧ Da K N H y a ∧ Da K N H z b := by
  obtain ⟨t, xs, rfl, h1, h2⟩ := h.tupInv
  cases h2 with
  | cons g1 h2 =>
    cases h2 with
    | cons g2 h2 =>
      cases h2 with
      | cons g3 h2 =>
        cases h2
        exact ⟨_, _, _, _, rfl, h1, g1, g2, g3⟩
end
theorem ty_str {d : PyData} (h : tyD d = "str") : ∃ x, d = .str x := by
  cases d <;> simp [tyD] at h ⊢
theorem ty_tup {d : PyData} (h : tyD d = "tuple") : ∃ ds, d = .tuple ds := by
  cases d <;> simp [tyD] at h ⊢
theorem row3 {d : PyData} (h : isRowD d 3 3 = true) : ∃ s a b, d = .tuple [s, a, b] := by
  cases d with
  | tuple ds =>
    simp only [isRowD, Bool.and_eq_true, decide_eq_true_eq] at h
    match ds, h with
    | [s, a, b], _ => exact ⟨s, a, b, rfl⟩
    | [], h => simp at h
    | [_], h => simp at h
    | [_, _], h => simp at h
    | _ :: _ :: _ :: _ :: _, h =>
      simp only [List.length_cons] at h
      omega
  | _ => simp [isRowD] at h
theorem kind_str (n : Nat) (x : Str) : kindW (n + 1) (.str x) = isNameD (.str x) := rfl
theorem kind_tup (n : Nat) (s a b : PyData) : kindW (n + 1) (.tuple [s, a, b]) = (decide (n ≠ 0) && memD s signs2 && kindW n a && kindW n b) := rfl
theorem kind_no {n : Nat} {d : PyData} (h : tyD d ≠ "str") (h2 : n = 0 ∨ isRowD d 3 3 = false) : kindW (n + 1) d = false := by
  cases d with
  | str x => exact absurd rfl h
  | tuple ds =>
    match ds with
    | [s, a, b] =>
      rw [kind_tup]
      rcases h2 with h2 | h2
      · rw [h2]
        rfl
      · simp [isRowD] at h2
    | [] => rfl
    | [_] => rfl
    | [_, _] => rfl
    | _ :: _ :: _ :: _ :: _ => rfl
  | _ => rfl
theorem fit3 {n m : Nat} {s a b : PyData} (f : Fit n m (.tuple [s, a, b])) : Fit n m s ∧ Fit n m a ∧ Fit n m b := by
  obtain ⟨m', rfl⟩ := f.deep
  obtain ⟨h4, g⟩ := f.items
  obtain ⟨_, _, _, _, _, g0, _⟩ := g.get (i := 0) rfl
  obtain ⟨_, _, _, _, _, g1, _⟩ := g.get (i := 1) rfl
  obtain ⟨_, _, _, _, _, g2, _⟩ := g.get (i := 2) rfl
  exact ⟨g0.le (by omega) (by omega), g1.le (by omega) (by omega), g2.le (by omega) (by omega)⟩
/-! ### what the program's and the law's own looks promise -/
def spIsRow (K : PySem.W.Frag) : Sp := fun vs H Q _ => ∃ (N : Addr → Prop) (v : V) (d : PyData) (a b : Int), vs = [v, .int a, .int b] ∧ Da K N H v d ∧ Q (.bl (isRowD d a b)) H
def spIsName (K : PySem.W.Frag) : Sp := fun vs H Q _ => ∃ (N : Addr → Prop) (v : V) (d : PyData) (n m : Nat), vs = [v] ∧ Da K N H v d ∧ Fit n m d ∧ n ≤ 16000000 ∧ ∀ H', Same H H' → Q (.bl (isNameD d)) H'
def spKindW (K : PySem.W.Frag) (k : Nat) : Sp := fun vs H Q _ => ∃ (N : Addr → Prop) (v : V) (d : PyData) (n m : Nat) (z : Int), vs = [v, .int z] ∧ z = (k : Int) ∧ 1 ≤ k ∧ Da K N H v d ∧ Fit n m d ∧ n ≤ 16000000 ∧ ∀ H', Same H H' → Q (.bl (kindW k d)) H'
def spKind (K : PySem.W.Frag) : Sp := fun vs H Q _ => ∃ (N : Addr → Prop) (v : V) (d : PyData) (n m : Nat), vs = [v] ∧ Da K N H v d ∧ Fit n m d ∧ n ≤ 16000000 ∧ ∀ H', Same H H' → Q (.bl (kindW 6 d)) H'
def spShown (K : PySem.W.Frag) (neg : Bool) (k : Nat) : Sp := fun vs H Q _ => ∃ (N : Addr → Prop) (v : V) (d : PyData), vs = [v] ∧ Da K N H v d ∧ kindW k d = true ∧ Q (.bl (if neg then !shownW k d else shownW k d)) H
end Ow

/-! Comprehensions whose element is plain. -/
namespace Ow
open PySem PySem.Spec PyProof.Rows L2
/-- what a comprehension over J asks: the new list at D -/
def LcG (J : It) (g : TG) (tt : TT) (te : TE) (vs : List Nat) (σ : L2.St) (H1 : Hp) (D : Addr) (Qd : Hp → Prop) : Prop :=
  ∃ W : Nat → Nat → Hp → Prop, (∃ m, W 0 m (upd H1 D (.lst []))) ∧
    ∀ i m H, W i m H → (J.stop i H ∧ Qd H) ∨ (J.go i H ∧ ∃ Nx : Hp → Prop, (∀ H', Nx H' → ∃ m', m' < m ∧ W (i + 1) m' H') ∧
      ∀ x H', J.yld i H x H' → g x (wipe σ vs) H' fun σ2 H2 => wipe σ2 vs = wipe σ vs ∧
        tt σ2 H2 fun b H3 => if b = true then te σ2 H3 fun y H4 => ∃ acc, H4 D = some (.lst acc) ∧ acc.length < sizeLine ∧ Nx (upd H4 D (.lst (acc ++ [y]))) else Nx H3)
section
variable {j : Nat} {te : TE} {vs : List Nat} {σ : L2.St} {H1 : Hp} {D : Addr} {Qd : Hp → Prop}
/-- over a text: each sign's value is f of its code -/
theorem lc_str_map {x : Str} (f : Nat → V) (hx : x.cps.size < sizeLine) (hw : ∀ v, wipe ((wipe σ vs).set j (some v)) vs = wipe σ vs)
    (hv : ∀ c ∈ x.cps.toList, ∀ (H2 : Hp) (Q : VK), Q (f c) H2 → te ((wipe σ vs).set j (some (.str ⟨#[c]⟩))) H2 Q)
    (hd : Qd (upd H1 D (.lst (x.cps.toList.map f)))) : LcG (Its x) (gName j) tYes te vs σ H1 D Qd := by
  refine ⟨fun i m H => m = x.cps.size - i ∧ i ≤ x.cps.size ∧ H = upd H1 D (.lst ((x.cps.toList.take i).map f)), ⟨_, rfl, Nat.zero_le _, rfl⟩, ?_⟩
  rintro i m H ⟨rfl, hi, rfl⟩
  by_cases hl : i < x.cps.size
  · refine .inr ⟨hl, fun H => H = upd H1 D (.lst ((x.cps.toList.take (i + 1)).map f)), fun H' e => ⟨x.cps.size - (i + 1), by omega, rfl, hl, e⟩, fun y H' z => ?_⟩
    obtain ⟨rfl, c, hc, rfl⟩ := z
    have hc2 : x.cps.toList[i]? = some c := by
      rw [Array.getElem?_toList]
      exact hc
    refine ⟨hw _, ?_⟩
    simp only [tYes, if_true]
    refine hv c (List.mem_of_getElem? hc2) _ _ ⟨_, upd_same, ?_, ?_⟩
    · rw [List.length_map, List.length_take]
      omega
    · rw [upd_upd, List.take_add_one, hc2, List.map_append]
      rfl
  · have e : i = x.cps.size := by omega
    subst e
    refine .inl ⟨Nat.le_refl _, ?_⟩
    rw [List.take_of_length_le (by simp)]
    exact hd
/-- over a list or a tuple that stays: each item's value is f of it -/
theorem lc_seq_map {K : PySem.W.Frag} {J : It} {xs : List V} (hJ : ∀ i H, (i < xs.length → Same H1 H → J.go i H) ∧ (xs.length ≤ i → Same H1 H → J.stop i H)) (hy : ∀ i H x H', Same H1 H → J.yld i H x H' → H' = H ∧ xs[i]? = some x)
    (hD : H1 D = none) (f : V → V) (hx : xs.length < sizeLine) (hw : ∀ v, wipe ((wipe σ vs).set j (some v)) vs = wipe σ vs)
    (hv : ∀ x ∈ xs, ∀ (H2 : Hp) (Q : VK), Same H1 H2 → Q (f x) H2 → te ((wipe σ vs).set j (some x)) H2 Q)
    (hd : Qd (upd H1 D (.lst (xs.map f)))) : LcG J (gName j) tYes te vs σ H1 D Qd := by
  refine ⟨fun i m H => m = xs.length - i ∧ i ≤ xs.length ∧ H = upd H1 D (.lst ((xs.take i).map f)), ⟨_, rfl, Nat.zero_le _, rfl⟩, ?_⟩
  rintro i m H ⟨rfl, hi, rfl⟩
  have sm : ∀ l, Same H1 (upd H1 D (.lst l)) := fun l => same_new hD
  by_cases hl : i < xs.length
  · refine .inr ⟨(hJ i _).1 hl (sm _), fun H => H = upd H1 D (.lst ((xs.take (i + 1)).map f)), fun H' e => ⟨xs.length - (i + 1), by omega, rfl, hl, e⟩, fun y H' z => ?_⟩
    obtain ⟨rfl, hc⟩ := hy i _ y H' (sm _) z
    refine ⟨hw _, ?_⟩
    simp only [tYes, if_true]
    refine hv y (List.mem_of_getElem? hc) _ _ (sm _) ⟨_, upd_same, ?_, ?_⟩
    · rw [List.length_map, List.length_take]
      omega
    · rw [upd_upd, List.take_add_one, hc, List.map_append]
      rfl
  · have e : i = xs.length := by omega
    subst e
    refine .inl ⟨(hJ _ _).2 (Nat.le_refl _) (sm _), ?_⟩
    rw [List.take_of_length_le (Nat.le_refl _)]
    exact hd
end
end Ow
namespace Ow
open PySem PySem.Spec PyProof.Rows L2
theorem kind_cases {n : Nat} {d : PyData} (h : kindW n d = true) : (∃ x, d = .str x) ∨ ∃ (m : Nat) (sg : Str) (a b : PyData), n = m + 1 ∧ d = .tuple [.str sg, a, b] ∧ sg ∈ signs2 ∧ kindW m a = true ∧ kindW m b = true := by
  cases n with
  | zero => cases h
  | succ n =>
    by_cases ht : tyD d = "str"
    · exact .inl (ty_str ht)
    · cases hr : isRowD d 3 3 with
      | false =>
        rw [kind_no ht (.inr hr)] at h
        cases h
      | true =>
        obtain ⟨s, a, b, rfl⟩ := row3 hr
        rw [kind_tup] at h
        simp only [Bool.and_eq_true] at h
        obtain ⟨⟨⟨_, h2⟩, h3⟩, h4⟩ := h
        cases s with
        | str sg => exact .inr ⟨n, sg, a, b, rfl, rfl, of_decide_eq_true h2, h3, h4⟩
        | _ => cases h2
theorem shown_str (n : Nat) (x : Str) : shownW n (.str x) = true := by cases n <;> rfl
theorem shown_tup (n : Nat) (s a b : PyData) : shownW (n + 1) (.tuple [s, a, b]) = (!(memD s [Str.ofString ">"]) && shownW n a && shownW n b) := rfl
theorem mem_one (sg z : Str) : memD (.str sg) [z] = decide (sg = z) := by
  show decide (sg ∈ [z]) = _
  simp
end Ow
namespace Ow
open PySem PySem.Spec PyProof.Rows L2
/-! ### what the drawing defs promise -/
def bAny : Nat → Nat
  | 0 => 60
  | n + 1 => 5 * (bAny n + 2) + 20
theorem bAny_ge : ∀ n : Nat, 60 ≤ bAny n
  | 0 => Nat.le_refl _
  | n + 1 => by
    have := bAny_ge n
    show 60 ≤ 5 * (bAny n + 2) + 20
    omega
def spAny (K : PySem.W.Frag) (k : Nat) : Sp := fun vs H Q _ => ∃ (p c : Addr) (z : Int), vs = [.ref p, .int z] ∧ z = (k : Int) ∧ k ≤ 4 ∧ Pen H p c ∧
  ∀ (v : V) (d : PyData) (H' : Hp), Da K (Tk H) H' v d → Fit (bAny k) (2 * k) d → Pen H' p c → Kp p H H' → Q v H'
abbrev anyList : List V := [.int 0, .bl true, .non, .str "", .str "x", .str "^", .str "Ab", .str "x1", .int (-(10 ^ (39 : Int).toNat)), .str "abcdefghi"]
theorem fit_of {d : PyData} (h : (d.showable && decide (wt d ≤ 60) && decide (d.depth ≤ 0)) = true) : Fit 60 0 d := by
  simp only [Bool.and_eq_true, decide_eq_true_eq] at h
  exact ⟨h.1.1, h.1.2, h.2⟩
theorem any_at {n : Int} (h0 : 0 ≤ n) (h1 : n < 10) : ∃ (v : V) (d : PyData), atI anyList n = some v ∧ (∀ K N H, Da K N H v d) ∧ Fit 60 0 d := by
  have : n = 0 ∨ n = 1 ∨ n = 2 ∨ n = 3 ∨ n = 4 ∨ n = 5 ∨ n = 6 ∨ n = 7 ∨ n = 8 ∨ n = 9 := by omega
  rcases this with rfl | rfl | rfl | rfl | rfl | rfl | rfl | rfl | rfl | rfl
  · exact ⟨_, _, rfl, fun _ _ _ => .int _, fit_of (by decide +kernel)⟩
  · exact ⟨_, _, rfl, fun _ _ _ => .bl _, fit_of (by decide +kernel)⟩
  · exact ⟨_, _, rfl, fun _ _ _ => .non, fit_of (by decide +kernel)⟩
  · exact ⟨_, _, rfl, fun _ _ _ => .str _, fit_of (by decide +kernel)⟩
  · exact ⟨_, _, rfl, fun _ _ _ => .str _, fit_of (by decide +kernel)⟩
  · exact ⟨_, _, rfl, fun _ _ _ => .str _, fit_of (by decide +kernel)⟩
  · exact ⟨_, _, rfl, fun _ _ _ => .str _, fit_of (by decide +kernel)⟩
  · exact ⟨_, _, rfl, fun _ _ _ => .str _, fit_of (by decide +kernel)⟩
  · exact ⟨_, _, rfl, fun _ _ _ => .int _, fit_of (by decide +kernel)⟩
  · exact ⟨_, _, rfl, fun _ _ _ => .str _, fit_of (by decide +kernel)⟩
section
variable {K : PySem.W.Frag} {N : Addr → Prop} {H H' : Hp}
theorem Da.put {D : Addr} {o o' : HO} {v : V} {d : PyData} (h : Da K N H v d) (hD : H D = some o) (ht : ∀ xs, o ≠ .tup xs) (hf : ∀ ob u, o ≠ .frz ob u) (hN : N D) : Da K N (upd H D o') v d :=
  h.kp (p := D) Kp.self (fun xs r => by
    rcases r with r | ⟨ob, r⟩
    · rw [hD] at r
      exact ht _ (Option.some.inj r)
    · rw [hD] at r
      exact hf _ _ (Option.some.inj r)) hN
theorem DaAll.put {D : Addr} {o o' : HO} {vs : List V} {ds : List PyData} (h : DaAll K N H vs ds) (hD : H D = some o) (ht : ∀ xs, o ≠ .tup xs) (hf : ∀ ob u, o ≠ .frz ob u) (hN : N D) : DaAll K N (upd H D o') vs ds :=
  h.kp (p := D) Kp.self (fun xs r => by
    rcases r with r | ⟨ob, r⟩
    · rw [hD] at r
      exact ht _ (Option.some.inj r)
    · rw [hD] at r
      exact hf _ _ (Option.some.inj r)) hN
end
theorem Pen.keepTk {H H0 : Hp} {p c D : Addr} {o : HO} (h : Pen H p c) (h0 : Pen H0 p c) (hD : H0 D = none) : Pen (upd H D o) p c := h.keep (h0.neP hD) (h0.neC hD)
end Ow
namespace Ow
open PySem PySem.Spec PyProof.Rows L2
/-- data without lists and dicts avoids all -/
abbrev All : Addr → Prop := fun _ => True
def bKind : Nat → Nat
  | 0 => 90
  | n + 1 => 2 * (bKind n + 2) + 12
def spRough (K : PySem.W.Frag) (k : Nat) : Sp := fun vs H Q _ => ∃ (p c : Addr) (z : Int), vs = [.ref p, .int z] ∧ z = (k : Int) ∧ k ≤ 6 ∧ Pen H p c ∧
  ∀ (v : V) (d : PyData) (H' : Hp), Da K All H' v d → Fit (bKind k) k d → Pen H' p c → Kp p H H' → Q v H'
theorem bKind_ge : ∀ n : Nat, 90 ≤ bKind n
  | 0 => Nat.le_refl _
  | n + 1 => by
    have := bKind_ge n
    show 90 ≤ 2 * (bKind n + 2) + 12
    omega
theorem fit_sign {x : Str} (h : wt (.str x) ≤ 4) : Fit 4 0 (.str x) := ⟨by rw [PyData.showable], h, by simp only [PyData.depth]; exact Nat.zero_le _⟩
abbrev signs3 : List V := [.str ">", .str "*"]
theorem sign_at {n : Int} (h0 : 0 ≤ n) (h1 : n < 2) : ∃ x : Str, atI signs3 n = some (.str x) ∧ Fit 4 0 (.str x) ∧ x ∈ signs2 := by
  have : n = 0 ∨ n = 1 := by omega
  rcases this with rfl | rfl
  · exact ⟨_, rfl, fit_sign (by decide +kernel), by simp⟩
  · exact ⟨_, rfl, fit_sign (by decide +kernel), by simp⟩
end Ow
namespace Ow
open PySem PySem.Spec PyProof.Rows L2
def spSpoil (K : PySem.W.Frag) (k : Nat) : Sp := fun vs H Q _ => ∃ (p c : Addr) (v : V) (d : PyData) (z : Int) (n m : Nat), vs = [.ref p, v, .int z] ∧ z = (k : Int) ∧ k ≤ 8 ∧ Pen H p c ∧ Da K All H v d ∧ Fit n m d ∧ n ≤ 4000000 ∧
  ∀ (v' : V) (d' : PyData) (H' : Hp), Da K (Tk H) H' v' d' → Fit (2 * n + 1800) (m + 8) d' → Pen H' p c → Kp p H H' → Q v' H'
section
variable {K : PySem.W.Frag} {H : Hp} {Q : VK} {a b : Addr} {xs ys : List V}
theorem cat_any (ha : SqT K H a xs) (hb : SqT K H b ys) (hl : xs.length + ys.length ≤ sizeLine) (k : ∀ t H', Same H H' → SqT K H' t (xs ++ ys) → Q (.ref t) H') : rCatA K (.ref a) (.ref b) H Q := by
  refine ⟨a, b, xs, ys, rfl, rfl, ha, hb, hl, fun e => ?_, fun _ e => ?_, fun _ _ p hp => ?_⟩
  · exact k b H (Same.refl H) (by rw [e, List.nil_append]; exact hb)
  · exact k a H (Same.refl H) (by rw [e, List.append_nil]; exact ha)
  · exact k p _ (same_new hp) (SqT.of upd_same)
theorem cut_any {lo hi : Option Int} (ha : SqT K H a xs) (k : ∀ t H', Same H H' → SqT K H' t (cutV xs lo hi) → Q (.ref t) H') : rSlA K (.ref a) lo hi H Q := by
  refine ⟨a, xs, rfl, ha, fun e => ?_, fun _ p hp => ?_⟩
  · refine k a H (Same.refl H) ?_
    have z : cutV xs lo hi = xs := by
      unfold cutV
      rw [e.1, e.2]
      simp
    rw [z]
    exact ha
  · exact k p _ (same_new hp) (SqT.of upd_same)
theorem cut_take (xs : List V) (k : Nat) : cutV xs none (some (k : Int)) = xs.take k := by
  unfold cutV
  rw [HT.sIx_none, HT.sIx_nat, List.drop_zero, Nat.sub_zero]
  by_cases h : k ≤ xs.length
  · rw [Nat.min_eq_left h]
  · rw [Nat.min_eq_right (by omega), List.take_of_length_le (Nat.le_refl _), List.take_of_length_le (by omega)]
theorem cut_drop (xs : List V) (k : Nat) : cutV xs (some (k : Int)) none = xs.drop k := by
  unfold cutV
  rw [HT.sIx_none, HT.sIx_nat]
  by_cases h : k ≤ xs.length
  · rw [Nat.min_eq_left h, List.take_of_length_le (by rw [List.length_drop]; exact Nat.le_refl _)]
  · rw [Nat.min_eq_right (by omega), Nat.sub_self, List.take_zero, List.drop_eq_nil_of_le (by omega)]
end
end Ow
namespace Ow
open PySem PySem.Spec PyProof.Rows L2
theorem len_wt : ∀ ds : List PyData, ds.length ≤ wtAll ds
  | [] => Nat.zero_le _
  | d :: ds => by
    have := len_wt ds
    rw [wtAll, List.length_cons]
    omega
theorem Kp.same {p : Addr} {H H1 H2 : Hp} (a : Kp p H H1) (s : Same H1 H2) : Kp p H H2 := a.trans (Kp.of s)
end Ow
namespace Ow
open PySem PySem.Spec PyProof.Rows L2
def spChain (K : PySem.W.Frag) : Sp := fun vs H Q _ => ∃ (p c : Addr) (z : Int), vs = [.ref p, .int z] ∧ 1 ≤ z ∧ z ≤ 7 ∧ Pen H p c ∧
  ∀ (v : V) (d : PyData) (H' : Hp), Da K All H' v d → Fit 2000 10 d → Pen H' p c → Kp p H H' → Q v H'
/-- the script is handed in, True comes out -/
def spLaw (K : PySem.W.Frag) : Sp := fun vs H Q _ => ∃ (a : Addr) (ns : List Int), vs = [.ref a] ∧ SqL K H a (ns.map V.int) ∧ ns.length ≤ 63 ∧ ∀ H', Q (.bl true) H'
abbrev signs4 : List V := [.str ">", .str "*", .str "*"]
theorem sign_at3 {n : Int} (h0 : 0 ≤ n) (h1 : n < 3) : ∃ x : Str, atI signs4 n = some (.str x) ∧ Fit 4 0 (.str x) := by
  have : n = 0 ∨ n = 1 ∨ n = 2 := by omega
  rcases this with rfl | rfl | rfl
  · exact ⟨_, rfl, fit_sign (by decide +kernel)⟩
  · exact ⟨_, rfl, fit_sign (by decide +kernel)⟩
  · exact ⟨_, rfl, fit_sign (by decide +kernel)⟩
abbrev tails7 : List V := [.str "", .str "a", .str "A", .str "_", .str " ", .str "1", .str "7"]
/-- a short text of small codes -/
def Sm (x : Str) (n : Nat) : Prop := x.length ≤ n ∧ ∀ c ∈ x.cps.toList, c < 16 ^ 8
theorem sm_of {x : Str} {n : Nat} (h : (decide (x.length ≤ n) && x.cps.toList.all fun c => decide (c < 16 ^ 8)) = true) : Sm x n := by
  simp only [Bool.and_eq_true, decide_eq_true_eq, List.all_eq_true] at h
  exact h
theorem tail_at {n : Int} (h0 : 0 ≤ n) (h1 : n < 7) : ∃ x : Str, atI tails7 n = some (.str x) ∧ Sm x 1 := by
  have : n = 0 ∨ n = 1 ∨ n = 2 ∨ n = 3 ∨ n = 4 ∨ n = 5 ∨ n = 6 := by omega
  rcases this with rfl | rfl | rfl | rfl | rfl | rfl | rfl <;> exact ⟨_, rfl, sm_of (by decide +kernel)⟩
theorem Nm.sm {x : Str} (h : Nm x) : Sm x 8 := ⟨h.2.1, fun c hc => by have := (h.2.2 c hc).2; omega⟩
theorem Sm.app {x y : Str} {n m : Nat} (h : Sm x n) (k : Sm y m) : Sm (x ++ y) (n + m) := by
  refine ⟨?_, fun c hc => ?_⟩
  · have := h.1
    have := k.1
    rw [strLen_append]
    omega
  · rw [app_cps] at hc
    exact (List.mem_append.mp hc).elim (h.2 c) (k.2 c)
theorem Sm.fit {x : Str} {n : Nat} (h : Sm x n) : Fit (11 * n + 2) 0 (.str x) := fit_str h.2 h.1
end Ow
namespace Ow
open PySem PySem.Spec PyProof.Rows L2
/-- two truths beside one another -/
def spTruth : Sp := fun vs H Q _ => ∃ a b : Bool, vs = [.bl a, .bl b] ∧ Q (.bl (decide (a = b))) H
theorem room_un {n k : Nat} (h : n + 16 * k + 200 < cLine) : n + 151 < cLine := by omega
end Ow
namespace Ow
open PySem PySem.Spec PyProof.Rows L2
section
variable {K : PySem.W.Frag} {mg : Str → Option Value} {h : Heap} {x : Str} {st : Stmt} {ps : List Str} {f : Addr} {od an : Option Addr} {sl : Array (Option Value)} {oc kV dc pm cd ct : Value}
theorem defAt_mk (X : K.In h) (G : h.Ns mainGlobals mg) (a : PySem.W.nsIn K mainGlobals x = some (some (.ref f)))
    (l : K.lookup f = some ⟨oc, od, .func (PySem.W.fnOf x x (defArgs st) (defBody st) (defScope st) .none kV dc pm an cd ct), sl⟩) (c : PySem.W.codeIn K cd x = true) (k : PySem.W.keepIn K (.ref f) = true)
    (hb : ∀ (kV doc pm : Value) (an : Option Addr) (cdv ct : Value) (us : List Value), us.length = ps.length → bindArgs (PySem.W.fnOf x x (defArgs st) (defBody st) (defScope st) .none kV doc pm an cdv ct) ⟨us, []⟩ = pure (ps.zip us)) : DefAt K mg x st ps :=
  ⟨f, _, fun_mk l c k, PySem.W.mg_of X G a, (fun_mk (st := st) l c k).binds hb⟩
theorem lawAt_mk {fa : Addr} {y : Str} (X : K.In h) (G : h.Ns mainGlobals mg) (hmg : mg x = some (.ref fa)) (a : PySem.W.nsIn K mainGlobals x = some (some (.ref f)))
    (l : K.lookup f = some ⟨oc, od, .func (PySem.W.fnOf x x (defArgs st) (defBody st) (defScope st) .none kV dc pm an cd ct), sl⟩) (c : PySem.W.codeIn K cd x = true) (k : PySem.W.keepIn K (.ref f) = true)
    (hb : ∀ (s : Shared) (u : Value), BindsTo s (PySem.W.fnOf x x (defArgs st) (defBody st) (defScope st) .none kV dc pm an cd ct) ⟨[u], []⟩ [(y, u)]) :
    ∃ fd, Fun K x x st fa fd ∧ ∀ (s : Shared) (u : Value), BindsTo s fd ⟨[u], []⟩ [(y, u)] := by
  have e := hmg.symm.trans (PySem.W.mg_of X G a)
  injection e with e
  injection e with e
  subst e
  exact ⟨_, fun_mk l c k, hb⟩
theorem gv_mk {v : V} {u : Value} (X : K.In h) (G : h.Ns mainGlobals mg) (a : PySem.W.nsIn K mainGlobals x = some (some u)) (r : RelV v u) : GV mg x v := ⟨u, PySem.W.mg_of X G a, r⟩
end
end Ow

/-! Drawn terms: their shape, their size. -/
namespace Ow
open PySem PySem.Spec PyProof.Rows L2
abbrev strD (x : Str) : PyData := .str x
/-- the shape of a term, by how many are within one another at most -/
inductive Tm : Nat → PyData → Prop
  | name (n : Nat) (x : Str) : Tm (n + 1) (.str x)
  | at (n : Nat) (f : Str) : Tm (n + 1) (.tuple [.str (Str.ofString "@"), .str f])
  | lam {n : Nat} (x : Str) (k : PyData) {t : PyData} : Tm n t → Tm (n + 1) (.tuple [.str (Str.ofString "^"), .str x, k, t])
  | two {n : Nat} (s : Str) {t u : PyData} : s ∈ [Str.ofString "!", Str.ofString "&", Str.ofString "-"] → Tm n t → Tm n u → Tm (n + 1) (.tuple [.str s, t, u])
  | five {n : Nat} (s x y : Str) {t u : PyData} : s ∈ [Str.ofString "/", Str.ofString "+"] → Tm n t → Tm n u → Tm (n + 1) (.tuple [.str s, t, .str x, .str y, u])
  | mk {n : Nat} (c : Str) (ts : List PyData) : (∀ t ∈ ts, Tm n t) → Tm (n + 1) (.tuple [.str (Str.ofString "#"), .str c, .tuple ts])
  | ch {n : Nat} {t : PyData} (cs : List (Str × List Str × PyData)) : Tm n t → (∀ c ∈ cs, Tm n c.2.2) →
      Tm (n + 1) (.tuple [.str (Str.ofString "?"), t, .tuple (cs.map fun c => .tuple [.str c.1, .tuple (c.2.1.map strD), c.2.2])])
theorem Tm.up : ∀ {n : Nat} {d : PyData}, Tm n d → ∀ {m : Nat}, n ≤ m → Tm m d
  | _, _, .name n x, m, h => by
    obtain ⟨m, rfl⟩ : ∃ k, m = k + 1 := ⟨m - 1, by omega⟩
    exact .name m x
  | _, _, .at n x, m, h => by
    obtain ⟨m, rfl⟩ : ∃ k, m = k + 1 := ⟨m - 1, by omega⟩
    exact .at m x
  | _, _, .lam x k t, m, h => by
    obtain ⟨m, rfl⟩ : ∃ k, m = k + 1 := ⟨m - 1, by omega⟩
    exact .lam x k (t.up (by omega))
  | _, _, .two s hs t u, m, h => by
    obtain ⟨m, rfl⟩ : ∃ k, m = k + 1 := ⟨m - 1, by omega⟩
    exact .two s hs (t.up (by omega)) (u.up (by omega))
  | _, _, .five s x y hs t u, m, h => by
    obtain ⟨m, rfl⟩ : ∃ k, m = k + 1 := ⟨m - 1, by omega⟩
    exact .five s x y hs (t.up (by omega)) (u.up (by omega))
  | _, _, .mk c ts ht, m, h => by
    obtain ⟨m, rfl⟩ : ∃ k, m = k + 1 := ⟨m - 1, by omega⟩
    exact .mk c ts fun t z => (ht t z).up (by omega)
  | _, _, .ch cs t hc, m, h => by
    obtain ⟨m, rfl⟩ : ∃ k, m = k + 1 := ⟨m - 1, by omega⟩
    exact .ch cs (t.up (by omega)) fun c z => (hc c z).up (by omega)
def bT : Nat → Nat
  | 0 => 110
  | n + 1 => 4 * bT n + 1700
theorem bT_ge : ∀ n : Nat, 110 ≤ bT n
  | 0 => Nat.le_refl _
  | n + 1 => by
    have := bT_ge n
    show 110 ≤ 4 * bT n + 1700
    omega
def spFew : Sp := fun vs H Q _ => ∃ (p c : Addr), vs = [.ref p] ∧ Pen H p c ∧ ∀ (x : Str) (H' : Hp), Nm x → Pen H' p c → Kp p H H' → Q (.str x) H'
def spRow (K : PySem.W.Frag) : Sp := fun vs H Q _ => ∃ (p c : Addr) (z : Int), vs = [.ref p, .int z] ∧ 0 ≤ z ∧ z ≤ 4 ∧ Pen H p c ∧
  ∀ (t : Addr) (xs : List Str) (H' : Hp), SqT K H' t (xs.map V.str) → (xs.length : Int) = z → (∀ x ∈ xs, Nm x) → Pen H' p c → Kp p H H' → Q (.ref t) H'
def spRoughT (K : PySem.W.Frag) (k : Nat) : Sp := fun vs H Q _ => ∃ (p c : Addr) (z : Int), vs = [.ref p, .int z] ∧ z ≤ (k : Int) ∧ k ≤ 6 ∧ Pen H p c ∧
  ∀ (v : V) (d : PyData) (H' : Hp), Da K All H' v d → Fit (bT k) (3 * k + 2) d → Tm (k + 1) d → Pen H' p c → Kp p H H' → Q v H'
abbrev few3 : List Str := [Str.ofString "x", Str.ofString "y", Str.ofString "xy"]
theorem nm_of {x : Str} (h : (decide (0 < x.cps.size) && decide (x.cps.size ≤ 8) && x.cps.toList.all fun c => decide (97 ≤ c) && decide (c ≤ 122)) = true) : Nm x := by
  simp only [Bool.and_eq_true, decide_eq_true_eq, List.all_eq_true] at h
  exact ⟨h.1.1, h.1.2, h.2⟩
theorem nm_few : ∀ x ∈ few3, Nm x := by
  intro x h
  simp only [List.mem_cons, List.not_mem_nil, or_false] at h
  rcases h with rfl | rfl | rfl
  · exact nm_of (by decide +kernel)
  · exact nm_of (by decide +kernel)
  · exact nm_of (by decide +kernel)
theorem few_at {y : Str} (hy : Nm y) {n : Int} (h0 : 0 ≤ n) (h1 : n < 4) : ∃ x : Str, atI [V.str "x", .str "y", .str "xy", .str y] n = some (.str x) ∧ Nm x := by
  have : n = 0 ∨ n = 1 ∨ n = 2 ∨ n = 3 := by omega
  rcases this with rfl | rfl | rfl | rfl
  · exact ⟨_, rfl, nm_few _ (by simp)⟩
  · exact ⟨_, rfl, nm_few _ (by simp)⟩
  · exact ⟨_, rfl, nm_few _ (by simp)⟩
  · exact ⟨_, rfl, hy⟩
theorem fit_names : ∀ {xs : List Str}, (∀ x ∈ xs, Nm x) → FitAll (92 * xs.length) 0 (xs.map strD)
  | [], _ => .nil
  | x :: xs, h => by
    have g := fit_names (xs := xs) fun y hy => h y (List.mem_cons_of_mem _ hy)
    refine (FitAll.cons (fit_nm (h x (List.mem_cons_self ..))) g).le ?_ (Nat.le_refl _)
    rw [List.length_cons]
    omega
theorem da_names {K : PySem.W.Frag} {N : Addr → Prop} {H : Hp} : ∀ xs : List Str, DaAll K N H (xs.map V.str) (xs.map strD)
  | [] => .nil
  | x :: xs => .cons (.str x) (da_names xs)
abbrev tri : List V := [.str "!", .str "&", .str "-"]
theorem tri_at {n : Int} (h0 : 0 ≤ n) (h1 : n < 3) : ∃ x : Str, atI tri n = some (.str x) ∧ Fit 4 0 (.str x) ∧ x ∈ [Str.ofString "!", Str.ofString "&", Str.ofString "-"] := by
  have : n = 0 ∨ n = 1 ∨ n = 2 := by omega
  rcases this with rfl | rfl | rfl
  · exact ⟨_, rfl, fit_sign (by decide +kernel), by simp⟩
  · exact ⟨_, rfl, fit_sign (by decide +kernel), by simp⟩
  · exact ⟨_, rfl, fit_sign (by decide +kernel), by simp⟩
abbrev duo : List V := [.str "/", .str "+"]
theorem duo_at {n : Int} (h0 : 0 ≤ n) (h1 : n < 2) : ∃ x : Str, atI duo n = some (.str x) ∧ Fit 4 0 (.str x) ∧ x ∈ [Str.ofString "/", Str.ofString "+"] := by
  have : n = 0 ∨ n = 1 := by omega
  rcases this with rfl | rfl
  · exact ⟨_, rfl, fit_sign (by decide +kernel), by simp⟩
  · exact ⟨_, rfl, fit_sign (by decide +kernel), by simp⟩
end Ow

/-! What stands within a term, in the order of its text. -/
namespace Ow
open PySem PySem.Spec PyProof.Rows L2
abbrev sg (x : String) : Str := Str.ofString x
def nmD : PyData → Str
  | .str x => x
  | _ => sg ""
def itD : PyData → List PyData
  | .tuple ds => ds
  | _ => []
def caseD : PyData → List Str × PyData
  | .tuple [_, ns, u] => ((itD ns).map nmD, u)
  | c => ([], c)
def kids : PyData → List (List Str × PyData)
  | .tuple [.str s, a, b] => if s = sg "#" then (itD b).map (fun t => ([], t)) else if s = sg "?" then ([], a) :: (itD b).map caseD else [([], a), ([], b)]
  | .tuple [.str _, x, _, t] => [([nmD x], t)]
  | .tuple [.str _, t, x, y, u] => [([], t), ([nmD x, nmD y], u)]
  | _ => []
theorem nm_map (xs : List Str) : (xs.map strD).map nmD = xs := by
  induction xs with
  | nil => rfl
  | cons x xs ih =>
    show x :: (xs.map strD).map nmD = _
    rw [ih]
theorem kids_str (x : Str) : kids (.str x) = [] := rfl
theorem kids_at (s : Str) (f : PyData) : kids (.tuple [.str s, f]) = [] := rfl
theorem kids_lam (s x : Str) (k t : PyData) : kids (.tuple [.str s, .str x, k, t]) = [([x], t)] := rfl
theorem kids_five (s x y : Str) (t u : PyData) : kids (.tuple [.str s, t, .str x, .str y, u]) = [([], t), ([x, y], u)] := rfl
theorem kids_three (s : Str) (a b : PyData) : kids (.tuple [.str s, a, b]) = if s = sg "#" then (itD b).map (fun t => ([], t)) else if s = sg "?" then ([], a) :: (itD b).map caseD else [([], a), ([], b)] := rfl
theorem kids_mk (c : PyData) (ts : List PyData) : kids (.tuple [.str (sg "#"), c, .tuple ts]) = ts.map (fun t => ([], t)) := by
  rw [kids_three, if_pos rfl]
  rfl
theorem kids_ch (t : PyData) (cs : List (Str × List Str × PyData)) : kids (.tuple [.str (sg "?"), t, .tuple (cs.map fun c => .tuple [.str c.1, .tuple (c.2.1.map strD), c.2.2])]) = ([], t) :: cs.map (·.2) := by
  rw [kids_three, if_neg (by decide +kernel), if_pos rfl]
  show _ :: (cs.map _).map caseD = _
  rw [List.map_map]
  congr 1
  refine List.map_congr_left fun c _ => ?_
  show ((c.2.1.map strD).map nmD, c.2.2) = c.2
  rw [nm_map]
theorem kids_two {s : Str} (t u : PyData) (h : s ∈ [sg "!", sg "&", sg "-"]) : kids (.tuple [.str s, t, u]) = [([], t), ([], u)] := by
  rw [kids_three]
  simp only [List.mem_cons, List.not_mem_nil, or_false] at h
  rcases h with rfl | rfl | rfl
  all_goals rw [if_neg (by decide +kernel), if_neg (by decide +kernel)]
theorem kids_tm : ∀ {n : Nat} {d : PyData}, Tm (n + 1) d → ∀ k ∈ kids d, Tm n k.2
  | _, _, .name n x, k, h => by cases h
  | _, _, .at n x, k, h => by cases h
  | _, _, .lam x kk t, k, h => by
    rw [kids_lam] at h
    rw [List.mem_singleton.mp h]
    exact t
  | _, _, .two s hs t u, k, h => by
    rw [kids_two _ _ hs] at h
    simp only [List.mem_cons, List.not_mem_nil, or_false] at h
    rcases h with rfl | rfl
    · exact t
    · exact u
  | _, _, .five s x y hs t u, k, h => by
    rw [kids_five] at h
    simp only [List.mem_cons, List.not_mem_nil, or_false] at h
    rcases h with rfl | rfl
    · exact t
    · exact u
  | _, _, .mk c ts ht, k, h => by
    rw [kids_mk] at h
    obtain ⟨t, ht', rfl⟩ := List.mem_map.mp h
    exact ht t ht'
  | _, _, .ch cs t hc, k, h => by
    rw [kids_ch] at h
    rcases List.mem_cons.mp h with rfl | h
    · exact t
    · obtain ⟨c, hc', rfl⟩ := List.mem_map.mp h
      exact hc c hc'
theorem FitAll.unc {n m : Nat} {d : PyData} {ds : List PyData} (f : FitAll n m (d :: ds)) : ∃ a b, a + 2 + b ≤ n ∧ Fit a m d ∧ FitAll b m ds := by
  obtain ⟨a, b, c, h, _, f2, f3⟩ := f.get (i := 0) rfl
  exact ⟨b, c, by omega, f2, f3⟩
theorem FitAll.fmap (f : PyData → PyData) : ∀ {ds : List PyData} {n m : Nat}, (∀ d ∈ ds, ∀ {n m : Nat}, Fit n m d → Fit n m (f d)) → FitAll n m ds → FitAll n m (ds.map f)
  | [], n, m, _, h => h
  | d :: ds, n, m, g, h => by
    obtain ⟨a, b, l, f1, f2⟩ := h.unc
    exact (FitAll.cons (g d (List.mem_cons_self ..) f1) (FitAll.fmap f (fun e he => g e (List.mem_cons_of_mem _ he)) f2)).le l (Nat.le_refl _)
theorem Fit.two {n m : Nat} {s t u : PyData} (f : Fit n m (.tuple [s, t, u])) : FitAll n m [t, u] ∧ Fit n m u ∧ Fit n m t := by
  obtain ⟨m', rfl⟩ := f.deep
  obtain ⟨h4, fa⟩ := f.items
  obtain ⟨a, b, l, f1, f2⟩ := fa.unc
  obtain ⟨a2, b2, l2, f3, f4⟩ := f2.unc
  obtain ⟨a3, b3, l3, f5, f6⟩ := f4.unc
  exact ⟨f2.le (by omega) (by omega), f5.le (by omega) (by omega), f3.le (by omega) (by omega)⟩
theorem Fit.inner {n m : Nat} {ts : List PyData} (f : Fit n m (.tuple ts)) : FitAll n m ts := by
  obtain ⟨m', rfl⟩ := f.deep
  obtain ⟨h4, fa⟩ := f.items
  exact fa.le (by omega) (by omega)
theorem kids_fit : ∀ {n w m : Nat} {d : PyData}, Tm n d → Fit w m d → FitAll w m ((kids d).map (·.2))
  | _, w, m, _, .name n x, f => FitAll.nil.le (Nat.zero_le _) (Nat.le_refl _)
  | _, w, m, _, .at n x, f => FitAll.nil.le (Nat.zero_le _) (Nat.le_refl _)
  | _, w, m, _, .lam x kk t, f => by
    rw [kids_lam]
    obtain ⟨a, b, l, f1, f2⟩ := f.inner.unc
    obtain ⟨a2, b2, l2, f3, f4⟩ := f2.unc
    obtain ⟨a3, b3, l3, f5, f6⟩ := f4.unc
    exact f6.le (by omega) (Nat.le_refl _)
  | _, w, m, _, .two s hs t u, f => by
    rw [kids_two _ _ hs]
    exact f.two.1
  | _, w, m, _, .five s x y hs t u, f => by
    rw [kids_five]
    obtain ⟨a, b, l, f1, f2⟩ := f.inner.unc
    obtain ⟨a2, b2, l2, f3, f4⟩ := f2.unc
    obtain ⟨a3, b3, l3, f5, f6⟩ := f4.unc
    obtain ⟨a4, b4, l4, f7, f8⟩ := f6.unc
    exact (FitAll.cons f3 f8).le (by omega) (Nat.le_refl _)
  | _, w, m, _, .mk c ts ht, f => by
    rw [kids_mk, List.map_map]
    have := f.two.2.1.inner
    rwa [show ts.map ((fun x : List Str × PyData => x.2) ∘ fun t => ([], t)) = ts from List.map_id _]
  | _, w, m, _, .ch cs t hc, f => by
    rw [kids_ch]
    obtain ⟨a, b, l, f1, f2⟩ := f.inner.unc
    obtain ⟨a2, b2, l2, f3, f4⟩ := f2.unc
    obtain ⟨a3, b3, l3, f5, f6⟩ := f4.unc
    have g := f5.inner
    have g2 := FitAll.fmap (fun c => (caseD c).2) (fun d hd => by
      obtain ⟨c, _, rfl⟩ := List.mem_map.mp hd
      intro n m q
      exact q.two.2.1) g
    rw [List.map_map] at g2
    show FitAll w m (_ :: (cs.map (·.2)).map (·.2))
    rw [List.map_map]
    exact (FitAll.cons f3 g2).le (by omega) (Nat.le_refl _)
theorem len_wt2 : ∀ {n m : Nat} {ds : List PyData}, FitAll n m ds → 2 * ds.length ≤ n
  | n, m, [], _ => Nat.zero_le _
  | n, m, d :: ds, f => by
    obtain ⟨a, b, l, f1, f2⟩ := f.unc
    have := len_wt2 f2
    rw [List.length_cons]
    omega
theorem kids_len {n w m : Nat} {d : PyData} (t : Tm n d) (f : Fit w m d) : 2 * (kids d).length ≤ w := by
  have := len_wt2 (kids_fit t f)
  rwa [List.length_map] at this
theorem FitAll.mem {n m : Nat} {ds : List PyData} (f : FitAll n m ds) {d : PyData} (h : d ∈ ds) : Fit n m d := by
  obtain ⟨i, hi⟩ := List.getElem?_of_mem h
  obtain ⟨a, b, c, l, _, f2, _⟩ := f.get hi
  exact f2.le (by omega) (Nat.le_refl _)
theorem kids_names : ∀ {n w m : Nat} {d : PyData}, Tm n d → Fit w m d → 4 ≤ w → ∀ k ∈ kids d, k.1.length ≤ w
  | _, w, m, _, .name n x, f, _, k, h => by cases h
  | _, w, m, _, .at n x, f, _, k, h => by cases h
  | _, w, m, _, .lam x kk t, f, hw, k, h => by
    rw [kids_lam] at h
    rw [List.mem_singleton.mp h]
    show 1 ≤ w
    omega
  | _, w, m, _, .two s hs t u, f, _, k, h => by
    rw [kids_two _ _ hs] at h
    simp only [List.mem_cons, List.not_mem_nil, or_false] at h
    rcases h with rfl | rfl
    · exact Nat.zero_le _
    · exact Nat.zero_le _
  | _, w, m, _, .five s x y hs t u, f, hw, k, h => by
    rw [kids_five] at h
    simp only [List.mem_cons, List.not_mem_nil, or_false] at h
    rcases h with rfl | rfl
    · exact Nat.zero_le _
    · show 2 ≤ w
      omega
  | _, w, m, _, .mk c ts ht, f, _, k, h => by
    rw [kids_mk] at h
    obtain ⟨t, ht', rfl⟩ := List.mem_map.mp h
    exact Nat.zero_le _
  | _, w, m, _, .ch cs t hc, f, _, k, h => by
    rw [kids_ch] at h
    rcases List.mem_cons.mp h with rfl | h
    · exact Nat.zero_le _
    · obtain ⟨c, hc', rfl⟩ := List.mem_map.mp h
      have g := f.two.2.1.inner.mem (List.mem_map.mpr ⟨c, hc', rfl⟩)
      have := len_wt2 g.two.2.2.inner
      rw [List.length_map] at this
      omega
/-- each part, in the order of the text -/
def pre : Nat → PyData → List PyData
  | 0, _ => []
  | n + 1, d => d :: (kids d).flatMap fun k => pre n k.2
/-- each part with the names that are given around it -/
def walkD : Nat → PyData → List Str → List (PyData × List Str)
  | 0, _, _ => []
  | n + 1, d, g => (d, g) :: (kids d).flatMap fun k => walkD n k.2 (g ++ k.1)
theorem map_flat {A B C : Type} (f : A → List B) (g : B → C) : ∀ xs : List A, (xs.flatMap f).map g = xs.flatMap fun x => (f x).map g
  | [] => rfl
  | x :: xs => by
    rw [List.flatMap_cons, List.flatMap_cons, List.map_append, map_flat f g xs]
theorem flat_eq {A B : Type} {f g : A → List B} : ∀ {xs : List A}, (∀ x ∈ xs, f x = g x) → xs.flatMap f = xs.flatMap g
  | [], _ => rfl
  | x :: xs, h => by
    rw [List.flatMap_cons, List.flatMap_cons, h x (List.mem_cons_self ..), flat_eq fun y hy => h y (List.mem_cons_of_mem _ hy)]
theorem walk_pre : ∀ (n : Nat) (d : PyData) (g : List Str), (walkD n d g).map (·.1) = pre n d
  | 0, _, _ => rfl
  | n + 1, d, g => by
    show d :: ((kids d).flatMap fun k => walkD n k.2 (g ++ k.1)).map (·.1) = d :: _
    rw [map_flat]
    congr 1
    exact flat_eq fun k _ => walk_pre n k.2 _
theorem walk_up : ∀ {m : Nat} {d : PyData} {g : List Str}, Tm m d → ∀ {n : Nat}, m ≤ n → walkD n d g = walkD m d g
  | 0, d, g, t, n, h => by cases t
  | m + 1, d, g, t, n, h => by
    obtain ⟨n, rfl⟩ : ∃ k, n = k + 1 := ⟨n - 1, by omega⟩
    show (d, g) :: _ = (d, g) :: _
    congr 1
    exact flat_eq fun k hk => walk_up (kids_tm t k hk) (by omega)
theorem pre_up {m n : Nat} {d : PyData} (t : Tm m d) (h : m ≤ n) : pre n d = pre m d := by
  rw [← walk_pre n d [], ← walk_pre m d [], walk_up t h]
theorem pre_fit : ∀ {n w m : Nat} {d : PyData}, Tm n d → Fit w m d → FitAll (n * (w + 2)) m (pre n d)
  | 0, w, m, d, t, f => by cases t
  | n + 1, w, m, d, t, f => by
    have step : ∀ (ks : List (List Str × PyData)) (b : Nat), (∀ k ∈ ks, Tm n k.2) → FitAll b m (ks.map (·.2)) → FitAll (n * b) m (ks.flatMap fun k => pre n k.2) := by
      intro ks
      induction ks with
      | nil => exact fun b _ h => FitAll.nil.le (Nat.zero_le _) (Nat.le_refl _)
      | cons k ks ih =>
        intro b ht h
        obtain ⟨x, y, l, f1, f2⟩ := FitAll.unc h
        rw [List.flatMap_cons]
        refine ((pre_fit (ht k (List.mem_cons_self ..)) f1).append (ih y (fun e he => ht e (List.mem_cons_of_mem _ he)) f2)).le ?_ (Nat.le_refl _)
        rw [← Nat.mul_add]
        exact Nat.mul_le_mul_left _ l
    refine (FitAll.cons f (step (kids d) w (kids_tm t) (kids_fit t f))).le ?_ (Nat.le_refl _)
    rw [Nat.succ_mul]
    have : n * w ≤ n * (w + 2) := Nat.mul_le_mul_left _ (by omega)
    omega
theorem pre_len {n w m : Nat} {d : PyData} (t : Tm n d) (f : Fit w m d) : 2 * (pre n d).length ≤ n * (w + 2) := len_wt2 (pre_fit t f)
/-- each but the first of its like is left out -/
def dd (acc : List Str) : List Str → List Str
  | [] => acc
  | x :: xs => dd (if x ∈ acc then acc else acc ++ [x]) xs
/-- a name that is not given -/
def outs : List (PyData × List Str) → List Str
  | [] => []
  | (.str x, g) :: ws => if x ∈ g then outs ws else x :: outs ws
  | _ :: ws => outs ws
theorem dd_app (xs ys : List Str) : ∀ acc, dd acc (xs ++ ys) = dd (dd acc xs) ys := by
  induction xs with
  | nil => exact fun _ => rfl
  | cons x xs ih => exact fun acc => ih _
theorem outs_app (ws zs : List (PyData × List Str)) : outs (ws ++ zs) = outs ws ++ outs zs := by
  induction ws with
  | nil => rfl
  | cons q ws ih =>
    obtain ⟨d, g⟩ := q
    cases d with
    | str x =>
      show (if x ∈ g then outs (ws ++ zs) else x :: outs (ws ++ zs)) = (if x ∈ g then outs ws else x :: outs ws) ++ outs zs
      by_cases h : x ∈ g
      · rw [if_pos h, if_pos h, ih]
      · rw [if_neg h, if_neg h, ih]
        rfl
    | _ => exact ih
theorem outs_len (ws : List (PyData × List Str)) : (outs ws).length ≤ ws.length := by
  induction ws with
  | nil => exact Nat.le_refl _
  | cons q ws ih =>
    obtain ⟨d, g⟩ := q
    rw [List.length_cons]
    cases d with
    | str x =>
      show (if x ∈ g then outs ws else x :: outs ws).length ≤ _
      by_cases h : x ∈ g
      · rw [if_pos h]
        omega
      · rw [if_neg h, List.length_cons]
        omega
    | _ => exact Nat.le_trans ih (by omega)
theorem dd_len (xs : List Str) : ∀ acc, (dd acc xs).length ≤ acc.length + xs.length := by
  induction xs with
  | nil => exact fun _ => Nat.le_refl _
  | cons x xs ih =>
    intro acc
    refine Nat.le_trans (ih _) ?_
    rw [List.length_cons]
    by_cases h : x ∈ acc
    · rw [if_pos h]
      omega
    · rw [if_neg h, List.length_append]
      show acc.length + 1 + _ ≤ _
      omega
/-! tuples that stay -/
def Ts (K : PySem.W.Frag) (H H' : Hp) : Prop := ∀ a xs, SqT K H a xs → SqT K H' a xs
section
variable {K : PySem.W.Frag} {H H1 H2 H' : Hp}
theorem Ts.trans (a : Ts K H H1) (b : Ts K H1 H2) : Ts K H H2 := fun c xs h => b c xs (a c xs h)
theorem Ts.of (s : Same H H') : Ts K H H' := fun c xs h => sqT_same s h
theorem Ts.refl : Ts K H H := fun c xs h => h
theorem Ts.kp {p : Addr} (k : Kp p H H') (n : NoTup H p) : Ts K H H' := fun c xs h => sqT_kp k n h
theorem Ts.put {p : Addr} {xs : List V} {o : HO} (h : H p = some (.lst xs)) : Ts K H (upd H p o) := Ts.kp Kp.self fun ys r => by
  rcases r with r | ⟨ob, r⟩
  · rw [h] at r
    cases r
  · rw [h] at r
    cases r
mutual
theorem Da.ts (k : Ts K H H') : ∀ {v : V} {d : PyData}, Da K All H v d → Da K All H' v d
  | _, _, .non => .non
  | _, _, .bl b => .bl b
  | _, _, .int i => .int i
  | _, _, .str x => .str x
  | _, _, .lst e n r => absurd trivial n
  | _, _, .tup h r => .tup (k _ _ h) (r.ts k)
  | _, _, .dct e n r => absurd trivial n
theorem DaAll.ts (k : Ts K H H') : ∀ {vs : List V} {ds : List PyData}, DaAll K All H vs ds → DaAll K All H' vs ds
  | _, _, .nil => .nil
  | _, _, .cons h r => .cons (h.ts k) (r.ts k)
end
end
theorem DaAll.snoc {K : PySem.W.Frag} {N : Addr → Prop} {H : Hp} {ds : List PyData} {d : PyData} : ∀ {vs : List V}, DaAll K N H vs (ds ++ [d]) → ∃ us v, vs = us ++ [v] ∧ DaAll K N H us ds ∧ Da K N H v d := by
  induction ds with
  | nil =>
    intro vs h
    cases h with
    | cons a b =>
      cases b
      exact ⟨[], _, rfl, .nil, a⟩
  | cons e ds ih =>
    intro vs h
    cases h with
    | cons a b =>
      obtain ⟨us, v, rfl, h1, h2⟩ := ih b
      exact ⟨_ :: us, v, rfl, .cons a h1, h2⟩
theorem DaAll.rev {K : PySem.W.Frag} {N : Addr → Prop} {H : Hp} : ∀ {vs : List V} {ds : List PyData}, DaAll K N H vs ds → DaAll K N H vs.reverse ds.reverse
  | _, _, .nil => .nil
  | _, _, .cons a b => by
    rw [List.reverse_cons, List.reverse_cons]
    exact b.rev.append (.cons a .nil)
theorem DaAll.at {K : PySem.W.Frag} {N : Addr → Prop} {H : Hp} {vs : List V} {ds : List PyData} (h : DaAll K N H vs ds) {i : Nat} {d : PyData} (e : ds[i]? = some d) : ∃ v, vs[i]? = some v ∧ Da K N H v d := by
  have hl := h.length
  obtain ⟨hi, _⟩ := List.getElem?_eq_some_iff.mp e
  have hv : vs[i]? = some vs[i] := List.getElem?_eq_getElem (by omega)
  obtain ⟨d', e', hd⟩ := h.get hv
  rw [e] at e'
  cases e'
  exact ⟨_, hv, hd⟩
def kdA (k : List Str × PyData) : PyData := .tuple [.tuple (k.1.map strD), k.2]
def kdB (k : List Str × PyData) : PyData := .tuple [k.2, .tuple (k.1.map strD)]
def spKids (K : PySem.W.Frag) (f : List Str × PyData → PyData) : Sp := fun vs H Q _ => ∃ (v : V) (d : PyData) (n w m : Nat), vs = [v] ∧ Da K All H v d ∧ Tm n d ∧ Fit w m d ∧ w ≤ 16000000 ∧
  ∀ (L : Addr) (us : List V) (H' : Hp), Same H H' → H L = none → H' L = some (.lst us) → DaAll K All H' us ((kids d).map f) → Q (.ref L) H'
def spParts (K : PySem.W.Frag) : Sp := fun vs H Q _ => ∃ (v : V) (d : PyData) (n w m : Nat), vs = [v] ∧ Da K All H v d ∧ Tm n d ∧ Fit w m d ∧ n * (w + 2) ≤ 16000000 ∧
  ∀ (L : Addr) (us : List V) (H' : Hp), Same H H' → H L = none → H' L = some (.lst us) → DaAll K All H' us (pre n d) → Q (.ref L) H'
def spUses (K : PySem.W.Frag) : Sp := fun vs H Q _ => ∃ (v : V) (d : PyData) (n w m : Nat), vs = [v] ∧ Da K All H v d ∧ Tm n d ∧ Fit w m d ∧ 4 ≤ w ∧ n * (w + 2) ≤ 16000000 ∧
  ∀ (L : Addr) (H' : Hp), Same H H' → H L = none → H' L = some (.lst ((dd [] (outs (walkD n d []))).map V.str)) → Q (.ref L) H'
def spFirst : Sp := fun vs H Q _ => ∃ (a : Addr) (xs : List Str), vs = [.ref a] ∧ H a = some (.lst (xs.map V.str)) ∧ xs.length ≤ 16000000 ∧
  ∀ (L : Addr) (H' : Hp), Same H H' → H L = none → H' L = some (.lst ((dd [] xs).map V.str)) → Q (.ref L) H'
/-- a row of a part with a list of the names given around it -/
def Wk (K : PySem.W.Frag) (H : Hp) (u : V) (q : PyData × List Str) : Prop := ∃ (t : Addr) (v : V) (h : Addr), u = .ref t ∧ SqT K H t [v, .ref h] ∧ Da K All H v q.1 ∧ H h = some (.lst (q.2.map V.str))
theorem Wk.same {K : PySem.W.Frag} {H H' : Hp} {u : V} {q : PyData × List Str} (s : Same H H') (h : Wk K H u q) : Wk K H' u q := by
  obtain ⟨t, v, a, rfl, h1, h2, h3⟩ := h
  exact ⟨t, v, a, rfl, sqT_same s h1, h2.same s, s _ _ h3⟩
inductive WkAll (K : PySem.W.Frag) (H : Hp) : List V → List (PyData × List Str) → Prop
  | nil : WkAll K H [] []
  | cons {u : V} {us : List V} {q : PyData × List Str} {qs : List (PyData × List Str)} : Wk K H u q → WkAll K H us qs → WkAll K H (u :: us) (q :: qs)
theorem WkAll.same {K : PySem.W.Frag} {H H' : Hp} (s : Same H H') : ∀ {us : List V} {qs : List (PyData × List Str)}, WkAll K H us qs → WkAll K H' us qs
  | _, _, .nil => .nil
  | _, _, .cons a b => .cons (a.same s) (b.same s)
theorem WkAll.append {K : PySem.W.Frag} {H : Hp} : ∀ {us vs : List V} {qs rs : List (PyData × List Str)}, WkAll K H us qs → WkAll K H vs rs → WkAll K H (us ++ vs) (qs ++ rs)
  | _, _, _, _, .nil, h => h
  | _, _, _, _, .cons a b, h => .cons a (b.append h)
theorem WkAll.length {K : PySem.W.Frag} {H : Hp} : ∀ {us : List V} {qs : List (PyData × List Str)}, WkAll K H us qs → us.length = qs.length
  | _, _, .nil => rfl
  | _, _, .cons a b => by rw [List.length_cons, List.length_cons, b.length]
theorem WkAll.get {K : PySem.W.Frag} {H : Hp} : ∀ {us : List V} {qs : List (PyData × List Str)}, WkAll K H us qs → ∀ {i : Nat} {u : V}, us[i]? = some u → ∃ q, qs[i]? = some q ∧ Wk K H u q
  | _, _, .nil, i, u, e => by cases e
  | _, _, .cons a b, 0, u, e => by
    cases e
    exact ⟨_, rfl, a⟩
  | _, _, .cons a b, i + 1, u, e => b.get (i := i) e
def spWalk (K : PySem.W.Frag) (n : Nat) : Sp := fun vs H Q _ => ∃ (v : V) (d : PyData) (h : Addr) (g : List Str) (w m : Nat), vs = [v, .ref h] ∧ Da K All H v d ∧ Tm n d ∧ Fit w m d ∧ 4 ≤ w ∧ H h = some (.lst (g.map V.str)) ∧ n * (w + 2) ≤ 16000000 ∧ g.length + n * w ≤ 16000000 ∧
  ∀ (L : Addr) (us : List V) (H' : Hp), Same H H' → H L = none → H' L = some (.lst us) → WkAll K H' us (walkD n d g) → Q (.ref L) H'
section
variable {K : PySem.W.Frag} {N : Addr → Prop} {H H' : Hp}
theorem DaAll.unc {vs : List V} {d : PyData} {ds : List PyData} (h : DaAll K N H vs (d :: ds)) : ∃ v us, vs = v :: us ∧ Da K N H v d ∧ DaAll K N H us ds := by
  cases h with
  | cons a b => exact ⟨_, _, rfl, a, b⟩
theorem DaAll.un0 {vs : List V} (h : DaAll K N H vs []) : vs = [] := by
  cases h
  rfl
theorem Da.tup2 {v : V} {a b : PyData} (h : Da K N H v (.tuple [a, b])) : ∃ t x y, v = .ref t ∧ SqT K H t [x, y] ∧ Da K N H x a ∧ Da K N H y b := by
  obtain ⟨t, xs, rfl, hT, hA⟩ := h.tupInv
  obtain ⟨x, us, rfl, hx, hA⟩ := hA.unc
  obtain ⟨y, us, rfl, hy, hA⟩ := hA.unc
  obtain rfl := hA.un0
  exact ⟨t, x, y, rfl, hT, hx, hy⟩
theorem Da.tup4 {v : V} {a b c d : PyData} (h : Da K N H v (.tuple [a, b, c, d])) : ∃ t x y z w, v = .ref t ∧ SqT K H t [x, y, z, w] ∧ Da K N H x a ∧ Da K N H y b ∧ Da K N H z c ∧ Da K N H w d := by
  obtain ⟨t, xs, rfl, hT, hA⟩ := h.tupInv
  obtain ⟨x, us, rfl, hx, hA⟩ := hA.unc
  obtain ⟨y, us, rfl, hy, hA⟩ := hA.unc
  obtain ⟨z, us, rfl, hz, hA⟩ := hA.unc
  obtain ⟨w, us, rfl, hw, hA⟩ := hA.unc
  obtain rfl := hA.un0
  exact ⟨t, x, y, z, w, rfl, hT, hx, hy, hz, hw⟩
theorem Da.tup5 {v : V} {a b c d e : PyData} (h : Da K N H v (.tuple [a, b, c, d, e])) : ∃ t x y z w u, v = .ref t ∧ SqT K H t [x, y, z, w, u] ∧ Da K N H x a ∧ Da K N H y b ∧ Da K N H z c ∧ Da K N H w d ∧ Da K N H u e := by
  obtain ⟨t, xs, rfl, hT, hA⟩ := h.tupInv
  obtain ⟨x, us, rfl, hx, hA⟩ := hA.unc
  obtain ⟨y, us, rfl, hy, hA⟩ := hA.unc
  obtain ⟨z, us, rfl, hz, hA⟩ := hA.unc
  obtain ⟨w, us, rfl, hw, hA⟩ := hA.unc
  obtain ⟨u, us, rfl, hu, hA⟩ := hA.unc
  obtain rfl := hA.un0
  exact ⟨t, x, y, z, w, u, rfl, hT, hx, hy, hz, hw, hu⟩
theorem da_strs : ∀ {vs : List V} {xs : List Str}, DaAll K N H vs (xs.map strD) → vs = xs.map V.str
  | vs, [], h => h.un0
  | vs, x :: xs, h => by
    obtain ⟨v, us, rfl, hv, hA⟩ := DaAll.unc h
    rw [hv.strInv, da_strs hA]
    rfl
theorem Da.names {v : V} {xs : List Str} (h : Da K N H v (.tuple (xs.map strD))) : ∃ t, v = .ref t ∧ SqT K H t (xs.map V.str) := by
  obtain ⟨t, vs, rfl, hT, hA⟩ := h.tupInv
  rw [da_strs hA] at hT
  exact ⟨t, rfl, hT⟩
theorem row_a {t n : Addr} {v : V} {d : PyData} {xs : List Str} (h : SqT K H t [.ref n, v]) (h1 : SqT K H n (xs.map V.str)) (h2 : Da K All H v d) : Da K All H (.ref t) (kdA (xs, d)) :=
  .tup h (.cons (.tup h1 (da_names xs)) (.cons h2 .nil))
theorem row_b {t n : Addr} {v : V} {d : PyData} {xs : List Str} (h : SqT K H t [v, .ref n]) (h1 : SqT K H n (xs.map V.str)) (h2 : Da K All H v d) : Da K All H (.ref t) (kdB (xs, d)) :=
  .tup h (.cons h2 (.cons (.tup h1 (da_names xs)) .nil))
theorem acc_da {D : Addr} {us : List V} {ds : List PyData} {y : V} {d : PyData} (e : H D = some (.lst us)) (h : DaAll K All H us ds) (g : Da K All H y d) : DaAll K All (upd H D (.lst (us ++ [y]))) (us ++ [y]) (ds ++ [d]) :=
  (h.append (.cons g .nil)).ts (Ts.put e)
theorem in_strs (s : Str) (xs : List Str) : inV (.str s) (xs.map V.str) = decide (s ∈ xs) := by
  induction xs with
  | nil => rfl
  | cons x xs ih =>
    show ((x == s) || inV (.str s) (xs.map V.str)) = _
    rw [ih]
    by_cases h : x = s
    · subst h
      simp
    · rw [show (x == s) = false from beq_eq_false_iff_ne.mpr h, Bool.false_or]
      have : ¬ s = x := fun e => h e.symm
      simp [this]
theorem flat_strs (xs : List Str) : (xs.map V.str).all flatV = true := by simp [flatV]
end
theorem iteSF {A B : Prop} {a b : Str} (h : a ≠ b) (hb : B) : if decide (V.str a = V.str b) = true then A else B := by
  rw [decide_eq_false (fun e => h (by injection e))]
  exact iteF hb
theorem iteST {A B : Prop} {a b : Str} (h : a = b) (ha : A) : if decide (V.str a = V.str b) = true then A else B := by
  rw [decide_eq_true (congrArg V.str h)]
  exact iteT ha
theorem iteInF {A B : Prop} {x : Str} {xs : List Str} (h : x ∉ xs) (hb : B) : if (if false = true then !inV (.str x) (xs.map V.str) else inV (.str x) (xs.map V.str)) = true then A else B := by
  rw [if_neg Bool.false_ne_true, in_strs, decide_eq_false h]
  exact iteF hb
theorem iteInT {A B : Prop} {x : Str} {xs : List Str} (h : x ∈ xs) (ha : A) : if (if false = true then !inV (.str x) (xs.map V.str) else inV (.str x) (xs.map V.str)) = true then A else B := by
  rw [if_neg Bool.false_ne_true, in_strs, decide_eq_true h]
  exact iteT ha
abbrev m2 : List Str := [Str.ofString "/", Str.ofString "+"]
abbrev m3 : List Str := [Str.ofString "!", Str.ofString "&", Str.ofString "-"]
theorem ne_mem {s z : Str} {l : List Str} (h : s ∈ l) (g : z ∉ l) : s ≠ z := fun e => g (e ▸ h)
theorem none_same {H H' : Hp} {L : Addr} (s : Same H H') (h : H' L = none) : H L = none := by
  cases e : H L with
  | none => rfl
  | some o => exact absurd (s _ _ e) (by rw [h]; nofun)
theorem ix_tupK {X : Cx} {K : PySem.W.Frag} (h : X.K = K) : IxR X (rIxT K) := h ▸ ix_tup
theorem ix_listK {X : Cx} {K : PySem.W.Frag} (h : X.K = K) : IxR X (rIxL K) := h ▸ ix_list
theorem notIn_seqK {X : Cx} {K : PySem.W.Frag} (h : X.K = K) : OpR X (compareOp .NotIn) (rIn K true) := h ▸ op_notIn_seq
theorem isDK {X : Cx} {K : PySem.W.Frag} (h : X.K = K) : CallR X (.builtin "isinstance") (rIsD K) := h ▸ call_isD
theorem tm_pos {n : Nat} {d : PyData} (t : Tm n d) : ∃ m, n = m + 1 := by
  cases n with
  | zero => cases t
  | succ m => exact ⟨m, rfl⟩
theorem kids_tmn {n : Nat} {d : PyData} (t : Tm n d) : ∀ k ∈ kids d, Tm n k.2 := by
  obtain ⟨m, rfl⟩ := tm_pos t
  exact fun k hk => (kids_tm t k hk).up (by omega)
theorem walk_step {n : Nat} {d : PyData} (t : Tm n d) (g : List Str) : walkD n d g = (d, g) :: (kids d).flatMap fun k => walkD n k.2 (g ++ k.1) := by
  obtain ⟨m, rfl⟩ := tm_pos t
  show (d, g) :: _ = (d, g) :: _
  congr 1
  exact flat_eq fun k hk => (walk_up (kids_tm t k hk) (by omega)).symm
theorem flat_map {A B C : Type} (f : A → B) (g : B → List C) : ∀ xs : List A, (xs.map f).flatMap g = xs.flatMap fun x => g (f x)
  | [] => rfl
  | x :: xs => by rw [List.map_cons, List.flatMap_cons, List.flatMap_cons, flat_map f g xs]
theorem pre_step {n : Nat} {d : PyData} (t : Tm n d) : pre n d = d :: ((kids d).map (·.2)).flatMap (pre n) := by
  obtain ⟨m, rfl⟩ := tm_pos t
  show d :: _ = d :: _
  rw [flat_map]
  congr 1
  exact flat_eq fun k hk => (pre_up (kids_tm t k hk) (by omega)).symm
theorem pre_pos {n : Nat} {d : PyData} (t : Tm n d) : 1 ≤ (pre n d).length := by
  rw [pre_step t, List.length_cons]
  omega
theorem flat_ge {n : Nat} : ∀ {ds : List PyData}, (∀ e ∈ ds, Tm n e) → ds.length ≤ (ds.flatMap (pre n)).length
  | [], _ => Nat.le_refl _
  | d :: ds, h => by
    have := flat_ge (ds := ds) fun e he => h e (List.mem_cons_of_mem _ he)
    have := pre_pos (h d (List.mem_cons_self ..))
    rw [List.flatMap_cons, List.length_append, List.length_cons]
    omega
theorem walk_len {n : Nat} {d : PyData} {g : List Str} : (walkD n d g).length = (pre n d).length := by
  rw [← walk_pre n d g, List.length_map]
theorem opAddK {X : Cx} {K : PySem.W.Frag} (h : X.K = K) : OpR X (binaryOp .Add) (rAddAny K) := h ▸ opAdd
theorem outs_no {d : PyData} {g : List Str} {ws : List (PyData × List Str)} (h : tyD d ≠ "str") : outs ((d, g) :: ws) = outs ws := by
  cases d with
  | str x => exact absurd rfl h
  | _ => rfl
theorem outs_str (x : Str) (g : List Str) : outs [(.str x, g)] = if x ∈ g then [] else [x] := rfl
theorem outs_cons (q : PyData × List Str) (ws : List (PyData × List Str)) : outs (q :: ws) = outs [q] ++ outs ws := outs_app [q] ws
theorem dd_one (t : List Str) (x : Str) : dd t [x] = if x ∈ t then t else t ++ [x] := rfl
theorem walk_ge {n : Nat} : ∀ {qs : List (List Str × PyData)}, (∀ q ∈ qs, Tm n q.2) → qs.length ≤ (qs.flatMap fun q => walkD n q.2 q.1).length
  | [], _ => Nat.le_refl _
  | q :: qs, h => by
    have := walk_ge (qs := qs) fun e he => h e (List.mem_cons_of_mem _ he)
    have h1 := pre_pos (h q (List.mem_cons_self ..))
    rw [← walk_len (g := q.1)] at h1
    rw [List.flatMap_cons, List.length_append, List.length_cons]
    omega
theorem FitAll.sub {m : Nat} {es ds : List PyData} (h : es.Sublist ds) : ∀ {n : Nat}, FitAll n m ds → FitAll n m es := by
  induction h with
  | slnil => exact fun f => f
  | cons a h ih =>
    intro n f
    obtain ⟨x, y, l, _, f2⟩ := f.unc
    exact (ih f2).le (by omega) (Nat.le_refl _)
  | cons_cons a h ih =>
    intro n f
    obtain ⟨x, y, l, f1, f2⟩ := f.unc
    exact (FitAll.cons f1 (ih f2)).le l (Nat.le_refl _)
theorem outs_sub : ∀ ws : List (PyData × List Str), ((outs ws).map strD).Sublist (ws.map (·.1))
  | [] => .slnil
  | (d, g) :: ws => by
    have ih := outs_sub ws
    by_cases hs : tyD d = "str"
    · obtain ⟨x, rfl⟩ := ty_str hs
      show ((if x ∈ g then outs ws else x :: outs ws).map strD).Sublist (.str x :: ws.map (·.1))
      by_cases h : x ∈ g
      · rw [if_pos h]
        exact ih.cons _
      · rw [if_neg h]
        exact ih.cons_cons _
    · rw [outs_no hs]
      exact ih.cons _
theorem dd_sub : ∀ (xs acc : List Str), ∃ ys, dd acc xs = acc ++ ys ∧ ys.Sublist xs
  | [], acc => ⟨[], (List.append_nil _).symm, .slnil⟩
  | x :: xs, acc => by
    by_cases h : x ∈ acc
    · obtain ⟨ys, e, l⟩ := dd_sub xs acc
      refine ⟨ys, ?_, l.cons _⟩
      show dd (if x ∈ acc then acc else acc ++ [x]) xs = _
      rw [if_pos h, e]
    · obtain ⟨ys, e, l⟩ := dd_sub xs (acc ++ [x])
      refine ⟨x :: ys, ?_, l.cons_cons _⟩
      show dd (if x ∈ acc then acc else acc ++ [x]) xs = _
      rw [if_neg h, e, List.append_assoc]
      rfl
/-- the names of a term, as a list that is shown -/
theorem free_fit {n w m : Nat} {d : PyData} (t : Tm n d) (f : Fit w m d) : FitAll (n * (w + 2)) m ((dd [] (outs (walkD n d []))).map strD) := by
  obtain ⟨ys, e, l⟩ := dd_sub (outs (walkD n d [])) []
  rw [e, List.nil_append]
  refine FitAll.sub (l.map strD) (FitAll.sub (outs_sub _) ?_)
  rw [walk_pre]
  exact pre_fit t f
abbrev No : Addr → Prop := fun _ => False
theorem da_lst {K : PySem.W.Frag} {H : Hp} {L : Addr} {us : List V} {ds : List PyData} (e : H L = some (.lst us)) (g : DaAll K All H us ds) : Da K No H (.ref L) (.list ds) := .lst e (fun z => z) (g.less fun _ z => z.elim)
theorem da_frees {K : PySem.W.Frag} {H : Hp} {L : Addr} {xs : List Str} (e : H L = some (.lst (xs.map V.str))) : Da K No H (.ref L) (.list (xs.map strD)) := .lst e (fun z => z) (da_names xs)
end Ow

/-! How many texts of a tuple are unlike: len(set(..)). -/
namespace Ow
open PySem PySem.Spec PyProof.Rows
def Dn (g : Nat → Str) (i : Nat) : List Str := dd [] ((List.range i).map g)
theorem Dn_succ (g : Nat → Str) (i : Nat) : Dn g (i + 1) = if g i ∈ Dn g i then Dn g i else Dn g i ++ [g i] := by
  show dd [] ((List.range (i + 1)).map g) = _
  rw [List.range_succ, List.map_append, dd_app]
  rfl
theorem Dn_le (g : Nat → Str) (i : Nat) : (Dn g i).length ≤ i := by
  have := dd_len ((List.range i).map g) []
  rw [List.length_map, List.length_range] at this
  exact Nat.le_trans this (by show 0 + i ≤ i; omega)
theorem setOf_eq {prog : Program} {w : World} {h : Heap} {a : Addr} {S T : Str → Bool} {n m : Nat} (z : h.SetOf (strKind prog w) a S n) (e : S = T) (f : n = m) : h.SetOf (strKind prog w) a T m := e ▸ f ▸ z
section
variable {prog : Program} {w : World} {A : Around} {R : Result → Shared → Prop} {it : Addr} {fp wr : List Addr} {G : Array GenState → Array GenState → Prop} {n : Nat} {P : Nat → Value → Prop} {St : Nat → Shared → Prop}
theorem fill_loop (W : WalksS prog w A.in1 it fp wr G n P St) {C : Addr} (out : C ∉ fp) (g : Nat → Str) (isG : ∀ i v, P i v → ∃ t, v = Value.str (g i) t) (room : n + 1 < scanBound) (left : Nat) :
    ∀ (i : Nat) (z : Shared), i + left = n → St i z → z.heap.SetOf (strKind prog w) C (fun q => decide (q ∈ Dn g i)) (Dn g i).length →
      (∀ z', Moved (C :: wr) G z z' → z'.heap.SetOf (strKind prog w) C (fun q => decide (q ∈ Dn g n)) (Dn g n).length → R (.ok (.ret .none)) z') →
      codeAny (model prog w) A (.builtin "set.update.loop" ⟨[.ref C, .ref it], []⟩) R z := by
  have outW : C ∉ wr := fun c => out (W.sub _ c)
  have wider : ∀ {a b : Shared}, Moved wr G a b → Moved (C :: wr) G a b := fun mv => mv.mono fun c hc => List.mem_cons_of_mem _ hc
  have moved : ∀ {a b : Shared} {S : Str → Bool} {k : Nat}, Moved wr G a b → a.heap.SetOf (strKind prog w) C S k → b.heap.SetOf (strKind prog w) C S k := fun mv hs => by
    obtain ⟨ob, x1, x2, x3, at_, more⟩ := hs
    exact ⟨ob, x1, x2, x3, mv.heap C _ outW at_, more⟩
  induction left with
  | zero =>
    intro i z hi st hs fin
    obtain rfl : i = n := by omega
    refine codeAny_builtin F.entry_set_update_loop ?_
    rw [Around.under_plainId F.plain_set_update_loop _]
    exact wpAny_bind (W.done z _ _ st fun z' mv => wpAny_pure (fin z' (wider mv) (moved mv hs)))
  | succ left ih =>
    intro i z hi st hs fin
    refine codeAny_builtin F.entry_set_update_loop ?_
    rw [Around.under_plainId F.plain_set_update_loop _]
    refine wpAny_bind (W.item i z _ _ (by omega) st fun v z1 pv st1 mv => ?_)
    obtain ⟨t, rfl⟩ := isG i v pv
    show wpAny _ A.in1 (holding [Value.str (g i) t] (setAdd C (.str (g i) t)) >>= _) _ _ z1
    refine wpAny_bind (wpAny_holding ?_)
    unfold setAdd
    refine wpAny_holding (wpAny_bind ((strKind prog w).pyHash (k := g i) (strKind_is _ _ _ _) ?_))
    refine wpAny_setAddHashed_of (knd := strKind prog w) (s := { z1 with toks := z1.toks + 1 }) (strKind_is _ _ _ _) rfl (moved (b := z1) mv hs) (by have := Dn_le g i; omega) fun h2 same hs2 => ?_
    have next : h2.SetOf (strKind prog w) C (fun q => decide (q ∈ Dn g (i + 1))) (Dn g (i + 1)).length := by
      refine setOf_eq hs2 (funext fun q => ?_) ?_
      · rw [Dn_succ]
        by_cases c : g i ∈ Dn g i
        · rw [if_pos c]
          by_cases e : q = g i
          · subst e
            simp [c]
          · simp [e]
        · rw [if_neg c]
          simp
      · rw [Dn_succ]
        by_cases c : g i ∈ Dn g i
        · rw [if_pos c, if_pos (decide_eq_true c)]
        · rw [if_neg c, if_neg (by simpa using c), List.length_append]
          rfl
    have still : ∀ b, b ≠ C → ∀ o, z1.heap.get? b = some o → h2.get? b = some o := fun b hb o e => by
      rw [same.2 b hb]
      exact e
    refine wpAny_pure ⟨plainId_quiet F.plain_set_update_loop _, ih (i + 1) _ (by omega) (W.frame _ z1 _ _ st1 (Nat.le_succ _) fun b hb o e => still b (fun c => out (c ▸ hb)) o e) next fun z3 mv3 hs3 => ?_⟩
    exact fin z3 (Moved.trans W.gtrans ((wider mv).then_heap (Nat.le_succ _) fun b o hb e => still b (fun c => hb (c ▸ List.mem_cons_self ..)) o e) mv3) hs3
end
abbrev freshSet (led : Bool) : Obj := ⟨.type "set", none, .set #[] 0 (.fresh 0 0 led), #[]⟩
theorem strs_get : ∀ {us : List Value} {xs : List Str}, StrsAre us xs → ∀ {i : Nat} {v : Value}, us[i]? = some v → ∃ t, v = .str (xs.getD i Str.empty) t
  | _, _, .nil, i, v, e => by cases e
  | _, _, .cons x t r, 0, v, e => by
    cases e
    exact ⟨t, rfl⟩
  | _, _, .cons x t r, i + 1, v, e => strs_get r (i := i) e
theorem strs_len : ∀ {us : List Value} {xs : List Str}, StrsAre us xs → us.length = xs.length
  | _, _, .nil => rfl
  | _, _, .cons x t r => by rw [List.length_cons, List.length_cons, strs_len r]
theorem range_getD (xs : List Str) : (List.range xs.length).map (fun i => xs.getD i Str.empty) = xs := by
  refine List.ext_getElem (by simp) fun i h1 h2 => ?_
  rw [List.getElem_map, List.getElem_range, List.getD_eq_getElem?_getD, List.getElem?_eq_getElem h2]
  rfl
section
variable {prog : Program} {w : World} {A : Around} {E : Value → Shared → Prop} {s : Shared}
theorem init_setTx {l : Addr} {items : Array Value} {xs : List Str} (led : Bool) (free : A.handled = none) (tup : s.heap.IsTuple l items) (texts : StrsAre items.toList xs) (small : xs.length + 1 < scanBound) {F : PySem.Fin → Shared → Prop}
    (k : ∀ (h' : Heap) (tk : Nat), h'.SetOf (strKind prog w) s.heap.objs.size (fun q => decide (q ∈ dd [] xs)) (dd [] xs).length →
      (∀ b o, b < s.heap.objs.size → s.heap.get? b = some o → h'.get? b = some o) → wpAny (model prog w) A (ret Value.none) F E { s with heap := h', toks := tk }) :
    wpAny (model prog w) A (Builtin.«set.__init__» ⟨[.ref s.heap.objs.size, .ref l], []⟩) F E { s with heap := s.heap.push (freshSet led) } := by
  obtain ⟨⟨_, dl, _, sl⟩, at_, rfl, nl, rfl⟩ := tup
  have atS : (s.heap.push (freshSet led)).get? s.heap.objs.size = some (freshSet led) := Heap.get?_push_size _ rfl
  have at1 := Heap.get?_push_of_some (freshSet led) at_
  have low := Heap.lt_size at_
  have tup1 : (s.heap.push (freshSet led)).IsTuple l items := ⟨_, at1, rfl, nl, rfl⟩
  have n1 := PySem.F.sub_tuple_set
  have n2 := PySem.F.sub_tuple_frozenset
  have n3 : (Value.type "tuple" == .type "dict") = false := by decide
  have hT : Shared.TypeIs { s with heap := s.heap.push (freshSet led) } (.ref s.heap.objs.size) "set" := ⟨_, atS, rfl⟩
  unfold Builtin.«set.__init__» noKeywords Builtin.Frozenset.updateFrom; generalize hPI : pyIter = PI
  wp_walk
  rw [← hPI]
  refine wpAny_pyIter_tuple tup1 (wpAny_bind (wpAny_runValue ?_))
  have sz : (s.heap.push (freshSet led)).objs.size = s.heap.objs.size + 1 := Heap.size_push _ _
  have apart : l ≠ (s.heap.push (freshSet led)).objs.size := fun e => absurd (e.trans sz) (Nat.ne_of_lt (Nat.lt_succ_of_lt low))
  have len : xs.length = items.size := by rw [← strs_len texts, Array.length_toList]
  have dn : Dn (fun i => xs.getD i Str.empty) items.size = dd [] xs := by
    unfold Dn
    rw [← len, range_getD]
  refine fill_loop ((Walks.tuple (by simp [free]) _ l apart items).toS) (C := s.heap.objs.size) ?_ (fun i => xs.getD i Str.empty) (fun i v e => strs_get texts (by rw [Array.getElem?_toList]; exact e)) (by omega) items.size 0 _ (Nat.zero_add _)
    ⟨⟨_, Heap.get?_push_size _ rfl, rfl, rfl⟩, tup1.push _⟩ ?_ ?_
  · rw [sz]
    intro c
    simp only [List.mem_cons, List.not_mem_nil, or_false] at c
    rcases c with c | c
    · exact absurd c (Nat.ne_of_lt (Nat.lt_succ_self _))
    · exact absurd c.symm (Nat.ne_of_lt low)
  · refine setOf_eq ((setObjOf_fresh (knd := strKind prog w) led).setOf (Heap.get?_push_of_some _ atS) (by unfold scanBound; omega)) (funext fun q => ?_) rfl
    rfl
  · rintro ⟨h2, g2, d2, tk2, os2⟩ mv hs
    obtain rfl : g2 = s.gens := mv.gens
    obtain rfl : d2 = s.drawn := mv.drawn
    obtain rfl : os2 = s.os := mv.os
    rw [dn] at hs
    refine wpAny_pure (k h2 tk2 hs fun b o hb e => mv.heap b o ?_ (Heap.get?_push_of_some _ (Heap.get?_push_of_some _ e)))
    rw [sz]
    simp only [List.mem_cons, List.not_mem_nil, or_false, not_or]
    exact ⟨Nat.ne_of_lt hb, Nat.ne_of_lt (Nat.lt_succ_of_lt hb)⟩
theorem call_setTx {l : Addr} {items : Array Value} {xs : List Str} {Q : Value → Shared → Prop} (free : A.handled = none) (tup : s.heap.IsTuple l items) (texts : StrsAre items.toList xs) (small : xs.length + 1 < scanBound)
    (k : ∀ (h' : Heap) (tk : Nat), h'.SetOf (strKind prog w) s.heap.objs.size (fun q => decide (q ∈ dd [] xs)) (dd [] xs).length →
      (∀ b o, b < s.heap.objs.size → s.heap.get? b = some o → h'.get? b = some o) → Q (.ref s.heap.objs.size) { s with heap := h', toks := tk }) : wpAny (model prog w) A (call (.type "set") [.ref l]) Q E s := by
  have ⟨cc, tl, mro⟩ := PySem.F.called_set.mro
  have a1 := PySem.F.called_set.made; have a2 := PySem.F.called_set.sub
  have a3 := PySem.F.called_set.notType; have a4 := PySem.F.called_set.canCreate; have a5 := PySem.F.typeCall_set_1 (.ref l)
  refine wpAny_call (codeAny_of_tree (show wpAny _ _ (callAny (.type "set") _) _ _ _ from wpAny_pure ⟨Code.quiet_builtin _ (by decide +kernel), codeAny_builtin PySem.F.entry_type_call ?_⟩))
  rw [Around.under_plain (weight_type_call_type "set" [.ref l] []) rfl]
  repeat any_goals first | assumption | wp_step
  refine codeAny_mono (code_set_new_1 (.ref l) (E := E) (Q₁ := fun ob z => ∃ led : Bool, ob = .ref s.heap.objs.size ∧ z = { s with heap := s.heap.push (freshSet led) }) fun led => ⟨led, rfl, rfl⟩) fun r z hr => ?_
  match r, hr with
  | .ok (.ret ob), hr =>
    obtain ⟨led, rfl, rfl⟩ := hr
    have atS : (s.heap.push (freshSet led)).get? s.heap.objs.size = some (freshSet led) := Heap.get?_push_size _ rfl
    have hT : Shared.TypeIs { s with heap := s.heap.push (freshSet led) } (.ref s.heap.objs.size) "set" := ⟨_, atS, rfl⟩
    have b1 := PySem.F.called_set.init.lookup; have b2 := PySem.F.called_set.init.bind (.ref s.heap.objs.size)
    repeat any_goals first | assumption | wp_step
    refine codeAny_mono (codeAny_call_builtin (R := wants (fun r z => r = .none ∧ ∃ (h' : Heap) (tk : Nat), z = { s with heap := h', toks := tk } ∧ h'.SetOf (strKind prog w) s.heap.objs.size (fun q => decide (q ∈ dd [] xs)) (dd [] xs).length ∧
      ∀ b o, b < s.heap.objs.size → s.heap.get? b = some o → h'.get? b = some o) E) PySem.F.called_set.init.plain PySem.F.entry_set_init (check_set_init_1 hT ?_)) fun r2 z2 hr2 => ?_
    · exact init_setTx led (by simp [free]) tup texts small fun h2 tk hs keep => wpAny_pure ⟨rfl, h2, tk, rfl, hs, keep⟩
    · match r2, hr2 with
      | .ok (.ret v), hr2 =>
        obtain ⟨rfl, h2, tk, rfl, hs, keep⟩ := hr2
        repeat any_goals first | assumption | wp_step
        exact k h2 tk hs keep
      | .error e, hr2 => exact hr2
  | .error e, hr => exact hr
theorem init_setLx {l : Addr} {items : Array Value} {xs : List Str} (led : Bool) (free : A.handled = none) (tup : s.heap.IsList l items) (texts : StrsAre items.toList xs) (small : xs.length + 1 < scanBound) {F : PySem.Fin → Shared → Prop}
    (k : ∀ (h' : Heap) (tk : Nat), h'.SetOf (strKind prog w) s.heap.objs.size (fun q => decide (q ∈ dd [] xs)) (dd [] xs).length →
      (∀ b o, b < s.heap.objs.size → s.heap.get? b = some o → h'.get? b = some o) → wpAny (model prog w) A (ret Value.none) F E { s with heap := h', toks := tk }) :
    wpAny (model prog w) A (Builtin.«set.__init__» ⟨[.ref s.heap.objs.size, .ref l], []⟩) F E { s with heap := s.heap.push (freshSet led) } := by
  obtain ⟨⟨_, dl, _, sl⟩, at_, rfl, nl, rfl⟩ := tup
  have atS : (s.heap.push (freshSet led)).get? s.heap.objs.size = some (freshSet led) := Heap.get?_push_size _ rfl
  have at1 := Heap.get?_push_of_some (freshSet led) at_
  have low := Heap.lt_size at_
  have tup1 : (s.heap.push (freshSet led)).IsList l items := ⟨_, at1, rfl, nl, rfl⟩
  have n1 := PySem.F.sub_list_set
  have n2 := PySem.F.sub_list_frozenset
  have n3 : (Value.type "list" == .type "dict") = false := by decide
  have hT : Shared.TypeIs { s with heap := s.heap.push (freshSet led) } (.ref s.heap.objs.size) "set" := ⟨_, atS, rfl⟩
  unfold Builtin.«set.__init__» noKeywords Builtin.Frozenset.updateFrom; generalize hPI : pyIter = PI
  wp_walk
  rw [← hPI]
  refine wpAny_pyIter_list tup1 (wpAny_bind (wpAny_runValue ?_))
  have sz : (s.heap.push (freshSet led)).objs.size = s.heap.objs.size + 1 := Heap.size_push _ _
  have apart : l ≠ (s.heap.push (freshSet led)).objs.size := fun e => absurd (e.trans sz) (Nat.ne_of_lt (Nat.lt_succ_of_lt low))
  have len : xs.length = items.size := by rw [← strs_len texts, Array.length_toList]
  have dn : Dn (fun i => xs.getD i Str.empty) items.size = dd [] xs := by
    unfold Dn
    rw [← len, range_getD]
  refine fill_loop ((Walks.list (by simp [free]) _ l apart items).toS) (C := s.heap.objs.size) ?_ (fun i => xs.getD i Str.empty) (fun i v e => strs_get texts (by rw [Array.getElem?_toList]; exact e)) (by omega) items.size 0 _ (Nat.zero_add _)
    ⟨⟨_, Heap.get?_push_size _ rfl, rfl, rfl⟩, tup1.push _⟩ ?_ ?_
  · rw [sz]
    intro c
    simp only [List.mem_cons, List.not_mem_nil, or_false] at c
    rcases c with c | c
    · exact absurd c (Nat.ne_of_lt (Nat.lt_succ_self _))
    · exact absurd c.symm (Nat.ne_of_lt low)
  · refine setOf_eq ((setObjOf_fresh (knd := strKind prog w) led).setOf (Heap.get?_push_of_some _ atS) (by unfold scanBound; omega)) (funext fun q => ?_) rfl
    rfl
  · rintro ⟨h2, g2, d2, tk2, os2⟩ mv hs
    obtain rfl : g2 = s.gens := mv.gens
    obtain rfl : d2 = s.drawn := mv.drawn
    obtain rfl : os2 = s.os := mv.os
    rw [dn] at hs
    refine wpAny_pure (k h2 tk2 hs fun b o hb e => mv.heap b o ?_ (Heap.get?_push_of_some _ (Heap.get?_push_of_some _ e)))
    rw [sz]
    simp only [List.mem_cons, List.not_mem_nil, or_false, not_or]
    exact ⟨Nat.ne_of_lt hb, Nat.ne_of_lt (Nat.lt_succ_of_lt hb)⟩
theorem call_setLx {l : Addr} {items : Array Value} {xs : List Str} {Q : Value → Shared → Prop} (free : A.handled = none) (tup : s.heap.IsList l items) (texts : StrsAre items.toList xs) (small : xs.length + 1 < scanBound)
    (k : ∀ (h' : Heap) (tk : Nat), h'.SetOf (strKind prog w) s.heap.objs.size (fun q => decide (q ∈ dd [] xs)) (dd [] xs).length →
      (∀ b o, b < s.heap.objs.size → s.heap.get? b = some o → h'.get? b = some o) → Q (.ref s.heap.objs.size) { s with heap := h', toks := tk }) : wpAny (model prog w) A (call (.type "set") [.ref l]) Q E s := by
  have ⟨cc, tl, mro⟩ := PySem.F.called_set.mro
  have a1 := PySem.F.called_set.made; have a2 := PySem.F.called_set.sub
  have a3 := PySem.F.called_set.notType; have a4 := PySem.F.called_set.canCreate; have a5 := PySem.F.typeCall_set_1 (.ref l)
  refine wpAny_call (codeAny_of_tree (show wpAny _ _ (callAny (.type "set") _) _ _ _ from wpAny_pure ⟨Code.quiet_builtin _ (by decide +kernel), codeAny_builtin PySem.F.entry_type_call ?_⟩))
  rw [Around.under_plain (weight_type_call_type "set" [.ref l] []) rfl]
  repeat any_goals first | assumption | wp_step
  refine codeAny_mono (code_set_new_1 (.ref l) (E := E) (Q₁ := fun ob z => ∃ led : Bool, ob = .ref s.heap.objs.size ∧ z = { s with heap := s.heap.push (freshSet led) }) fun led => ⟨led, rfl, rfl⟩) fun r z hr => ?_
  match r, hr with
  | .ok (.ret ob), hr =>
    obtain ⟨led, rfl, rfl⟩ := hr
    have atS : (s.heap.push (freshSet led)).get? s.heap.objs.size = some (freshSet led) := Heap.get?_push_size _ rfl
    have hT : Shared.TypeIs { s with heap := s.heap.push (freshSet led) } (.ref s.heap.objs.size) "set" := ⟨_, atS, rfl⟩
    have b1 := PySem.F.called_set.init.lookup; have b2 := PySem.F.called_set.init.bind (.ref s.heap.objs.size)
    repeat any_goals first | assumption | wp_step
    refine codeAny_mono (codeAny_call_builtin (R := wants (fun r z => r = .none ∧ ∃ (h' : Heap) (tk : Nat), z = { s with heap := h', toks := tk } ∧ h'.SetOf (strKind prog w) s.heap.objs.size (fun q => decide (q ∈ dd [] xs)) (dd [] xs).length ∧
      ∀ b o, b < s.heap.objs.size → s.heap.get? b = some o → h'.get? b = some o) E) PySem.F.called_set.init.plain PySem.F.entry_set_init (check_set_init_1 hT ?_)) fun r2 z2 hr2 => ?_
    · exact init_setLx led (by simp [free]) tup texts small fun h2 tk hs keep => wpAny_pure ⟨rfl, h2, tk, rfl, hs, keep⟩
    · match r2, hr2 with
      | .ok (.ret v), hr2 =>
        obtain ⟨rfl, h2, tk, rfl, hs, keep⟩ := hr2
        repeat any_goals first | assumption | wp_step
        exact k h2 tk hs keep
      | .error e, hr2 => exact hr2
  | .error e, hr => exact hr
end
end Ow
namespace Ow
open PySem PySem.Spec PyProof.Rows L2
def tLenSetT (K : PySem.W.Frag) (ta : TE) : TE := fun σ H Q => ta σ H fun x H1 => ∃ (l : Addr) (xs : List Str), x = .ref l ∧ (SqT K H1 l (xs.map V.str) ∨ SqL K H1 l (xs.map V.str)) ∧ xs.length ≤ 1000 ∧ Q (.int (dd [] xs).length) H1
theorem strs_are : ∀ {xs : List Str} {us : List Value}, Vals (xs.map V.str) us → StrsAre us xs
  | [], _, .nil => .nil
  | x :: xs, _, .cons ⟨k, e⟩ t => e ▸ .cons x k (strs_are t)
theorem pe_lenSetT {X : Cx} {a : Expr} {ta : TE} {p p2 q pos : Pos} (calm : X.calm = true) (g1 : Gl X "len") (n1 : X.mg "len" = none) (g2 : Gl X "set") (n2 : X.mg "set" = none) (ha : PE X a ta)
    (na : starEach [a] X.env = (false, eval a X.env) :: starEach [] X.env := by rfl) : PE X (.Call (.Name "len" p) [.Call (.Name "set" p2) [a] [] q] [] pos) (tLenSetT X.K ta) := by
  refine ⟨fun pins s σ H Q I h => Call_ (ld_blt I g1 n1 boot_len (callWith_builtin1 (args_cons (Call_ (ld_blt I g2 n2 boot_set (callWith_type1 (args_cons (thn (ha.run pins s σ H _ I h) fun v s1 z => args_nil ?_) na) na rfl))) rfl) rfl rfl))⟩
  obtain ⟨x, H1, I1, r1, l, xs, rfl, hT, small, done⟩ := z
  cases r1
  have fin : ∀ (h2 : Heap) (tk : Nat), h2.SetOf (strKind X.prog X.w) s1.heap.objs.size (fun q => decide (q ∈ dd [] xs)) (dd [] xs).length → (∀ b o, b < s1.heap.objs.size → s1.heap.get? b = some o → h2.get? b = some o) →
      wpAny (model X.prog X.w) X.A (spliced (backTo pos (starEach [] X.env))) (fun vs s₂ => wpAny (model X.prog X.w) X.A (call (.builtin "len") (Value.ref s1.heap.objs.size :: vs)) (EP X pins σ Q) X.xe s₂) X.xe { s1 with heap := h2, toks := tk } := fun h2 tk hs keep => by
    refine args_nil ?_
    obtain ⟨ob, x1, x2, x3, at_, y1, y2, _, _, _, y3, y4⟩ := hs
    have I2 : Inv X pins σ H1 { s1 with heap := h2, toks := tk } := I1.kept fun b o e => keep b o (Heap.lt_size e) e
    have short := dd_len xs []
    have nn : ([] : List Str).length = 0 := rfl
    exact call_len_set at_ y1 y2 y3 (by rw [y4]; omega) ⟨.int (dd [] xs).length, H1, I2.tok _, ⟨_, by rw [y4]⟩, done⟩
  rcases hT with hT | hT
  · obtain ⟨us, r, tup, _⟩ := I1.tuple hT
    exact call_setTx (I1.ok.hd calm) tup (by simpa using strs_are r) (by unfold scanBound; omega) fin
  · obtain ⟨us, r, lst, _⟩ := I1.list hT
    exact call_setLx (I1.ok.hd calm) lst.isList (by simpa using strs_are r) (by unfold scanBound; omega) fin
end Ow

/-! What is a term, over any data. -/
namespace Ow
open PySem PySem.Spec PyProof.Rows L2
def unlikeN (xs : List Str) : Bool := decide ((dd [] xs).length = xs.length)
def caseOk : PyData → Bool
  | .tuple [m, .tuple ns, _] => isNameD m && decide (ns.length ≤ 4) && ns.all isNameD && unlikeN (ns.map nmD)
  | _ => false
def slotOk (s : Str) (d : PyData) : Bool :=
  if s = sg "name" then isNameD d else if s = sg "kind" then kindW 6 d else if s = sg "terms" then isRowD d 0 4 else if s = sg "cases" then isRowD d 1 6 && (itD d).all caseOk else true
def formsL : List (Str × List Str) := [(sg "@", [sg "name"]), (sg "^", [sg "name", sg "kind", sg "term"]), (sg "!", [sg "term", sg "term"]), (sg "&", [sg "term", sg "term"]), (sg "/", [sg "term", sg "name", sg "name", sg "term"]),
  (sg "#", [sg "name", sg "terms"]), (sg "?", [sg "term", sg "cases"]), (sg "+", [sg "term", sg "name", sg "name", sg "term"]), (sg "-", [sg "term", sg "term"])]
def formOf (s : Str) : Option (List Str) := (formsL.find? fun p => decide (p.1 = s)).map (·.2)
def sameN (a b : Option PyData) : Bool := decide (a.map nmD = b.map nmD)
def formedD : PyData → Bool
  | .str x => isNameD (.str x)
  | .tuple (.str s :: r) => match formOf s with
    | none => false
    | some sl => decide (r.length = sl.length) && (sl.zip r).all (fun p => slotOk p.1 p.2) && (!decide (s ∈ m2) || !sameN r[1]? r[2]?)
  | _ => false
/-- the shape of what is formed, what is within it left aside -/
inductive Sh : PyData → Prop
  | name (x : Str) : isNameD (.str x) = true → Sh (.str x)
  | at (x : Str) : isNameD (.str x) = true → Sh (.tuple [.str (Str.ofString "@"), .str x])
  | lam (x : Str) (k t : PyData) : isNameD (.str x) = true → kindW 6 k = true → Sh (.tuple [.str (Str.ofString "^"), .str x, k, t])
  | two (s : Str) (t u : PyData) : s ∈ [Str.ofString "!", Str.ofString "&", Str.ofString "-"] → Sh (.tuple [.str s, t, u])
  | five (s x y : Str) (t u : PyData) : s ∈ [Str.ofString "/", Str.ofString "+"] → isNameD (.str x) = true → isNameD (.str y) = true → x ≠ y → Sh (.tuple [.str s, t, .str x, .str y, u])
  | mk (c : Str) (ts : List PyData) : isNameD (.str c) = true → ts.length ≤ 4 → Sh (.tuple [.str (Str.ofString "#"), .str c, .tuple ts])
  | ch (t : PyData) (cs : List (Str × List Str × PyData)) : 1 ≤ cs.length → cs.length ≤ 6 → (∀ c ∈ cs, isNameD (.str c.1) = true ∧ c.2.1.length ≤ 4 ∧ (∀ x ∈ c.2.1, isNameD (.str x) = true) ∧ unlikeN c.2.1 = true) →
      Sh (.tuple [.str (Str.ofString "?"), t, .tuple (cs.map fun c => .tuple [.str c.1, .tuple (c.2.1.map strD), c.2.2])])
theorem name_str {d : PyData} (h : isNameD d = true) : ∃ x, d = .str x := by
  cases d with
  | str x => exact ⟨x, rfl⟩
  | _ => cases h
theorem names_of : ∀ {ns : List PyData}, ns.all isNameD = true → ∃ xs : List Str, ns = xs.map strD ∧ ∀ x ∈ xs, isNameD (.str x) = true
  | [], _ => ⟨[], rfl, fun _ z => nomatch z⟩
  | d :: ns, h => by
    rw [List.all_cons, Bool.and_eq_true] at h
    obtain ⟨x, rfl⟩ := name_str h.1
    obtain ⟨xs, rfl, hx⟩ := names_of h.2
    refine ⟨x :: xs, rfl, fun y hy => ?_⟩
    rcases List.mem_cons.mp hy with rfl | hy
    · exact h.1
    · exact hx y hy
theorem case_of {d : PyData} (h : caseOk d = true) : ∃ c : Str × List Str × PyData, d = .tuple [.str c.1, .tuple (c.2.1.map strD), c.2.2] ∧ isNameD (.str c.1) = true ∧ c.2.1.length ≤ 4 ∧ (∀ x ∈ c.2.1, isNameD (.str x) = true) ∧ unlikeN c.2.1 = true := by
  unfold caseOk at h
  split at h
  · rename_i m ns u
    simp only [Bool.and_eq_true, decide_eq_true_eq] at h
    obtain ⟨⟨⟨h1, h2⟩, h3⟩, h4⟩ := h
    obtain ⟨x, rfl⟩ := name_str h1
    obtain ⟨xs, rfl, hx⟩ := names_of h3
    rw [nm_map] at h4
    rw [List.length_map] at h2
    exact ⟨(x, xs, u), rfl, h1, h2, hx, h4⟩
  · cases h
theorem cases_of : ∀ {ds : List PyData}, ds.all caseOk = true → ∃ cs : List (Str × List Str × PyData), ds = cs.map (fun c => .tuple [.str c.1, .tuple (c.2.1.map strD), c.2.2]) ∧ ∀ c ∈ cs, isNameD (.str c.1) = true ∧ c.2.1.length ≤ 4 ∧ (∀ x ∈ c.2.1, isNameD (.str x) = true) ∧ unlikeN c.2.1 = true
  | [], _ => ⟨[], rfl, fun _ z => nomatch z⟩
  | d :: ds, h => by
    rw [List.all_cons, Bool.and_eq_true] at h
    obtain ⟨c, rfl, hc⟩ := case_of h.1
    obtain ⟨cs, rfl, hcs⟩ := cases_of h.2
    refine ⟨c :: cs, rfl, fun e he => ?_⟩
    rcases List.mem_cons.mp he with rfl | he
    · exact hc
    · exact hcs e he
theorem slot_name (d : PyData) : slotOk (sg "name") d = isNameD d := if_pos rfl
theorem slot_kind (d : PyData) : slotOk (sg "kind") d = kindW 6 d := (if_neg (by decide +kernel)).trans (if_pos rfl)
theorem slot_terms (d : PyData) : slotOk (sg "terms") d = isRowD d 0 4 := (if_neg (by decide +kernel)).trans ((if_neg (by decide +kernel)).trans (if_pos rfl))
theorem slot_cases (d : PyData) : slotOk (sg "cases") d = (isRowD d 1 6 && (itD d).all caseOk) := (if_neg (by decide +kernel)).trans ((if_neg (by decide +kernel)).trans ((if_neg (by decide +kernel)).trans (if_pos rfl)))
theorem slot_term (d : PyData) : slotOk (sg "term") d = true := (if_neg (by decide +kernel)).trans ((if_neg (by decide +kernel)).trans ((if_neg (by decide +kernel)).trans (if_neg (by decide +kernel))))
theorem form_cases {s : Str} {sl : List Str} (h : formOf s = some sl) : (s, sl) ∈ formsL := by
  unfold formOf at h
  obtain ⟨p, hp, rfl⟩ := Option.map_eq_some_iff.mp h
  have e := List.find?_some hp
  rw [← of_decide_eq_true e]
  exact List.mem_of_find?_eq_some hp
theorem row_tup {d : PyData} {a b : Int} (h : isRowD d a b = true) : ∃ ds, d = .tuple ds ∧ a ≤ (ds.length : Int) ∧ (ds.length : Int) ≤ b := by
  cases d with
  | tuple ds =>
    refine ⟨ds, rfl, ?_⟩
    simpa [isRowD] using h
  | _ => cases h
theorem form_eq {s : Str} {r : List PyData} : formedD (.tuple (.str s :: r)) = match formOf s with
    | none => false
    | some sl => decide (r.length = sl.length) && (sl.zip r).all (fun p => slotOk p.1 p.2) && (!decide (s ∈ m2) || !sameN r[1]? r[2]?) := rfl
theorem len1 {α : Type} {r : List α} (h : r.length = 1) : ∃ a, r = [a] := by
  match r, h with
  | [a], _ => exact ⟨a, rfl⟩
theorem len2 {α : Type} {r : List α} (h : r.length = 2) : ∃ a b, r = [a, b] := by
  match r, h with
  | [a, b], _ => exact ⟨a, b, rfl⟩
theorem len3 {α : Type} {r : List α} (h : r.length = 3) : ∃ a b c, r = [a, b, c] := by
  match r, h with
  | [a, b, c], _ => exact ⟨a, b, c, rfl⟩
theorem len4 {α : Type} {r : List α} (h : r.length = 4) : ∃ a b c d, r = [a, b, c, d] := by
  match r, h with
  | [a, b, c, d], _ => exact ⟨a, b, c, d, rfl⟩
theorem formed_sh {d : PyData} (h : formedD d = true) : Sh d := by
  unfold formedD at h
  split at h
  · exact .name _ h
  · rename_i s r
    split at h
    · cases h
    · rename_i sl hs
      simp only [Bool.and_eq_true, decide_eq_true_eq] at h
      obtain ⟨⟨hl, ha⟩, hm⟩ := h
      have hf := form_cases hs
      simp only [formsL, List.mem_cons, List.not_mem_nil, or_false, Prod.mk.injEq] at hf
      rcases hf with ⟨rfl, rfl⟩ | ⟨rfl, rfl⟩ | ⟨rfl, rfl⟩ | ⟨rfl, rfl⟩ | ⟨rfl, rfl⟩ | ⟨rfl, rfl⟩ | ⟨rfl, rfl⟩ | ⟨rfl, rfl⟩ | ⟨rfl, rfl⟩
      · obtain ⟨a, rfl⟩ := len1 hl
        simp only [List.zip_cons_cons, List.zip_nil_left, List.all_cons, List.all_nil, slot_name, Bool.and_true] at ha
        obtain ⟨x, rfl⟩ := name_str ha
        exact .at x ha
      · obtain ⟨a, b, c, rfl⟩ := len3 hl
        simp only [List.zip_cons_cons, List.zip_nil_left, List.all_cons, List.all_nil, slot_name, slot_kind, slot_term, Bool.and_true, Bool.and_eq_true] at ha
        obtain ⟨x, rfl⟩ := name_str ha.1
        exact .lam x b c ha.1 ha.2
      · obtain ⟨a, b, rfl⟩ := len2 hl
        exact .two _ a b (by simp)
      · obtain ⟨a, b, rfl⟩ := len2 hl
        exact .two _ a b (by simp)
      · obtain ⟨a, b, c, e, rfl⟩ := len4 hl
        simp only [List.zip_cons_cons, List.zip_nil_left, List.all_cons, List.all_nil, slot_name, slot_term, Bool.and_true, Bool.true_and, Bool.and_eq_true] at ha
        obtain ⟨x, rfl⟩ := name_str ha.1
        obtain ⟨y, rfl⟩ := name_str ha.2
        refine .five _ x y a e (by simp) ha.1 ha.2 fun hxy => ?_
        subst hxy
        simp [sameN] at hm
      · obtain ⟨a, b, rfl⟩ := len2 hl
        simp only [List.zip_cons_cons, List.zip_nil_left, List.all_cons, List.all_nil, slot_name, slot_terms, Bool.and_true, Bool.and_eq_true] at ha
        obtain ⟨x, rfl⟩ := name_str ha.1
        obtain ⟨ts, rfl, _, h4⟩ := row_tup ha.2
        exact .mk x ts ha.1 (by omega)
      · obtain ⟨a, b, rfl⟩ := len2 hl
        simp only [List.zip_cons_cons, List.zip_nil_left, List.all_cons, List.all_nil, slot_term, slot_cases, Bool.and_true, Bool.true_and, Bool.and_eq_true] at ha
        obtain ⟨ts, rfl, h1, h6⟩ := row_tup ha.1
        obtain ⟨cs, rfl, hcs⟩ := cases_of (ds := ts) ha.2
        rw [List.length_map] at h1 h6
        exact .ch a cs (by omega) (by omega) hcs
      · obtain ⟨a, b, c, e, rfl⟩ := len4 hl
        simp only [List.zip_cons_cons, List.zip_nil_left, List.all_cons, List.all_nil, slot_name, slot_term, Bool.and_true, Bool.true_and, Bool.and_eq_true] at ha
        obtain ⟨x, rfl⟩ := name_str ha.1
        obtain ⟨y, rfl⟩ := name_str ha.2
        refine .five _ x y a e (by simp) ha.1 ha.2 fun hxy => ?_
        subst hxy
        simp [sameN] at hm
      · obtain ⟨a, b, rfl⟩ := len2 hl
        exact .two _ a b (by simp)
  · cases h
end Ow

/-! How large a term is; rows of what stands within. -/
namespace Ow
open PySem PySem.Spec PyProof.Rows L2
theorem kidsS_fit {d : PyData} (h : Sh d) : ∀ {w m : Nat}, Fit w m d → FitAll w m ((kids d).map (·.2)) := by
  intro w m f
  cases h with
  | name x _ => exact FitAll.nil.le (Nat.zero_le _) (Nat.le_refl _)
  | «at» x _ => exact FitAll.nil.le (Nat.zero_le _) (Nat.le_refl _)
  | lam x kk t _ _ =>
    obtain ⟨a, b, l, f1, f2⟩ := f.inner.unc
    obtain ⟨a2, b2, l2, f3, f4⟩ := f2.unc
    obtain ⟨a3, b3, l3, f5, f6⟩ := f4.unc
    exact f6.le (by omega) (Nat.le_refl _)
  | two s t u hs =>
    rw [kids_two _ _ hs]
    exact f.two.1
  | five s x y t u hs _ _ _ =>
    obtain ⟨a, b, l, f1, f2⟩ := f.inner.unc
    obtain ⟨a2, b2, l2, f3, f4⟩ := f2.unc
    obtain ⟨a3, b3, l3, f5, f6⟩ := f4.unc
    obtain ⟨a4, b4, l4, f7, f8⟩ := f6.unc
    exact (FitAll.cons f3 f8).le (by omega) (Nat.le_refl _)
  | mk c ts _ _ =>
    rw [kids_mk, List.map_map]
    have := f.two.2.1.inner
    rwa [show ts.map ((fun x : List Str × PyData => x.2) ∘ fun t => ([], t)) = ts from List.map_id _]
  | ch t cs _ _ _ =>
    rw [kids_ch]
    obtain ⟨a, b, l, f1, f2⟩ := f.inner.unc
    obtain ⟨a2, b2, l2, f3, f4⟩ := f2.unc
    obtain ⟨a3, b3, l3, f5, f6⟩ := f4.unc
    have g2 := FitAll.fmap (fun c => (caseD c).2) (fun d hd => by
      obtain ⟨c, _, rfl⟩ := List.mem_map.mp hd
      intro n m q
      exact q.two.2.1) f5.inner
    rw [List.map_map] at g2
    show FitAll w m (_ :: (cs.map (·.2)).map (·.2))
    rw [List.map_map]
    exact (FitAll.cons f3 g2).le (by omega) (Nat.le_refl _)
theorem kidsS_len {d : PyData} (h : Sh d) : (kids d).length ≤ 7 := by
  cases h with
  | name x _ => exact Nat.zero_le _
  | «at» x _ => exact Nat.zero_le _
  | lam x kk t _ _ => show 1 ≤ 7; omega
  | two s t u hs => rw [kids_two _ _ hs]; show 2 ≤ 7; omega
  | five s x y t u hs _ _ _ => show 2 ≤ 7; omega
  | mk c ts _ h4 => rw [kids_mk, List.length_map]; omega
  | ch t cs _ h6 _ => rw [kids_ch, List.length_cons, List.length_map]; omega
def addO : Option Nat → Option Nat → Option Nat
  | some a, some b => some (a + b)
  | _, _ => none
def sumO : List (Option Nat) → Option Nat
  | [] => some 0
  | x :: xs => addO x (sumO xs)
theorem addO_assoc (a b c : Option Nat) : addO (addO a b) c = addO a (addO b c) := by
  cases a <;> cases b <;> cases c <;> simp [addO, Nat.add_assoc]
theorem addO_zero (a : Option Nat) : addO (some 0) a = a := by cases a <;> simp [addO]
theorem addO_none (a : Option Nat) : addO a none = none := by cases a <;> rfl
theorem sumO_app (xs ys : List (Option Nat)) : sumO (xs ++ ys) = addO (sumO xs) (sumO ys) := by
  induction xs with
  | nil => exact (addO_zero _).symm
  | cons x xs ih =>
    show addO x (sumO (xs ++ ys)) = addO (addO x (sumO xs)) (sumO ys)
    rw [ih, addO_assoc]
def sizedD : Nat → PyData → Option Nat
  | 0, _ => none
  | n + 1, d => if formedD d = true then addO (some 1) (sumO ((kids d).map fun k => sizedD n k.2)) else none
def upTo (n : Nat) : Option Nat → Bool
  | some k => decide (k ≤ n)
  | none => false
def termD (d : PyData) : Bool := upTo 200 (sizedD 30 d)
theorem sized_pos : ∀ {n : Nat} {d : PyData} {k : Nat}, sizedD n d = some k → 1 ≤ k
  | n + 1, d, k, h => by
    rw [sizedD] at h
    split at h
    · cases e : sumO ((kids d).map fun k => sizedD n k.2) with
      | none =>
        rw [e] at h
        cases h
      | some j =>
        rw [e] at h
        cases h
        omega
    · cases h
/-! rows that answer to a list, one by one -/
inductive AP {α : Type} (R : V → α → Prop) : List V → List α → Prop
  | nil : AP R [] []
  | cons {u : V} {us : List V} {q : α} {qs : List α} : R u q → AP R us qs → AP R (u :: us) (q :: qs)
section
variable {α : Type} {R S : V → α → Prop}
theorem AP.mono (h : ∀ u q, R u q → S u q) : ∀ {us : List V} {qs : List α}, AP R us qs → AP S us qs
  | _, _, .nil => .nil
  | _, _, .cons a b => .cons (h _ _ a) (b.mono h)
theorem AP.append : ∀ {us vs : List V} {qs rs : List α}, AP R us qs → AP R vs rs → AP R (us ++ vs) (qs ++ rs)
  | _, _, _, _, .nil, h => h
  | _, _, _, _, .cons a b, h => .cons a (b.append h)
theorem AP.length : ∀ {us : List V} {qs : List α}, AP R us qs → us.length = qs.length
  | _, _, .nil => rfl
  | _, _, .cons a b => by rw [List.length_cons, List.length_cons, b.length]
theorem AP.get : ∀ {us : List V} {qs : List α}, AP R us qs → ∀ {i : Nat} {u : V}, us[i]? = some u → ∃ q, qs[i]? = some q ∧ R u q
  | _, _, .nil, i, u, e => by cases e
  | _, _, .cons a b, 0, u, e => by
    cases e
    exact ⟨_, rfl, a⟩
  | _, _, .cons a b, i + 1, u, e => b.get (i := i) e
theorem AP.nil_of {us : List V} (h : AP R us []) : us = [] := by
  cases h
  rfl
theorem AP.snoc {qs : List α} {q : α} : ∀ {us : List V}, AP R us (qs ++ [q]) → ∃ vs u, us = vs ++ [u] ∧ AP R vs qs ∧ R u q := by
  induction qs with
  | nil =>
    intro us h
    cases h with
    | cons a b =>
      cases b
      exact ⟨[], _, rfl, .nil, a⟩
  | cons e qs ih =>
    intro us h
    cases h with
    | cons a b =>
      obtain ⟨vs, u, rfl, h1, h2⟩ := ih b
      exact ⟨_ :: vs, u, rfl, .cons a h1, h2⟩
end
/-- a row of the names that are given and of what stands within: this is read in the heap H0 -/
def KRow (K : PySem.W.Frag) (N : Addr → Prop) (H0 H : Hp) (u : V) (k : List Str × PyData) : Prop := ∃ (t n : Addr) (v : V), u = .ref t ∧ SqT K H t [.ref n, v] ∧ SqT K H n (k.1.map V.str) ∧ Da K N H0 v k.2
theorem KRow.ts {K : PySem.W.Frag} {N : Addr → Prop} {H0 H H' : Hp} (s : Ts K H H') (u : V) (k : List Str × PyData) (h : KRow K N H0 H u k) : KRow K N H0 H' u k := by
  obtain ⟨t, n, v, rfl, h1, h2, h3⟩ := h
  exact ⟨t, n, v, rfl, s _ _ h1, s _ _ h2, h3⟩
def spKidsS (K : PySem.W.Frag) : Sp := fun vs H Q _ => ∃ (N : Addr → Prop) (H0 : Hp) (v : V) (d : PyData), vs = [v] ∧ Same H0 H ∧ Da K N H0 v d ∧ Sh d ∧
  ∀ (L : Addr) (us : List V) (H' : Hp), Same H H' → H L = none → H' L = some (.lst us) → AP (KRow K N H0 H') us (kids d) → Q (.ref L) H'
def spUnlike (K : PySem.W.Frag) : Sp := fun vs H Q _ => ∃ (t : Addr) (xs : List Str), vs = [.ref t] ∧ (SqT K H t (xs.map V.str) ∨ SqL K H t (xs.map V.str)) ∧ xs.length ≤ 1000 ∧ Q (.bl (unlikeN xs)) H
def spOf (K : PySem.W.Frag) (f : PyData → Bool) : Sp := fun vs H Q _ => ∃ (N : Addr → Prop) (v : V) (d : PyData) (n m : Nat), vs = [v] ∧ Da K N H v d ∧ Fit n m d ∧ n ≤ 16000000 ∧ ∀ H', Same H H' → Q (.bl (f d)) H'
def spSlot (K : PySem.W.Frag) : Sp := fun vs H Q _ => ∃ (N : Addr → Prop) (s : Str) (v : V) (d : PyData) (n m : Nat), vs = [.str s, v] ∧ Da K N H v d ∧ Fit n m d ∧ n ≤ 16000000 ∧ ∀ H', Same H H' → Q (.bl (slotOk s d)) H'
/-- the table of forms, as the module keeps it -/
structure Forms (K : PySem.W.Frag) (w : World) (d : Addr) : Prop where
  dict : ∃ es n, KDict K w d es n
  no : ∀ z, formOf z = none → PySem.W.nsIn K d z = some none
  yes : ∀ z sl, formOf z = some sl → ∃ a, PySem.W.nsIn K d z = some (some (.ref a)) ∧ ∀ H, SqT K H a (sl.map V.str)
theorem acc_ap {K : PySem.W.Frag} {N : Addr → Prop} {H0 H : Hp} {D : Addr} {us : List V} {ks : List (List Str × PyData)} {y : V} {k : List Str × PyData} (e : H D = some (.lst us)) (h : AP (KRow K N H0 H) us ks) (g : KRow K N H0 H y k) :
    AP (KRow K N H0 (upd H D (.lst (us ++ [y])))) (us ++ [y]) (ks ++ [k]) := (h.append (.cons g .nil)).mono (KRow.ts (Ts.put e))
theorem AP.same {K : PySem.W.Frag} {N : Addr → Prop} {H0 H H' : Hp} {us : List V} {ks : List (List Str × PyData)} (h : AP (KRow K N H0 H) us ks) (s : Same H H') : AP (KRow K N H0 H') us ks := h.mono (KRow.ts (Ts.of s))
theorem KRow.same {K : PySem.W.Frag} {N : Addr → Prop} {H0 H H' : Hp} {u : V} {k : List Str × PyData} (h : KRow K N H0 H u k) (s : Same H H') : KRow K N H0 H' u k := h.ts (Ts.of s)
theorem krow {K : PySem.W.Frag} {N : Addr → Prop} {H0 H : Hp} {t n : Addr} {v : V} {d : PyData} {xs : List Str} (h : SqT K H t [.ref n, v]) (h1 : SqT K H n (xs.map V.str)) (h2 : Da K N H0 v d) : KRow K N H0 H (.ref t) (xs, d) := ⟨t, n, v, rfl, h, h1, h2⟩
theorem case_no {d : PyData} (h : isRowD d 3 3 = false) : caseOk d = false := by
  unfold caseOk
  split
  · simp [isRowD] at h
  · rfl
theorem case_yes (a b c : PyData) : caseOk (.tuple [a, b, c]) = (isNameD a && (isRowD b 0 4 && ((itD b).all isNameD && unlikeN ((itD b).map nmD)))) := by
  cases b with
  | tuple ns =>
    show (isNameD a && decide (ns.length ≤ 4) && ns.all isNameD && unlikeN (ns.map nmD)) = (isNameD a && (isRowD (.tuple ns) 0 4 && (ns.all isNameD && unlikeN (ns.map nmD))))
    have e : isRowD (.tuple ns) 0 4 = decide (ns.length ≤ 4) := by
      simp only [isRowD]
      by_cases h : ns.length ≤ 4
      · simp [h]; omega
      · simp [h]; omega
    rw [e]
    cases isNameD a <;> cases decide (ns.length ≤ 4) <;> cases ns.all isNameD <;> cases unlikeN (ns.map nmD) <;> rfl
  | _ => simp [caseOk, isRowD]
/-- a comprehension over a zip of two tuples of one length -/
theorem lc_zip2 {K : PySem.W.Frag} {a b : Addr} {xs ys : List V} {g : TG} {tt : TT} {te : TE} {vs : List Nat} {σ : L2.St} {H1 : Hp} {D : Addr} {Qd : Hp → Prop} (hl : xs.length = ys.length) (Pv : Nat → Hp → Prop) (h0 : Pv 0 (upd H1 D (.lst [])))
    (hq : ∀ i H, Pv i H → SqT K H a xs ∧ SqT K H b ys)
    (hs : ∀ i x y T H, xs[i]? = some x → ys[i]? = some y → Pv i H → H T = none → g (.ref T) (wipe σ vs) (upd H T (.tup [x, y])) fun σ2 H2 => wipe σ2 vs = wipe σ vs ∧ tt σ2 H2 fun b H3 =>
      if b = true then te σ2 H3 fun y H4 => ∃ acc, H4 D = some (.lst acc) ∧ acc.length < sizeLine ∧ Pv (i + 1) (upd H4 D (.lst (acc ++ [y]))) else Pv (i + 1) H3) (hd : ∀ H, Pv xs.length H → Qd H) : LcG (RZ.ItzT K a b) g tt te vs σ H1 D Qd := by
  refine ⟨fun i m H => m = xs.length - i ∧ i ≤ xs.length ∧ Pv i H, ⟨_, rfl, Nat.zero_le _, h0⟩, ?_⟩
  rintro i m H ⟨rfl, hi, p⟩
  obtain ⟨qx, qy⟩ := hq i H p
  by_cases lt : i < xs.length
  · refine .inr ⟨⟨xs, ys, xs[i], ys[i]'(hl ▸ lt), qx, qy, List.getElem?_eq_getElem lt, List.getElem?_eq_getElem (hl ▸ lt)⟩, Pv (i + 1), fun H' p' => ⟨xs.length - (i + 1), by omega, rfl, lt, p'⟩, fun v H' y => ?_⟩
    obtain ⟨T, x, z, rfl, hT, rfl, f1, f2⟩ := y
    exact hs i x z T H (f1 xs qx) (f2 ys qy) p hT
  · obtain rfl : i = xs.length := by omega
    exact .inl ⟨⟨xs, ys, qx, qy, .inl (Nat.le_refl _)⟩, hd H p⟩
theorem formed_no {d : PyData} (h1 : tyD d ≠ "str") (h2 : tyD d ≠ "tuple") : formedD d = false := by
  cases d with
  | str x => exact absurd rfl h1
  | tuple ds => exact absurd rfl h2
  | _ => rfl
theorem formed_nos {d : PyData} {r : List PyData} (h1 : tyD d ≠ "str") : formedD (.tuple (d :: r)) = false := by
  cases d with
  | str x => exact absurd rfl h1
  | _ => rfl
theorem formed_none {z : Str} {r : List PyData} (h : formOf z = none) : formedD (.tuple (.str z :: r)) = false := by rw [form_eq, h]
theorem formed_some {z : Str} {r : List PyData} {sl : List Str} (h : formOf z = some sl) : formedD (.tuple (.str z :: r)) = (decide (r.length = sl.length) && (sl.zip r).all (fun p => slotOk p.1 p.2) && (!decide (z ∈ m2) || !sameN r[1]? r[2]?)) := by rw [form_eq, h]
theorem form_len {z : Str} {sl : List Str} (h : formOf z = some sl) : sl.length ≤ 4 := by
  have hf := form_cases h
  simp only [formsL, List.mem_cons, List.not_mem_nil, or_false, Prod.mk.injEq] at hf
  rcases hf with ⟨rfl, rfl⟩ | ⟨rfl, rfl⟩ | ⟨rfl, rfl⟩ | ⟨rfl, rfl⟩ | ⟨rfl, rfl⟩ | ⟨rfl, rfl⟩ | ⟨rfl, rfl⟩ | ⟨rfl, rfl⟩ | ⟨rfl, rfl⟩ <;> decide
theorem form_m2 {z : Str} {sl : List Str} (h : formOf z = some sl) (hz : z ∈ m2) : sl = [sg "term", sg "name", sg "name", sg "term"] := by
  simp only [List.mem_cons, List.not_mem_nil, or_false] at hz
  rcases hz with rfl | rfl
  · have e : formOf (Str.ofString "/") = some [sg "term", sg "name", sg "name", sg "term"] := by decide +kernel
    rw [e] at h
    exact (Option.some.inj h).symm
  · have e : formOf (Str.ofString "+") = some [sg "term", sg "name", sg "name", sg "term"] := by decide +kernel
    rw [e] at h
    exact (Option.some.inj h).symm
theorem dec_intN {a b : Nat} : decide (V.int (a : Int) = V.int (b : Int)) = decide (a = b) := decide_eq_decide.mpr ⟨fun z => by
  injection z with z
  exact Int.ofNat.inj z, fun z => by rw [z]⟩
theorem at_zero {x : V} {xs : List V} : atI (x :: xs) 0 = some x := by
  have e : ixN (x :: xs).length 0 = some 0 := by
    unfold ixN
    rw [if_pos (by omega), if_pos (by rw [List.length_cons]; omega)]
    rfl
  show (ixN (x :: xs).length 0).bind _ = _
  rw [e]
  rfl
theorem cut_one (x : V) (xs : List V) : cutV (x :: xs) (some 1) none = xs := cut_drop (x :: xs) 1
theorem iteNF {c A B : Prop} [Decidable c] (hc : ¬ c) (h : A) : if (!decide c) = true then A else B := by
  rw [decide_eq_false hc]
  exact iteT h
theorem same_str {x y : Str} {r : List PyData} {d e : PyData} : sameN (d :: .str x :: .str y :: r)[1]? (d :: .str x :: .str y :: r)[2]? = decide (x = y) := by
  show decide (some x = some y) = _
  exact decide_eq_decide.mpr ⟨fun z => Option.some.inj z, fun z => by rw [z]⟩
theorem all_zip {sl : List Str} {r : List PyData} : ((sl.zip r).map fun p => slotOk p.1 p.2).all id = (sl.zip r).all fun p => slotOk p.1 p.2 := by
  rw [List.all_map]
  rfl
def okSum (many : Nat) (qs : List (PyData × Nat)) : Bool := upTo 200 (addO (some many) (sumO (qs.map fun q => sizedD (31 - q.2) q.1)))
theorem okSum_nil {many : Nat} (h : many ≤ 200) : okSum many [] = true := by
  show decide (many + 0 ≤ 200) = true
  exact decide_eq_true h
theorem okSum_one (d : PyData) : okSum 0 [(d, 1)] = termD d := by
  show upTo 200 (addO (some 0) (addO (sizedD 30 d) (some 0))) = upTo 200 (sizedD 30 d)
  rw [addO_zero]
  cases sizedD 30 d <;> rfl
theorem okSum_snoc (many : Nat) (qs : List (PyData × Nat)) (q : PyData × Nat) : okSum many (qs ++ [q]) = upTo 200 (addO (some many) (addO (sumO (qs.map fun q => sizedD (31 - q.2) q.1)) (sizedD (31 - q.2) q.1))) := by
  unfold okSum
  rw [List.map_append, sumO_app]
  show upTo 200 (addO _ (addO _ (addO (sizedD (31 - q.2) q.1) (some 0)))) = _
  have e : addO (sizedD (31 - q.2) q.1) (some 0) = sizedD (31 - q.2) q.1 := by cases sizedD (31 - q.2) q.1 <;> rfl
  rw [e]
theorem okSum_none {many : Nat} {qs : List (PyData × Nat)} {q : PyData × Nat} (h : sizedD (31 - q.2) q.1 = none) : okSum many (qs ++ [q]) = false := by
  rw [okSum_snoc, h, addO_none, addO_none]
  rfl
theorem okSum_full {many : Nat} {qs : List (PyData × Nat)} {q : PyData × Nat} (hm : 200 ≤ many) : okSum many (qs ++ [q]) = false := by
  cases h : sizedD (31 - q.2) q.1 with
  | none => exact okSum_none h
  | some k =>
    have := sized_pos h
    rw [okSum_snoc, h]
    cases sumO (qs.map fun q => sizedD (31 - q.2) q.1) with
    | none => rfl
    | some s =>
      show decide (many + (s + k) ≤ 200) = false
      exact decide_eq_false (by omega)
theorem okSum_step {many : Nat} {qs : List (PyData × Nat)} {q : PyData × Nat} (hf : formedD q.1 = true) (h30 : q.2 ≤ 30) : okSum (many + 1) (qs ++ (kids q.1).map fun k => (k.2, q.2 + 1)) = okSum many (qs ++ [q]) := by
  rw [okSum_snoc]
  have e : 31 - q.2 = (30 - q.2) + 1 := by omega
  rw [e, sizedD, if_pos hf]
  unfold okSum
  rw [List.map_append, sumO_app, List.map_map]
  have e2 : ((fun q : PyData × Nat => sizedD (31 - q.2) q.1) ∘ fun k : List Str × PyData => (k.2, q.2 + 1)) = fun k => sizedD (30 - q.2) k.2 := by
    funext k
    show sizedD (31 - (q.2 + 1)) k.2 = _
    rw [show 31 - (q.2 + 1) = 30 - q.2 by omega]
  rw [e2]
  cases sumO (qs.map fun q => sizedD (31 - q.2) q.1) with
  | none => rfl
  | some a =>
    cases sumO ((kids q.1).map fun k => sizedD (30 - q.2) k.2) with
    | none => rfl
    | some b =>
      show decide (many + 1 + (a + b) ≤ 200) = decide (many + (a + (1 + b)) ≤ 200)
      exact decide_eq_decide.mpr (by omega)
def RT (K : PySem.W.Frag) (N : Addr → Prop) (H0 H : Hp) (u : V) (q : PyData × Nat) : Prop := ∃ (t : Addr) (v : V), u = .ref t ∧ SqT K H t [v, .int (q.2 : Int)] ∧ Da K N H0 v q.1
theorem RT.ts {K : PySem.W.Frag} {N : Addr → Prop} {H0 H H' : Hp} (s : Ts K H H') (u : V) (q : PyData × Nat) (h : RT K N H0 H u q) : RT K N H0 H' u q := by
  obtain ⟨t, v, rfl, h1, h2⟩ := h
  exact ⟨t, v, rfl, s _ _ h1, h2⟩
def lunl (o : Int) : PyData → Bool
  | .tuple ds => decide ((ds.length : Int) ≤ o) && (ds.all isNameD && unlikeN (ds.map nmD))
  | _ => false
theorem lunl_no {o : Int} {d : PyData} (h : tyD d ≠ "tuple") : lunl o d = false := by
  cases d with
  | tuple ds => exact absurd rfl h
  | _ => rfl
def spLUnlike (K : PySem.W.Frag) : Sp := fun vs H Q _ => ∃ (N : Addr → Prop) (v : V) (d : PyData) (n m : Nat) (o : Int), vs = [v, .int o] ∧ Da K N H v d ∧ Fit n m d ∧ n ≤ 16000000 ∧ o ≤ 100 ∧ ∀ H', Same H H' → Q (.bl (lunl o d)) H'
def oV : Option Nat → V
  | none => .non
  | some k => .int k
def spSizes : Sp := fun vs H Q _ => ∃ (a : Addr) (os : List (Option Nat)), vs = [.ref a] ∧ H a = some (.lst (os.map oV)) ∧ os.length ≤ 1000 ∧ Q (oV (sumO os)) H
def spSized (K : PySem.W.Frag) (k : Nat) : Sp := fun vs H Q _ => ∃ (N : Addr → Prop) (v : V) (d : PyData) (n m : Nat) (z : Int), vs = [v, .int z] ∧ z = (k : Int) ∧ Da K N H v d ∧ Fit n m d ∧ n ≤ 8000000 ∧ ∀ H', Same H H' → Q (oV (sizedD k d)) H'
theorem sizes_in (os : List (Option Nat)) : (inV .non (os.map oV) = true ∧ sumO os = none) ∨ (inV .non (os.map oV) = false ∧ ∃ ns : List Nat, os.map oV = (ns.map Int.ofNat).map V.int ∧ sumO os = some ns.sum) := by
  induction os with
  | nil => exact .inr ⟨rfl, [], rfl, rfl⟩
  | cons o os ih =>
    cases o with
    | none => exact .inl ⟨rfl, rfl⟩
    | some k =>
      rcases ih with ⟨h1, h2⟩ | ⟨h1, ns, h2, h3⟩
      · refine .inl ⟨?_, ?_⟩
        · show (false || inV .non (os.map oV)) = true
          rw [h1]
          rfl
        · show addO (some k) (sumO os) = none
          rw [h2]
          rfl
      · refine .inr ⟨?_, k :: ns, ?_, ?_⟩
        · show (false || inV .non (os.map oV)) = false
          rw [h1]
          rfl
        · rw [List.map_cons, h2]
          rfl
        · show addO (some k) (sumO os) = _
          rw [h3, List.sum_cons]
          rfl
theorem flat_oV (os : List (Option Nat)) : (os.map oV).all flatV = true := by
  rw [List.all_map, List.all_eq_true]
  intro o _
  cases o <;> rfl
theorem sum_cast (ns : List Nat) : (ns.map Int.ofNat).sum = (ns.sum : Int) := by
  induction ns with
  | nil => rfl
  | cons n ns ih =>
    rw [List.map_cons, List.sum_cons, List.sum_cons, ih]
    exact (Int.natCast_add n ns.sum).symm
def rLenS (K : PySem.W.Frag) : List V → Hp → VK → Prop := fun xs H Q => ∃ p ys, xs = [V.ref p] ∧ (SqL K H p ys ∨ SqT K H p ys) ∧ Q (.int ys.length) H
theorem lenK {X : Cx} {K : PySem.W.Frag} (h : X.K = K) : CallR X (.builtin "len") (rLenS K) := h ▸ call_len_seq
end Ow

/-! Forms, sign by sign. -/
namespace Ow
open PySem PySem.Spec PyProof.Rows L2
theorem fd_len {s : Str} {r : List PyData} {sl : List Str} (h : formOf s = some sl) (hl : r.length ≠ sl.length) : formedD (.tuple (.str s :: r)) = false := by
  rw [formed_some h, decide_eq_false hl]
  rfl
theorem f_at : formOf (Str.ofString "@") = some [sg "name"] := by decide +kernel
theorem f_lam : formOf (Str.ofString "^") = some [sg "name", sg "kind", sg "term"] := by decide +kernel
theorem f_mk : formOf (Str.ofString "#") = some [sg "name", sg "terms"] := by decide +kernel
theorem f_ch : formOf (Str.ofString "?") = some [sg "term", sg "cases"] := by decide +kernel
theorem f_two {s : Str} (h : s ∈ m3) : formOf s = some [sg "term", sg "term"] := by
  simp only [List.mem_cons, List.not_mem_nil, or_false] at h
  rcases h with rfl | rfl | rfl <;> decide +kernel
theorem f_five {s : Str} (h : s ∈ m2) : formOf s = some [sg "term", sg "name", sg "name", sg "term"] := by
  simp only [List.mem_cons, List.not_mem_nil, or_false] at h
  rcases h with rfl | rfl <;> decide +kernel
theorem fd_at (a : PyData) : formedD (.tuple [.str (Str.ofString "@"), a]) = isNameD a := by
  rw [formed_some f_at, decide_eq_true (by rfl), decide_eq_false (by decide +kernel)]
  simp only [List.zip_cons_cons, List.zip_nil_left, List.all_cons, List.all_nil, slot_name, Bool.and_true, Bool.true_and, Bool.not_false, Bool.true_or]
theorem fd_lam (x k t : PyData) : formedD (.tuple [.str (Str.ofString "^"), x, k, t]) = (isNameD x && kindW 6 k) := by
  rw [formed_some f_lam, decide_eq_true (by rfl), decide_eq_false (by decide +kernel)]
  simp only [List.zip_cons_cons, List.zip_nil_left, List.all_cons, List.all_nil, slot_name, slot_kind, slot_term, Bool.and_true, Bool.true_and, Bool.not_false, Bool.true_or]
theorem fd_two {s : Str} (h : s ∈ m3) (t u : PyData) : formedD (.tuple [.str s, t, u]) = true := by
  have g : s ∉ m2 := by
    simp only [List.mem_cons, List.not_mem_nil, or_false] at h
    rcases h with rfl | rfl | rfl <;> decide +kernel
  rw [formed_some (f_two h), decide_eq_true (by rfl), decide_eq_false g]
  simp only [List.zip_cons_cons, List.zip_nil_left, List.all_cons, List.all_nil, slot_term, Bool.and_true, Bool.true_and, Bool.not_false, Bool.true_or]
theorem fd_mk (c ts : PyData) : formedD (.tuple [.str (Str.ofString "#"), c, ts]) = (isNameD c && isRowD ts 0 4) := by
  rw [formed_some f_mk, decide_eq_true (by rfl), decide_eq_false (by decide +kernel)]
  simp only [List.zip_cons_cons, List.zip_nil_left, List.all_cons, List.all_nil, slot_name, slot_terms, Bool.and_true, Bool.true_and, Bool.not_false, Bool.true_or]
theorem fd_ch (t cs : PyData) : formedD (.tuple [.str (Str.ofString "?"), t, cs]) = (isRowD cs 1 6 && (itD cs).all caseOk) := by
  rw [formed_some f_ch, decide_eq_true (by rfl), decide_eq_false (by decide +kernel)]
  simp only [List.zip_cons_cons, List.zip_nil_left, List.all_cons, List.all_nil, slot_cases, slot_term, Bool.and_true, Bool.true_and, Bool.not_false, Bool.true_or]
theorem unlike2 (a b : Str) : unlikeN [a, b] = !decide (a = b) := by
  unfold unlikeN
  show decide ((if b ∈ [a] then [a] else [a] ++ [b]).length = 2) = _
  by_cases h : a = b
  · subst h
    rw [if_pos (by simp), decide_eq_true (rfl : a = a)]
    rfl
  · rw [if_neg (by simp; exact fun e => h e.symm), decide_eq_false h]
    rfl
theorem fd_five {s : Str} (h : s ∈ m2) (t x y u : PyData) : formedD (.tuple [.str s, t, x, y, u]) = lunl 2 (.tuple [x, y]) := by
  rw [formed_some (f_five h), decide_eq_true (by rfl), decide_eq_true h]
  simp only [List.zip_cons_cons, List.zip_nil_left, List.all_cons, List.all_nil, slot_name, slot_term, Bool.and_true, Bool.true_and, Bool.not_true, Bool.false_or]
  show _ = (decide ((([x, y] : List PyData).length : Int) ≤ 2) && ((isNameD x && (isNameD y && true)) && unlikeN [nmD x, nmD y]))
  rw [decide_eq_true (show (([x, y] : List PyData).length : Int) ≤ 2 from Int.le_refl _), Bool.true_and, unlike2, Bool.and_true]
  show (isNameD x && isNameD y && !decide (some (nmD x) = some (nmD y))) = _
  congr 2
  exact decide_eq_decide.mpr ⟨fun z => Option.some.inj z, fun z => by rw [z]⟩
abbrev S6 : List Str := [Str.ofString "?", Str.ofString "#", Str.ofString "/", Str.ofString "+", Str.ofString "!", Str.ofString "&", Str.ofString "-", Str.ofString "^", Str.ofString "@"]
theorem form_not {s : Str} (h : s ∉ S6) : formOf s = none := by
  cases e : formOf s with
  | none => rfl
  | some sl =>
    have hf := form_cases e
    simp only [formsL, List.mem_cons, List.not_mem_nil, or_false, Prod.mk.injEq] at hf
    refine absurd ?_ h
    simp only [S6, List.mem_cons, List.not_mem_nil, or_false]
    rcases hf with ⟨rfl, _⟩ | ⟨rfl, _⟩ | ⟨rfl, _⟩ | ⟨rfl, _⟩ | ⟨rfl, _⟩ | ⟨rfl, _⟩ | ⟨rfl, _⟩ | ⟨rfl, _⟩ | ⟨rfl, _⟩ <;> simp
theorem sized_no {n : Nat} {d : PyData} (h : formedD d = false) : sizedD n d = none := by
  cases n with
  | zero => rfl
  | succ n =>
    rw [sizedD, if_neg (by rw [h]; exact Bool.false_ne_true)]
theorem sized_name {n : Nat} {d : PyData} (h : isNameD d = true) : sizedD (n + 1) d = some 1 := by
  obtain ⟨x, rfl⟩ := name_str h
  rw [sizedD, if_pos (show formedD (.str x) = true from h)]
  rfl
/-- what stands within, as the law's list of it, or None -/
def Res (K : PySem.W.Frag) (N : Addr → Prop) (d : PyData) (H' : Hp) (vi : V) : Prop := (formedD d = false ∧ vi = .non) ∨ (formedD d = true ∧ ∃ (L : Addr) (us : List V), vi = .ref L ∧ H' L = some (.lst us) ∧ DaAll K N H' us ((kids d).map (·.2)))
def MidS (K : PySem.W.Frag) (N : Addr → Prop) (H : Hp) (S : List Str) (v : V) (z : Int) (s : Str) (o : Nat) (d : PyData) (σ : L2.St) (H' : Hp) : Prop :=
  ∃ (vi : V) (v5 v6 : Option V), σ = [some v, some (.int z), some (.str s), some (.int o), some vi, v5, v6, none] ∧ Same H H' ∧ (s ∈ S → Res K N d H' vi) ∧ (s ∉ S → vi = .non)
theorem Res.same {K : PySem.W.Frag} {N : Addr → Prop} {d : PyData} {H H' : Hp} {vi : V} (s : Same H H') (h : Res K N d H vi) : Res K N d H' vi := by
  rcases h with h | ⟨h, L, us, rfl, e1, e2⟩
  · exact .inl h
  · exact .inr ⟨h, L, us, rfl, s _ _ e1, e2.same s⟩
theorem MidS.skip {K : PySem.W.Frag} {N : Addr → Prop} {H : Hp} {S S' : List Str} {v : V} {z : Int} {s : Str} {o : Nat} {d : PyData} {H' H'' : Hp} {vi : V} {v5 v6 : Option V} (sH : Same H H') (hin : s ∈ S → Res K N d H' vi) (hout : s ∉ S → vi = .non) (sm : Same H' H'') (g : s ∈ S' → s ∈ S) (g' : s ∈ S → s ∈ S') :
    MidS K N H S' v z s o d [some v, some (.int z), some (.str s), some (.int o), some vi, v5, v6, none] H'' :=
  ⟨vi, v5, v6, rfl, sH.trans sm, fun h => (hin (g h)).same sm, fun h => hout fun z => h (g' z)⟩
theorem MidS.no {K : PySem.W.Frag} {N : Addr → Prop} {H : Hp} {S' : List Str} {v : V} {z : Int} {s : Str} {o : Nat} {d : PyData} {H'' : Hp} {vi : V} {v5 v6 : Option V} (sH : Same H H'') (hv : vi = .non) (hf : formedD d = false) :
    MidS K N H S' v z s o d [some v, some (.int z), some (.str s), some (.int o), some vi, v5, v6, none] H'' :=
  ⟨vi, v5, v6, rfl, sH, fun _ => .inl ⟨hf, hv⟩, fun _ => hv⟩
theorem MidS.yes {K : PySem.W.Frag} {N : Addr → Prop} {H : Hp} {S' : List Str} {v : V} {z : Int} {s : Str} {o : Nat} {d : PyData} {H'' : Hp} {L : Addr} {us : List V} {v5 v6 : Option V} (sH : Same H H'') (hs : s ∈ S') (hf : formedD d = true) (e : H'' L = some (.lst us)) (g : DaAll K N H'' us ((kids d).map (·.2))) :
    MidS K N H S' v z s o d [some v, some (.int z), some (.str s), some (.int o), some (.ref L), v5, v6, none] H'' :=
  ⟨.ref L, v5, v6, rfl, sH, fun _ => .inr ⟨hf, L, us, rfl, e, g⟩, fun h => absurd hs h⟩
theorem iteD {c A B : Prop} [Decidable c] (hc : c) (h : A) : if decide c = true then A else B := by
  rw [decide_eq_true hc]
  exact iteT h
theorem iteDN {c A B : Prop} [Decidable c] (hc : ¬ c) (h : B) : if decide c = true then A else B := by
  rw [decide_eq_false hc]
  exact iteF h
theorem len_ne {x : V} {ys : List V} {r : List PyData} {k j : Nat} (hl : ys.length = r.length) (hr : r.length ≠ k) (e : j = k + 1) : ¬ V.int (((x :: ys).length : Nat) : Int) = V.int (j : Int) := fun z => by
  injection z with z
  rw [List.length_cons] at z
  omega
theorem row_no {d : PyData} {a b : Int} (h : tyD d ≠ "tuple") : isRowD d a b = false := by
  cases d with
  | tuple ds => exact absurd rfl h
  | _ => rfl
theorem row_is (ts : List PyData) (a b : Int) : isRowD (.tuple ts) a b = decide (a ≤ (ts.length : Int) ∧ (ts.length : Int) ≤ b) := by
  simp [isRowD]
theorem row_big {ts : List PyData} {a b : Int} (h : ¬ ((ts.length : Int) ≤ b)) : isRowD (.tuple ts) a b = false := by
  rw [row_is]
  exact decide_eq_false fun z => h z.2
theorem row_ok {ts : List PyData} {a b : Int} (h : a ≤ (ts.length : Int)) (h2 : (ts.length : Int) ≤ b) : isRowD (.tuple ts) a b = true := by
  rw [row_is]
  exact decide_eq_true ⟨h, h2⟩
theorem case_lunl (a b c : PyData) : caseOk (.tuple [a, b, c]) = (isNameD a && lunl 4 b) := by
  rw [case_yes]
  cases b with
  | tuple ns =>
    rw [row_is]
    show _ = (isNameD a && (decide ((ns.length : Int) ≤ 4) && (ns.all isNameD && unlikeN (ns.map nmD))))
    rw [show decide ((0 : Int) ≤ (ns.length : Int) ∧ (ns.length : Int) ≤ 4) = decide ((ns.length : Int) ≤ 4) from decide_eq_decide.mpr ⟨fun z => z.2, fun z => ⟨by omega, z⟩⟩]
    rfl
  | _ => rfl
theorem rows_no {ts : List PyData} (h : ts.all (fun d => isRowD d 3 3) = false) : ts.all caseOk = false := by
  cases e : ts.all caseOk with
  | false => rfl
  | true =>
    rw [List.all_eq_true] at e
    have : ts.all (fun d => isRowD d 3 3) = true := by
      rw [List.all_eq_true]
      intro d hd
      cases hr : isRowD d 3 3 with
      | true => rfl
      | false =>
        have := e d hd
        rw [case_no hr] at this
        exact this
    rw [this] at h
    exact h
theorem row_len (ys : List PyData) : decide (V.int ((ys.length : Nat) : Int) = V.int 3) = isRowD (.tuple ys) 3 3 := by
  rw [row_is]
  exact decide_eq_decide.mpr ⟨fun z => by
    injection z with z
    omega, fun z => by
    have : (ys.length : Int) = 3 := by omega
    rw [this]⟩
theorem kids_all {t : PyData} {ts : List PyData} (h : ts.all caseOk = true) : (kids (.tuple [.str (Str.ofString "?"), t, .tuple ts])).map (·.2) = t :: ts.map fun c => (caseD c).2 := by
  obtain ⟨cs, rfl, _⟩ := cases_of h
  rw [kids_ch, List.map_cons, List.map_map, List.map_map]
  rfl
/-- drawn data: at most so large for each of so many -/
def spWide (K : PySem.W.Frag) (n : Nat) : Sp := fun vs H Q _ => ∃ (p c : Addr) (z : Nat), vs = [.ref p, .int z] ∧ 1 ≤ z ∧ z < 2 ^ n ∧ z ≤ 201 ∧ Pen H p c ∧
  ∀ (v : V) (d : PyData) (H' : Hp), Da K All H' v d → Fit (400 * z) (4 * n) d → Pen H' p c → Kp p H H' → Q v H'
def spDeep (K : PySem.W.Frag) : Sp := fun vs H Q _ => ∃ (p c : Addr) (z : Int), vs = [.ref p, .int z] ∧ 1 ≤ z ∧ z ≤ 31 ∧ Pen H p c ∧
  ∀ (v : V) (d : PyData) (H' : Hp), Da K All H' v d → Fit 20000 95 d → Pen H' p c → Kp p H H' → Q v H'
def spOf8 (K : PySem.W.Frag) (f : PyData → Bool) : Sp := fun vs H Q _ => ∃ (N : Addr → Prop) (v : V) (d : PyData) (n m : Nat), vs = [v] ∧ Da K N H v d ∧ Fit n m d ∧ n ≤ 8000000 ∧ ∀ H', Same H H' → Q (.bl (f d)) H'
def EntAt (K : PySem.W.Frag) (e : DictEntry) (p : Str × List Str) : Prop := (∃ t, e.key = .str p.1 t) ∧ ∃ (a : Addr) (o : Obj) (its : Array Value) (n : Nat), e.val = .ref a ∧ K.lookup a = some o ∧ o.cls = .type "tuple" ∧ o.data = .seq its n ∧ its.size ≤ sizeLine ∧ Vals (p.2.map V.str) its.toList
def EntsAt (K : PySem.W.Frag) : List DictEntry → List (Str × List Str) → Prop
  | [], [] => True
  | e :: es, p :: ps => EntAt' K e p (EntsAt K es ps)
  | _, _ => False
where EntAt' (K : PySem.W.Frag) (e : DictEntry) (p : Str × List Str) (R : Prop) : Prop := (∃ t, e.key = .str p.1 t) ∧ (∃ (a : Addr) (o : Obj) (its : Array Value) (n : Nat), e.val = .ref a ∧ K.lookup a = some o ∧ o.cls = .type "tuple" ∧ o.data = .seq its n ∧ its.size ≤ sizeLine ∧ Vals (p.2.map V.str) its.toList) ∧ R
theorem ents_find {K : PySem.W.Frag} (z : Str) : ∀ {es : List DictEntry} {ps : List (Str × List Str)}, EntsAt K es ps → es.any (·.refKey) = false ∧
    ((ps.find? (fun p => decide (p.1 = z)) = none ∧ es.find? (·.key.isStr z) = none) ∨ ∃ p e, ps.find? (fun p => decide (p.1 = z)) = some p ∧ es.find? (·.key.isStr z) = some e ∧ EntAt K e p)
  | [], [], _ => ⟨rfl, .inl ⟨rfl, rfl⟩⟩
  | e :: es, p :: ps, ⟨⟨t, hk⟩, hv, hr⟩ => by
    obtain ⟨h1, h2⟩ := ents_find z hr
    have rk : e.refKey = false := by simp [DictEntry.refKey, hk]
    have ks : e.key.isStr z = decide (p.1 = z) := by
      rw [hk]
      show (p.1 == z) = decide (p.1 = z)
      by_cases c : p.1 = z
      · rw [decide_eq_true c, c]
        exact beq_self_eq_true z
      · rw [decide_eq_false c]
        exact beq_eq_false_iff_ne.mpr c
    refine ⟨by rw [List.any_cons, rk, h1]; rfl, ?_⟩
    by_cases c : p.1 = z
    · refine .inr ⟨p, e, ?_, ?_, ⟨t, hk⟩, hv⟩
      · rw [List.find?_cons, decide_eq_true c]
      · rw [List.find?_cons, ks, decide_eq_true c]
    · rw [List.find?_cons, decide_eq_false c, List.find?_cons, ks, decide_eq_false c]
      exact h2
theorem forms_mk {K : PySem.W.Frag} {w : World} {d : Addr} {es : Array DictEntry} {n : Nat} (at_ : K.lookup d = some ⟨.type "dict", none, .dict es n, #[]⟩) (lit : PySem.W.KeysLit w.params es.toList) (low : (d == sysModules) = false) (ents : EntsAt K es.toList formsL) : Forms K w d where
  dict := ⟨es, n, at_, lit, low⟩
  no z h := by
    obtain ⟨h1, h2 | ⟨p, e, h2, _⟩⟩ := ents_find z ents
    · unfold PySem.W.nsIn
      rw [at_]
      dsimp only
      rw [h2.2, h1]
      rfl
    · unfold formOf at h
      rw [h2] at h
      cases h
  yes z sl h := by
    obtain ⟨h1, h2 | ⟨p, e, h2, h3, _, a, o, its, m, hv, hl, hc, hd, hs, hV⟩⟩ := ents_find z ents
    · unfold formOf at h
      rw [h2.1] at h
      cases h
    · unfold formOf at h
      rw [h2] at h
      obtain rfl := Option.some.inj h
      refine ⟨a, ?_, fun H => .inr ⟨o, its, m, hl, hc, hd, hs, hV⟩⟩
      unfold PySem.W.nsIn
      rw [at_]
      dsimp only
      rw [h3]
      dsimp only
      rw [hv]
theorem ent_mk {K : PySem.W.Frag} {v : Value} {a : Addr} {its : Array Value} {n : Nat} {dd : Option Addr} {sl : Array (Option Value)} {xs : List Str} (hv : v = .ref a) (hl : K.lookup a = some ⟨.type "tuple", dd, .seq its n, sl⟩) (hs : its.size ≤ sizeLine) (hV : Vals (xs.map V.str) its.toList) :
    ∃ (a : Addr) (o : Obj) (its : Array Value) (n : Nat), v = .ref a ∧ K.lookup a = some o ∧ o.cls = .type "tuple" ∧ o.data = .seq its n ∧ its.size ≤ sizeLine ∧ Vals (xs.map V.str) its.toList := ⟨a, _, its, n, hv, hl, rfl, rfl, hs, hV⟩
end Ow

/-! What a program's rows are, over any data. -/
namespace Ow
open PySem PySem.Spec PyProof.Rows L2
def makerOk : PyData → Bool
  | .tuple [m, fs] => isNameD m && (isRowD fs 0 4 && (itD fs).all isNameD)
  | _ => false
def dataOk : PyData → Bool
  | .tuple [s, ms] => isNameD s && (isRowD ms 1 6 && (itD ms).all makerOk)
  | _ => false
def defOk : PyData → Bool
  | .tuple [n, k, t] => isNameD n && (kindW 6 k && termD t)
  | _ => false
def defName : PyData → Str
  | .tuple [n, _, _] => nmD n
  | _ => sg ""
def defsOk (d : PyData) : Bool := isRowD d 0 16 && ((itD d).all defOk && unlikeN ((itD d).map defName))
theorem row2 {d : PyData} (h : isRowD d 2 2 = true) : ∃ a b, d = .tuple [a, b] := by
  obtain ⟨ds, rfl, h1, h2⟩ := row_tup h
  obtain ⟨a, b, rfl⟩ := len2 (r := ds) (by omega)
  exact ⟨a, b, rfl⟩
theorem maker_no {d : PyData} (h : isRowD d 2 2 = false) : makerOk d = false := by
  unfold makerOk
  split
  · simp [isRowD] at h
  · rfl
theorem data_no {d : PyData} (h : isRowD d 2 2 = false) : dataOk d = false := by
  unfold dataOk
  split
  · simp [isRowD] at h
  · rfl
theorem def_no {d : PyData} (h : isRowD d 3 3 = false) : defOk d = false := by
  unfold defOk
  split
  · simp [isRowD] at h
  · rfl
theorem fit2 {n m : Nat} {a b : PyData} (f : Fit n m (.tuple [a, b])) : Fit n m a ∧ Fit n m b := ⟨f.inner.mem (by simp), f.inner.mem (by simp)⟩
theorem fit3' {n m : Nat} {a b c : PyData} (f : Fit n m (.tuple [a, b, c])) : Fit n m a ∧ Fit n m b ∧ Fit n m c := ⟨f.inner.mem (by simp), f.inner.mem (by simp), f.inner.mem (by simp)⟩
theorem all_id (g : PyData → Bool) (ns : List PyData) : (ns.map g).all id = ns.all g := by
  rw [List.all_map]
  rfl
end Ow

/-! Comprehensions of any number of clauses. -/
namespace Ow
open PySem PySem.Spec PyProof.Rows L2
/-- a clause, as its rules see it; its names, those of the later ones among them -/
structure Cls where
  tg : Expr
  iter : Expr
  ifs : List Expr
  wi : TI
  g : TG
  tt : TT
  vs : List Nat
def Cls.syn (c : Cls) : Comprehension := ⟨c.tg, c.iter, c.ifs, 0⟩
structure Cls.Ok (Y : Cx) (c : Cls) : Prop where
  pi : PI Y c.tg c.iter c.wi
  pg : PG Y c.tg c.g
  pt : PTs Y c.ifs c.tt
  fold : ∀ env x, foldedSetIterable c.iter env x = pure x
def topVs : List Cls → List Nat
  | [] => []
  | c :: _ => c.vs
def NestVs : List Cls → Prop
  | [] => True
  | c :: cs => (∀ i ∈ topVs cs, i ∈ c.vs) ∧ NestVs cs
/-- behind a turn's tests: the clauses that are left, then the element, put behind what the list at D has -/
def tDeep (D : Addr) (te : TE) : List Cls → L2.St → Hp → (Hp → Prop) → Prop
  | [], σ, H, Z => te σ H fun y H1 => ∃ acc, H1 D = some (.lst acc) ∧ acc.length < sizeLine ∧ Z (upd H1 D (.lst (acc ++ [y])))
  | c :: cs, σ, H, Z => c.wi σ H fun J H1 => ∃ W : Nat → Nat → Hp → Prop, (∃ m, W 0 m H1) ∧ ∀ j m H, W j m H →
      (J.stop j H ∧ Z H) ∨ (J.go j H ∧ ∃ Y : Hp → Prop, (∀ H', Y H' → ∃ m', m' < m ∧ W (j + 1) m' H') ∧ ∀ x H', J.yld j H x H' →
        c.g x (wipe σ c.vs) H' fun σ2 H2 => wipe σ2 c.vs = wipe σ c.vs ∧ c.tt σ2 H2 fun b H3 => if b = true then tDeep D te cs σ2 H3 Y else Y H3)
section
variable {prog : Program} {w : World} {A : Around} {R : Result → Shared → Prop} {s : Shared} {elt : Expr} {gens : List Comprehension} {scope : Scope} {pos : Pos} {it acc : Value} {env : Env}
/-- what is asked behind the tests of the clause ahead of d -/
def Bhd (prog : Program) (w : World) (A : Around) (elt : Expr) (gens : List Comprehension) (scope : Scope) (pos : Pos) (acc : Value) (env : Env) (d : Nat) (post : Shared → Prop) (s : Shared) : Prop :=
  match gens[d]? with
  | none => wpAny (model prog w) A (eval elt env) (fun x z => wpAny (model prog w) A (call (.builtin "list.append") [acc, x]) (fun _ z' => post z') (fun _ _ => False) z) (fun _ _ => False) s
  | some c => c.is_async = 0 ∧ (∀ x, foldedSetIterable c.iter env x = pure x) ∧ wpAny (model prog w) A (eval c.iter env) (fun x z => wpAny (model prog w) A (pyIter x) (fun i z' =>
      codeAny (model prog w) A (.compStart (.ListComp elt gens scope pos) d i acc env) (fun r y => match r with | .ok _ => post y | .error _ => False) z') (fun _ _ => False) z) (fun _ _ => False) s
/-- a turn's tests -/
def tests (ifs : List Expr) (env : Env) : Sem Bool := forIn ifs true fun c r => if r = true then do let ok ← isTrue c env (eval c env); pure (ForInStep.yield ok) else pure (ForInStep.yield r)
theorem loop_at {d : Nat} {t i : Expr} {ifs : List Expr} (hg : gens[d]? = some ⟨t, i, ifs, 0⟩) (I : Nat → Shared → Prop)
    (turn : ∀ n z, I n z → wpAny (model prog w) A (pyNext it) (fun r z1 => match r with
      | none => R (.ok .next) z1
      | some v => wpAny (model prog w) A (letOwnedTupleGo t it v) (fun _ z2 => wpAny (model prog w) A (assign t env v) (fun _ z3 => wpAny (model prog w) A (tests ifs env) (fun ok z4 =>
          if ok = true then Bhd prog w A elt gens scope pos acc env (d + 1) (fun z5 => ∃ m, m < n ∧ I m z5) z4 else ∃ m, m < n ∧ I m z4) (fun _ _ => False) z3) (fun _ _ => False) z2) (fun _ _ => False) z1) (fun _ _ => False) z)
    (n : Nat) (h : I n s) : codeAny (model prog w) A (.compLoop (.ListComp elt gens scope pos) d it acc env) R s := by
  refine codeAny_loop rfl I (fun n z hI => ?_) n h
  show wpAny _ A ((compTurn (.ListComp elt gens scope pos) d it acc env).onRaise (fun x => do noteFrame x env; theTreesLotGoes x)) _ _ z
  refine wpAny_noted ?_
  have no : ∀ {α : Type} {t : Sem α} {Q : α → Shared → Prop} {E : Value → Shared → Prop} {z : Shared}, wpAny (model prog w) A t Q (fun _ _ => False) z → wpAny (model prog w) A t Q E z := fun h => wpAny_mono h (fun _ _ q => q) fun _ _ q => q.elim
  unfold compTurn
  simp only [hg]
  refine wpAny_bind (wpAny_standAt (wpAny_bind (wpAny_mono (turn n z hI) (fun r z1 h1 => ?_) fun _ _ q => q.elim)))
  cases r with
  | none => exact wpAny_pure h1
  | some v =>
    refine wpAny_bind (wpAny_mono h1 (fun _ z2 h2 => ?_) fun _ _ q => q.elim)
    refine wpAny_bind (wpAny_mono h2 (fun _ z3 h3 => wpAny_bind (wpAny_mono h3 (fun ok z4 h4 => ?_) fun _ _ q => q.elim)) fun _ _ q => q.elim)
    cases ok with
    | false => exact wpAny_pure ⟨rfl, h4⟩
    | true =>
      have h4 : Bhd prog w A elt gens scope pos acc env (d + 1) (fun z5 => ∃ m, m < n ∧ I m z5) z4 := h4
      unfold Bhd at h4
      simp only [if_true]
      cases hn : gens[d + 1]? with
      | none =>
        rw [hn] at h4
        simp only
        exact wpAny_bind (wpAny_bind (wpAny_mono h4 (fun x z5 h5 => wpAny_bind (wpAny_mono h5 (fun _ z6 h6 => wpAny_pure (wpAny_pure ⟨rfl, h6⟩)) fun _ _ q => q.elim)) fun _ _ q => q.elim))
      | some c =>
        rw [hn] at h4
        obtain ⟨ha, hf, h4⟩ := h4
        simp only [ha]
        refine wpAny_bind (wpAny_mono h4 (fun x z5 h5 => ?_) fun _ _ q => q.elim)
        refine wpAny_bind (wpAny_standAt (wpAny_bind (wpAny_of_eq (hf x) (wpAny_bind (wpAny_holding (wpAny_mono h5 (fun i1 z6 h6 => ?_) fun _ _ q => q.elim))))))
        refine wpAny_bind (wpAny_runOwn ?_)
        rw [Around.mark_none]
        refine codeAny_mono h6 fun r y hr => ?_
        cases r with
        | ok f => exact wpAny_pure ⟨rfl, hr⟩
        | error e => exact hr.elim
/-- a clause's start -/
theorem start_at {d : Nat} {c : Comprehension} (hg : gens[d]? = some c) (ha : c.is_async = 0) (h0 : codeAny (model prog w) A (.compLoop (.ListComp elt gens scope pos) d it acc env) R s)
    (h : wpAny (model prog w) A (pyIter it) (fun i z => codeAny (model prog w) A (.compLoop (.ListComp elt gens scope pos) d i acc env) R z) (fun _ _ => False) s) :
    codeAny (model prog w) A (.compStart (.ListComp elt gens scope pos) d it acc env) R s := by
  refine codeAny_of_tree ?_
  show wpAny _ _ ((compStart (.ListComp elt gens scope pos) d it acc env).onRaise (fun x => do noteFrame x env; standAt theWindowsPlace)) _ _ s
  refine wpAny_notedAt ?_
  unfold compStart
  have hcl : (clausesOf (.ListComp elt gens scope pos))[d]? = some c := hg
  simp only [hcl, Option.elim, ha]
  rw [if_neg (by decide)]
  show wpAny _ _ (ask >>= _) _ _ s
  refine wpAny_bind (wpAny_askSetting (wpAny_ite ?_))
  have go : ∀ z (b : Value) (A' : Around) (E' : Value → Shared → Prop), codeAny (model prog w) A (.compLoop (.ListComp elt gens scope pos) d b acc env) R z → wpAny (model prog w) A' (again (.compLoop (.ListComp elt gens scope pos) d b acc env)) (fun fin s' => match fin with
      | Fin.done f => R (Except.ok f) s'
      | Fin.again c' => c'.quiet = true ∧ codeAny (model prog w) A c' R s') E' z := fun z b A' E' h => wpAny_pure ⟨rfl, h⟩
  split
  · exact go _ _ _ _ h0
  · exact wpAny_bind (wpAny_rule (wpAny_bind (wpAny_standAt (wpAny_bind (wpAny_mono h (fun i z h' => go _ _ _ _ h') fun _ _ q => q.elim)))))
end
section
variable {Y : Cx}
theorem wipe_nil (σ : L2.St) : wipe σ [] = σ := rfl
theorem wipe_sub {σ : L2.St} {vs us : List Nat} (h : ∀ i ∈ us, i ∈ vs) {j : Nat} {v : V} (e : (wipe σ vs)[j]? = some (some v)) : (wipe σ us)[j]? = some (some v) := by
  obtain ⟨e1, e2⟩ := wipe_some e
  rw [wipe_out fun z => e2 (h j z)]
  exact e1
/-- what is known behind it is as ahead, but for the clause's names -/
def Knows (σ τ : L2.St) (vs : List Nat) : Prop := τ.length = σ.length ∧ ∀ (j : Nat) v, (wipe σ vs)[j]? = some (some v) → τ[j]? = some (some v)
theorem drop_one {α : Type} {l cs : List α} {c : α} {d : Nat} (h : l.drop d = c :: cs) : l[d]? = some c ∧ l.drop (d + 1) = cs := by
  refine ⟨?_, ?_⟩
  · have e : (l.drop d)[0]? = some c := by rw [h]; rfl
    rw [List.getElem?_drop] at e
    exact e
  · rw [← List.drop_drop, h]
    rfl
theorem deep_ok (hc : Y.calm = true) {elt : Expr} {te : TE} (pe : PE Y elt te) {gens : List Comprehension} {scope : Scope} {pos : Pos} {D : Addr} : ∀ (cs : List Cls) (d : Nat), (∀ c ∈ cs, c.Ok Y) → NestVs cs → gens.drop d = cs.map Cls.syn →
    ∀ (pins : List (Addr × Obj)) (σ : L2.St) (H : Hp) (s : Shared) (Z : Hp → Prop) (post : Shared → Prop), Inv Y pins σ H s → tDeep D te cs σ H Z →
      (∀ τ H' s', Inv Y pins τ H' s' → Knows σ τ (topVs cs) → Z H' → post s') → Y.xe = (fun _ _ => False) → Bhd Y.prog Y.w Y.A elt gens scope pos (.ref D) Y.env d post s
  | [], d, _, _, hd, pins, σ, H, s, Z, post, I, h, fin, hx => by
    have e : gens[d]? = none := List.getElem?_eq_none (by simpa using hd)
    unfold Bhd
    rw [e]
    have r := pe.run pins s σ H _ I h
    rw [hx] at r
    refine thn r fun x z q => ?_
    obtain ⟨y, H1, I1, ry, acc, e1, hl, q⟩ := q
    exact app_ok I1 e1 hl ry fun z' I2 => fin σ _ z' I2 ⟨rfl, fun j v e => e⟩ q
  | c :: cs, d, ok, hn, hd, pins, σ, H, s, Z, post, I, h, fin, hx => by
    obtain ⟨e, hd1⟩ := drop_one (c := c.syn) (cs := cs.map Cls.syn) hd
    have oc := ok c (List.mem_cons_self ..)
    unfold Bhd
    rw [e]
    refine ⟨rfl, oc.fold _, ?_⟩
    have r := oc.pi.run pins s σ H _ I h
    rw [hx] at r
    refine thn r fun xv s1 q => thn q fun itv s2 q => ?_
    obtain ⟨it, fp, tn, J, H1, rfl, I1, T, st, fok, W, ⟨m0, w0⟩, turn⟩ := q
    have fo : ∀ {H' : Hp}, (∀ b ∈ fp, H' b = none) → ∀ b ∈ fp, FpOk Y pins H' b := fun hn b hb => ⟨hn b hb, (fok b hb).2⟩
    have lp : codeAny (model Y.prog Y.w) Y.A (.compLoop (.ListComp elt gens scope pos) d (.ref it) (.ref D) Y.env) (fun r y => match r with | .ok _ => post y | .error _ => False) s2 := by
      refine loop_at e (fun k z => ∃ j H', Inv Y pins (wipe σ c.vs) H' z ∧ tn j z.heap ∧ (∀ b ∈ fp, H' b = none) ∧ W j k H') ?_ m0 ⟨0, H1, I1.weak (wipe_length _ _) (fun j v q => (wipe_some q).1), st, fun b hb => (fok b hb).1, w0⟩
      rintro k z ⟨j, Hj, Ij, stj, nj, wj⟩
      rcases turn j k Hj wj with ⟨stop, hz⟩ | ⟨go, Nx, hNx, step⟩
      · refine thnF (T.done Y rfl rfl rfl hc j pins z _ Hj (fun _ _ => False) Ij (fo nj) stj stop) fun r z1 q => ?_
        obtain ⟨rfl, I3⟩ := q
        exact fin _ _ _ I3 ⟨wipe_length _ _, fun j v q => q⟩ hz
      · refine thnF (T.item Y rfl rfl rfl hc j pins z _ Hj (fun _ _ => False) Ij (fo nj) stj go) fun r z1 q => ?_
        obtain ⟨u, rfl, q⟩ := q
        refine thnF q fun _ z2 q => ?_
        obtain ⟨x, H2, I2, r2, y2, st2, n2⟩ := q
        have I2' := I2.pinned (fo n2) (T.obj _ _ st2)
        have rg := oc.pg.run _ z2 _ H2 x u _ I2' r2 (step x H2 y2)
        rw [hx] at rg
        refine thnF rg fun _ z3 q => ?_
        obtain ⟨σ3, H3, I3, hw, q3⟩ := q
        have rt := oc.pt.run _ z3 σ3 H3 _ I3 q3
        rw [hx] at rt
        refine thnF rt fun b z4 q => ?_
        obtain ⟨H4, I4, q4⟩ := q
        have back : ∀ τ H' z', Inv Y (pins ++ pinsAt fp z2.heap) τ H' z' → Knows σ3 τ (topVs cs) → Nx H' → ∃ m, m < k ∧ ∃ j H', Inv Y pins (wipe σ c.vs) H' z' ∧ tn j z'.heap ∧ (∀ b ∈ fp, H' b = none) ∧ W j m H' := fun τ H' z' I' kn nx => by
          obtain ⟨m', hm, w'⟩ := hNx H' nx
          have pn : ∀ b ∈ fp, ∀ o, z2.heap.get? b = some o → z'.heap.get? b = some o ∧ H' b = none := fun b hb o e =>
            let t := I'.pin (b, o) (List.mem_append_right _ (List.mem_append_right _ (mem_pinsAt hb e)))
            ⟨t.1, t.2.1⟩
          refine ⟨m', hm, j + 1, H', I'.unpinned.weak ?_ (fun i v q => ?_), T.keep _ _ _ st2 fun b hb o e => (pn b hb o e).1, fun b hb => ?_, w'⟩
          · rw [kn.1, ← hw, wipe_length]
          · rw [← hw] at q
            exact kn.2 i v (wipe_sub hn.1 q)
          · obtain ⟨o, e, _⟩ := T.obj _ _ st2 b hb
            exact (pn b hb o e).2
        cases b with
        | false =>
          simp only [Bool.false_eq_true, if_false] at q4 ⊢
          exact back σ3 H4 z4 I4 ⟨rfl, fun i v q => (wipe_some q).1⟩ q4
        | true =>
          simp only [if_true] at q4 ⊢
          exact deep_ok hc pe cs (d + 1) (fun c' h' => ok c' (List.mem_cons_of_mem _ h')) hn.2 hd1 _ σ3 H4 z4 Nx _ I4 q4 back hx
    exact start_at e rfl lp (T.self Y.A 0 _ _ _ st lp)
end
/-- a list comprehension of any number of clauses; the first one's names are all of the block's -/
def tLcN (c : Cls) (cs : List Cls) (te : TE) : TE := fun σ H Q => c.wi σ H fun J H1 => ∀ D, H1 D = none → ∃ W : Nat → Nat → Hp → Prop, (∃ m, W 0 m (upd H1 D (.lst []))) ∧ ∀ j m H, W j m H →
  (J.stop j H ∧ Q (.ref D) H) ∨ (J.go j H ∧ ∃ Y : Hp → Prop, (∀ H', Y H' → ∃ m', m' < m ∧ W (j + 1) m' H') ∧ ∀ x H', J.yld j H x H' →
    c.g x (wipe σ c.vs) H' fun σ2 H2 => wipe σ2 c.vs = wipe σ c.vs ∧ c.tt σ2 H2 fun b H3 => if b = true then tDeep D te cs σ2 H3 Y else Y H3)
section
variable {X : Cx}
/-- the context of a comprehension's block -/
abbrev inBlk (X : Cx) (scope : Scope) (s : Shared) (H : Hp) (C : Addr) (cl : List (Str × Addr)) (fp : List Addr) : Cx := X.blk s H scope (compEnvC scope cl C X.env) fp
abbrev theCells (X : Cx) (scope : Scope) (n : Nat) : List (Str × Addr) := cellsFrom (n + 1) scope.names (cloFrom X.env.cells scope.names [])
theorem core_n {pins : List (Addr × Obj)} {s : Shared} {σ : L2.St} {H : Hp} {Q : VK} {elt : Expr} {c : Cls} {cs : List Cls} {scope : Scope} {own : List (Str × Nat)} {pos pos' : Pos} {te : TE} {use : Option (Value → Sem Unit)} {Qf : Value → Shared → Prop}
    (calm : X.calm = true) (nd : X.N.Nodup) (I : Inv X pins σ H s) (first : PI X c.tg c.iter c.wi) (blk : BlkOk X.N X.env.scope scope own) (hv : c.vs = own.map (·.2)) (nest : NestVs (c :: cs))
    (hg : ∀ s H C cl fp, PG (inBlk X scope s H C cl fp) c.tg c.g) (ht : ∀ s H C cl fp, PTs (inBlk X scope s H C cl fp) c.ifs c.tt) (rest : ∀ s H C cl fp, ∀ k ∈ cs, k.Ok (inBlk X scope s H C cl fp))
    (he : ∀ s H C cl fp, PE (inBlk X scope s H C cl fp) elt te) (fold : ∀ x, foldedSetIterable c.iter X.env x = pure x) (h : tLcN c cs te σ H Q)
    (done : ∀ D C z m H', Inv X pins σ H' z → Q (.ref D) H' → z.heap.Ns C m → FpOk X pins H' C → compPost (model X.prog X.w) X.A X.xe use Qf (.ref D) C (.ok .next) z) :
    wpAny (model X.prog X.w) X.A (comprehension (.ListComp elt (c.syn :: cs.map Cls.syn) scope pos) scope X.env pos' (newList []) false (eval c.iter X.env) use) Qf X.xe s := by
  have free : ∀ y ∈ scope.names, y.2 = .free → ∃ a, X.env.cells.lookup y.1 = some a := fun y hy e => (blk.free y hy e).elim (fun k => I.ok.has _ (.inl k)) fun k => I.ok.has _ (.inr k)
  have r0 := first.run pins s σ H _ I h
  refine wpAny_comprehension_free (g := c.syn) (gs := cs.map Cls.syn) (use := use) rfl fold (closure_ok free) blk.kind (fun y hy e => by rw [blk.uniq y hy, e]) (thn r0 fun xv s1 q => thn q fun itv s2 q => ?_)
  obtain ⟨it, fp, tn, J, H2, rfl, I2, T, st2, fok, q⟩ := q
  refine wpAny_newObj_type (newEnv_comp ?_) (by show 0 ≤ sizeLine; decide)
  generalize eD : s2.heap.objs.size = D
  obtain ⟨W, ⟨m0, w0⟩, turn⟩ := q D (I2.hok.fresh (Nat.le_of_eq eD))
  generalize eL : ({ cls := .type "list", data := .seq ([] : List Value).toArray } : Obj) = oL
  generalize e3 : ({ s2 with heap := s2.heap.push oL } : Shared) = s3
  have hp3 : s3.heap = s2.heap.push oL := by rw [← e3]
  have I3 : Inv X pins σ (upd H2 D (.lst [])) s3 := by
    rw [← e3]
    refine I2.laid (t' := s2.toks) (fun b o e => Heap.get?_push_of_some _ e) (Nat.le_of_eq eD) ⟨Nat.zero_le _, [], 0, .nil, ?_⟩
    rw [← eD, ← eL]
    exact Heap.get?_push_size _ rfl
  have lay : ∀ b o, s2.heap.get? b = some o → s3.heap.get? b = some o := fun b o e => by
    rw [hp3]
    exact Heap.get?_push_of_some _ e
  have below : ∀ b ∈ fp, b < s2.heap.objs.size := fun b hb => let ⟨o, e, _⟩ := T.obj _ _ st2 b hb; Heap.lt_size e
  have fok3 : ∀ b ∈ fp, FpOk X pins (upd H2 D (.lst [])) b ∧ b < s3.heap.objs.size := fun b hb => by
    have lt := below b hb
    refine ⟨⟨?_, (fok b hb).2⟩, ?_⟩
    · rw [upd_ne (show b ≠ D by rw [← eD]; exact Nat.ne_of_lt lt)]
      exact (fok b hb).1
    · rw [hp3, Heap.size_push]
      exact Nat.lt_succ_of_lt lt
  have st3 : tn 0 s3.heap := T.keep _ _ _ st2 fun b _ o e => lay b o e
  have I4 := block_start I3 blk nd fok3
  rw [← hv] at I4
  have pg := hg s3 (upd H2 D (.lst [])) s3.heap.objs.size (theCells X scope s3.heap.objs.size) fp
  have pt := ht s3 (upd H2 D (.lst [])) s3.heap.objs.size (theCells X scope s3.heap.objs.size) fp
  have pr := rest s3 (upd H2 D (.lst [])) s3.heap.objs.size (theCells X scope s3.heap.objs.size) fp
  have pe := he s3 (upd H2 D (.lst [])) s3.heap.objs.size (theCells X scope s3.heap.objs.size) fp
  dsimp only [inBlk] at pg pt pr pe
  have nfp : ∀ b ∈ fp, (upd H2 D (.lst [])) b = none := fun b hb => (fok3 b hb).1.1
  show codeAny _ _ (.compStart (.ListComp elt (c.syn :: cs.map Cls.syn) scope pos) 0 (.ref it) (.ref D) (compEnvC scope (theCells X scope s3.heap.objs.size) s3.heap.objs.size X.env)) (compPost (model X.prog X.w) X.A X.xe use Qf (.ref D) s3.heap.objs.size)
    { s3 with heap := pushCells (s3.heap.push { cls := .type "dict", data := .dict #[] }) scope.names }
  have cL : (compEnvC scope (theCells X scope s3.heap.objs.size) s3.heap.objs.size X.env).locals = s3.heap.objs.size := rfl
  generalize compEnvC scope (theCells X scope s3.heap.objs.size) s3.heap.objs.size X.env = ce at I4 pg pt pe pr cL ⊢
  generalize upd H2 D (.lst []) = H3 at I3 I4 pg pt pe pr w0 nfp fok3
  have lay4 : ∀ b o, s3.heap.get? b = some o → (pushCells (s3.heap.push { cls := .type "dict", data := .dict #[] }) scope.names).get? b = some o := fun b o e => pushCells_keeps _ _ _ _ (Heap.get?_push_of_some _ e)
  have st4 : tn 0 (pushCells (s3.heap.push { cls := .type "dict", data := .dict #[] }) scope.names) := T.keep _ _ _ st3 fun b _ o e => lay4 b o e
  generalize e4 : ({ s3 with heap := pushCells (s3.heap.push { cls := .type "dict", data := .dict #[] }) scope.names } : Shared) = s4 at I4 ⊢
  have st4 : tn 0 s4.heap := by
    rw [← e4]
    exact st4
  generalize eY : X.blk s3 H3 scope ce fp = Y at I4 pg pt pe pr
  have yx : Y.xe = (fun _ _ => False) := by rw [← eY]
  have yP : X.prog = Y.prog := by rw [← eY]
  have yw : X.w = Y.w := by rw [← eY]
  have yA : X.A = Y.A := by rw [← eY]
  have yK : X.K = Y.K := by rw [← eY]
  have ye : ce = Y.env := by rw [← eY]
  have yc : Y.calm = true := by
    rw [← eY]
    exact calm
  have fo : ∀ {τ : L2.St} {H' : Hp} {z : Shared}, Inv Y [] τ H' z → (∀ b ∈ fp, H' b = none) → ∀ b ∈ fp, FpOk Y [] H' b := fun {τ H' z} I' hn b hb => by
    subst eY
    exact ⟨hn b hb, (I'.ok.exf b hb).1, I'.ok.exfs b hb, .inl hb, fun x a e => (I'.ok.exf b hb).2 x a e, fun p hp => absurd (show p ∈ ([] : List (Addr × Obj)) ++ [] from hp) (by simp)⟩
  have lp : codeAny (model X.prog X.w) X.A (.compLoop (.ListComp elt (c.syn :: cs.map Cls.syn) scope pos) 0 (.ref it) (.ref D) ce) (compPost (model X.prog X.w) X.A X.xe use Qf (.ref D) s3.heap.objs.size) s4 := by
    refine loop_at (d := 0) (gens := c.syn :: cs.map Cls.syn) rfl (fun k z => ∃ j H', Inv Y [] (wipe σ c.vs) H' z ∧ tn j z.heap ∧ (∀ b ∈ fp, H' b = none) ∧ W j k H') ?_ m0 ⟨0, H3, I4, st4, nfp, w0⟩
    rintro k z ⟨j, Hj, Ij, stj, nj, wj⟩
    rcases turn j k Hj wj with ⟨stop, hz⟩ | ⟨go, Nx, hNx, step⟩
    · have td := T.done Y yP.symm yw.symm yK.symm yc j [] z _ Hj (fun _ _ => False) Ij (fo Ij nj) stj stop
      rw [← yA] at td
      refine thnF td fun r z1 q => ?_
      obtain ⟨rfl, J1⟩ := q
      have out : Inv X pins σ Hj z1 := by
        subst eY
        exact I3.call' (ch := fp) J1.os J1.base J1.hok J1.bare fun b hb => let f := (fok3 b hb).1; ⟨f.2.2.2.1, f.2.1, f.2.2.2.2.1, f.2.2.2.2.2⟩
      have nC : Hj s3.heap.objs.size = none := by
        have e : Hj Y.env.locals = none := J1.free
        rw [← ye, cL] at e
        exact e
      obtain ⟨m, hm, _⟩ := J1.loc
      rw [← ye, cL] at hm
      exact done D s3.heap.objs.size z1 m Hj out hz hm (I3.fpOk (Nat.le_refl _) nC)
    · have ti := T.item Y yP.symm yw.symm yK.symm yc j [] z _ Hj (fun _ _ => False) Ij (fo Ij nj) stj go
      rw [← yA] at ti
      refine thnF ti fun r z1 q => ?_
      obtain ⟨u, rfl, q⟩ := q
      refine thnF q fun _ z2 q => ?_
      obtain ⟨x, H5, I5, r5, y5, st5, n5⟩ := q
      have rg := pg.run _ z2 _ H5 x u _ (I5.pinned (fo I5 n5) (T.obj _ _ st5)) r5 (step x H5 y5)
      rw [yx, ← yA, ← yP, ← yw, ← ye] at rg
      refine thnF rg fun _ z3 q => ?_
      obtain ⟨σ3, H6, I6, hw, q3⟩ := q
      have rt := pt.run _ z3 σ3 H6 _ I6 q3
      rw [yx, ← yA, ← yP, ← yw, ← ye] at rt
      refine thnF rt fun b z4 q => ?_
      obtain ⟨H7, I7, q4⟩ := q
      have back : ∀ τ H' z', Inv Y ([] ++ pinsAt fp z2.heap) τ H' z' → Knows σ3 τ (topVs cs) → Nx H' → ∃ m, m < k ∧ ∃ j H', Inv Y [] (wipe σ c.vs) H' z' ∧ tn j z'.heap ∧ (∀ b ∈ fp, H' b = none) ∧ W j m H' := fun τ H' z' I' kn nx => by
        obtain ⟨m', hm, w'⟩ := hNx H' nx
        have pn : ∀ b ∈ fp, ∀ o, z2.heap.get? b = some o → z'.heap.get? b = some o ∧ H' b = none := fun b hb o e =>
          let t := I'.pin (b, o) (List.mem_append_right _ (List.mem_append_right _ (mem_pinsAt hb e)))
          ⟨t.1, t.2.1⟩
        refine ⟨m', hm, j + 1, H', (I'.unpinned (pins := [])).weak ?_ (fun i v q => ?_), T.keep _ _ _ st5 fun b hb o e => (pn b hb o e).1, fun b hb => ?_, w'⟩
        · rw [kn.1, ← hw, wipe_length]
        · rw [← hw] at q
          exact kn.2 i v (wipe_sub nest.1 q)
        · obtain ⟨o, e, _⟩ := T.obj _ _ st5 b hb
          exact (pn b hb o e).2
      cases b with
      | false =>
        simp only [Bool.false_eq_true, if_false] at q4 ⊢
        exact back σ3 H7 z4 I7 ⟨rfl, fun i v q => (wipe_some q).1⟩ q4
      | true =>
        simp only [if_true] at q4 ⊢
        have r := deep_ok yc pe (gens := c.syn :: cs.map Cls.syn) (scope := scope) (pos := pos) cs 1 pr nest.2 rfl _ σ3 H7 z4 Nx _ I7 q4 back yx
        rw [← yA, ← yP, ← yw, ← ye] at r
        exact r
  exact start_at (d := 0) (gens := c.syn :: cs.map Cls.syn) rfl rfl lp (T.self X.A 0 _ _ _ st4 lp)
/-- as a value -/
theorem pe_lcN {elt : Expr} {c : Cls} {cs : List Cls} {scope : Scope} {own : List (Str × Nat)} {pos : Pos} {te : TE} (calm : X.calm = true) (nd : X.N.Nodup) (first : PI X c.tg c.iter c.wi) (blk : BlkOk X.N X.env.scope scope own) (hv : c.vs = own.map (·.2)) (nest : NestVs (c :: cs))
    (hg : ∀ s H C cl fp, PG (inBlk X scope s H C cl fp) c.tg c.g) (ht : ∀ s H C cl fp, PTs (inBlk X scope s H C cl fp) c.ifs c.tt) (rest : ∀ s H C cl fp, ∀ k ∈ cs, k.Ok (inBlk X scope s H C cl fp))
    (he : ∀ s H C cl fp, PE (inBlk X scope s H C cl fp) elt te) (fold : ∀ x, foldedSetIterable c.iter X.env x = pure x := by intro _; rfl) : PE X (.ListComp elt (c.syn :: cs.map Cls.syn) scope pos) (tLcN c cs te) := by
  refine ⟨fun pins s σ H Q I h => ?_⟩
  rw [eval_ListComp]
  refine core_n calm nd I first blk hv nest hg ht rest he fold h fun D C z m H' I' q hn f => ⟨m, hn, fun h2 sb => ?_⟩
  obtain ⟨f0, f1, f2, f3, f4, f5⟩ := f
  exact ⟨.ref D, H', I'.turned (t' := z.toks) (fun b o hb e => (sb.2 b hb).trans e) f0 f1 f3 f4 f5, rfl, q⟩
/-- x = [..] on one line, x a local name -/
theorem ps_setLcN {i : Nat} {y : Str} {py : Pos} {elt : Expr} {c : Cls} {cs : List Cls} {scope : Scope} {own : List (Str × Nat)} {pos spos : Pos} {te : TE} (calm : X.calm = true) (nd : X.N.Nodup) (hy : X.N[i]? = some y) (loc : X.env.scope.names.lookup y = some .local)
    (sw : swapsWith (.ListComp elt (c.syn :: cs.map Cls.syn) scope pos) (some (.Name y py)) spos.line X.env = pure true) (first : PI X c.tg c.iter c.wi) (blk : BlkOk X.N X.env.scope scope own) (hv : c.vs = own.map (·.2)) (nest : NestVs (c :: cs))
    (hg : ∀ s H C cl fp, PG (inBlk X scope s H C cl fp) c.tg c.g) (ht : ∀ s H C cl fp, PTs (inBlk X scope s H C cl fp) c.ifs c.tt) (rest : ∀ s H C cl fp, ∀ k ∈ cs, k.Ok (inBlk X scope s H C cl fp))
    (he : ∀ s H C cl fp, PE (inBlk X scope s H C cl fp) elt te) (fold : ∀ x, foldedSetIterable c.iter X.env x = pure x := by intro _; rfl) : PS X (.Assign [.Name y py] (.ListComp elt (c.syn :: cs.map Cls.syn) scope pos) spos) (tAsg (tLcN c cs te) (gName i)) := by
  refine ⟨fun pins s σ H D I h => ?_⟩
  rw [exec_Assign_Name_used _ _ _ _ sw]
  refine wpAny_bind (wpAny_standAt (wpAny_bind ?_))
  show wpAny _ X.A (do let _ ← comprehension (.ListComp elt (c.syn :: cs.map Cls.syn) scope pos) scope X.env _ (newList []) false (eval c.iter X.env) (some (assign (.Name y py) X.env))) _ _ s
  have h : tLcN c cs te σ H (fun x H1 => gName i x σ H1 D.nx) := h
  refine wpAny_bind (thn (core_n (Qf := fun _ z => SP X pins D .next z) calm nd I first blk hv nest hg ht rest he fold h fun L C z m H' I' q hn f => ?_) fun _ z hq => wpAny_pure (wpAny_pure hq))
  show wpAny _ _ (assign (.Name y py) X.env (.ref L)) _ _ _
  refine wpAny_assign_Name (store_ok2 (v := V.ref L) I' nd hy (.inl loc) rfl (fun z2 I2 q2 => ?_) (.inr loc))
  obtain ⟨a, sb, ha⟩ := q2
  obtain ⟨f0, f1, f2, f3, f4, f5⟩ := f
  have ne : C ≠ a := ha.elim (fun e => by rw [e]; exact f1) fun e => fun e' => f4 y a e e'.symm
  refine ⟨m, hn.sameBut sb ne, fun h3 sb3 => ?_⟩
  exact ⟨_, H', I2.turned (t' := z2.toks) (fun b o hb e => (sb3.2 b hb).trans e) f0 f1 f3 f4 f5, q⟩
end
end Ow

/-! sum(rows, []) of a list of lists; no tuple times a number. -/
namespace Ow
open PySem PySem.Spec PyProof.Rows L2
/-- the rows from i on, one behind the other -/
def onward (rows : Nat → List Value) (i k : Nat) : List Value := (List.range' i k).flatMap rows
theorem onward_succ (rows : Nat → List Value) (i k : Nat) : onward rows i (k + 1) = rows i ++ onward rows (i + 1) k := by
  unfold onward
  rw [List.range'_succ, List.flatMap_cons]
abbrev LstAt (h : Heap) (a : Addr) (vs : List Value) : Prop := ∃ c, h.get? a = some ({ cls := .type "list", dict := none, data := .seq vs.toArray c, slots := #[] } : Obj)
section
variable {prog : Program} {w : World} {A : Around} {R : Result → Shared → Prop}
theorem lists_loop (hh : A.handled = none) {I S l z : Addr} {items : Array Value} {base : Heap} (hlI : l ≠ I) (hSI : S ≠ I) (hSl : S ≠ l) (hIb : base.objs.size ≤ I) (hSb : base.objs.size ≤ S) (rows : Nat → List Value) (adr : Nat → Addr)
    (hit : ∀ (i : Nat) (v : Value), items[i]? = some v → v = .ref (adr i)) (hb : ∀ i, i < items.size → LstAt base (adr i) (rows i)) :
    ∀ (k i : Nat) (s : Shared) (T : Addr) (tot : List Value) (c : Nat), items.size - i = k → i ≤ items.size → s.heap.IsListIter I l i → s.heap.IsList l items →
      s.heap.get? S = some { cls := .type "list", dict := none, data := .seq #[.ref T] c, slots := #[] } → LstAt s.heap T tot → ((T = z ∧ i = 0 ∧ z < base.objs.size) ∨ base.objs.size ≤ T) → T ≠ I → T ≠ S →
      (∀ b o, base.get? b = some o → s.heap.get? b = some o) → tot.length + (onward rows i k).length ≤ sizeLine →
      (∀ (h' : Heap) (tk : Nat) (T' : Addr), (∀ b o, base.get? b = some o → h'.get? b = some o) → LstAt h' T' (tot ++ onward rows i k) → ((T' = z ∧ items.size = 0) ∨ base.objs.size ≤ T') → R (.ok (.ret (.ref T'))) { s with heap := h', toks := tk }) →
      codeAny (model prog w) A (.builtin "sum.loop" ⟨[.ref I, .ref S, rawInt 2, rawInt 0], []⟩) R s := by
  have ltI : ∀ {b : Addr} {o : Obj}, base.get? b = some o → b ≠ I ∧ b ≠ S := fun e => ⟨fun q => Nat.lt_irrefl _ (Nat.lt_of_lt_of_le (Heap.lt_size e) (q ▸ hIb)), fun q => Nat.lt_irrefl _ (Nat.lt_of_lt_of_le (Heap.lt_size e) (q ▸ hSb))⟩
  intro k
  induction k with
  | zero =>
    intro i s T tot c hk hi hI hl hS hT hw nI nS hbase hsz fin
    obtain rfl : i = items.size := by omega
    refine codeAny_builtin F.entry_sum_loop ?_
    rw [Around.under_plainId F.plain_sum_loop _]
    refine wpAny_bind (wpAny_seqItems hS rfl ?_)
    refine wpAny_bind (wpAny_tryCatch ((Walks.list (A := A.in1) hh I l hlI items).done s _ _ ⟨hI, hl⟩ fun h' tk keep => ?_))
    obtain ⟨cT, eT⟩ := hT
    refine wpAny_pure (fin h' tk T (fun b o e => keep b o (by simp only [List.mem_cons, List.not_mem_nil, or_false]; exact (ltI e).1) (hbase b o e)) ⟨cT, ?_⟩ ?_)
    · have e : onward rows items.size 0 = [] := rfl
      rw [e, List.append_nil]
      exact keep _ _ (by simpa using nI) eT
    · rcases hw with ⟨a, b, _⟩ | a
      · exact .inl ⟨a, b⟩
      · exact .inr a
  | succ k ih =>
    intro i s T tot c hk hi hI hl hS hT hw nI nS hbase hsz fin
    have lt : i < items.size := by omega
    refine codeAny_builtin F.entry_sum_loop ?_
    rw [Around.under_plainId F.plain_sum_loop _]
    refine wpAny_bind (wpAny_seqItems hS rfl ?_)
    refine wpAny_bind (wpAny_tryCatch ((Walks.list (A := A.in1) hh I l hlI items).item i s _ _ lt ⟨hI, hl⟩ fun v h' tk hv st keep => ?_))
    obtain rfl := hit i v hv
    have kp : ∀ {b : Addr} {o : Obj}, b ≠ I → s.heap.get? b = some o → h'.get? b = some o := fun n e => keep _ _ (by simpa using n) e
    obtain ⟨cT, eT⟩ := hT
    obtain ⟨cR, eR⟩ := hb i lt
    have eR' := kp (ltI eR).1 (hbase _ _ eR)
    have eT' := kp nI eT
    have hS' := kp hSI hS
    show wpAny _ A.in1 ((holding [Value.ref (adr i)] (binaryOp .Add (.ref T) (.ref (adr i)))).attempt >>= _) _ _ _
    rw [onward_succ, List.length_append] at hsz
    refine wpAny_bind (wpAny_attempt (wpAny_holding (PySem.P.add_list eT' eR' ?_ (by rw [List.size_toArray, List.size_toArray]; omega))))
    generalize en : h'.objs.size = n
    have atN : (h'.push { cls := .type "list", data := .seq (tot.toArray ++ (rows i).toArray) }).get? n = some { cls := .type "list", data := .seq (tot ++ rows i).toArray } := by
      rw [← en]
      have e := Heap.get?_push_size h' (o := ({ cls := .type "list", data := .seq (tot.toArray ++ (rows i).toArray) } : Obj)) rfl
      rw [e, List.append_toArray]
    have nS' : n ≠ S := Nat.ne_of_gt (en ▸ Heap.lt_size hS')
    obtain ⟨oI, eI, _⟩ := st.1
    have nI' : n ≠ I := Nat.ne_of_gt (en ▸ Heap.lt_size eI)
    have push : ∀ {b : Addr} {o : Obj}, h'.get? b = some o → (h'.push { cls := .type "list", data := .seq (tot.toArray ++ (rows i).toArray) }).get? b = some o := fun e => Heap.get?_push_of_some _ e
    have hS2 := push hS'
    refine wpAny_bind (wpAny_updateSeq hS2 rfl ?_)
    have hS3 := Heap.get?_update_self (Obj.mapSeq fun _ => #[Value.ref n]) hS2 rfl
    refine wpAny_bind (wpAny_letGo ?_)
    refine wpAny_bind (wpAny_updateSeq hS3 rfl (wpAny_pure ⟨plainId_quiet F.plain_sum_loop _, ?_⟩))
    have up : ∀ {b : Addr} {o : Obj}, b ≠ S → h'.get? b = some o → (((h'.push { cls := .type "list", data := .seq (tot.toArray ++ (rows i).toArray) }).update S (Obj.mapSeq fun _ => #[Value.ref n])).update S (Obj.mapSeq fun _ => #[Value.ref n])).get? b = some o := fun {b o} nb e =>
      (Heap.get?_update_other _ _ (Ne.symm nb)).trans ((Heap.get?_update_other _ _ (Ne.symm nb)).trans (push e))
    obtain ⟨ol, el, rl⟩ := st.2
    refine ih (i + 1) _ n (tot ++ rows i) _ (by omega) lt ?_ ?_ (Heap.get?_update_self _ hS3 rfl) ⟨0, ?_⟩ (.inr ?_) nI' nS' ?_ ?_ fun h2 tk2 T2 k2 e2 w2 => ?_
    · obtain ⟨o, e, r⟩ := st.1
      exact ⟨o, up (Ne.symm hSI) e, r⟩
    · exact ⟨ol, up (Ne.symm hSl) el, rl⟩
    · exact (Heap.get?_update_other _ _ (Ne.symm nS')).trans ((Heap.get?_update_other _ _ (Ne.symm nS')).trans atN)
    · exact Nat.le_of_lt (Nat.lt_of_le_of_lt hIb (en ▸ Heap.lt_size eI))
    · intro b o e
      exact up (ltI e).2 (kp (ltI e).1 (hbase b o e))
    · rw [List.length_append]
      omega
    · refine fin h2 tk2 T2 k2 ?_ w2
      rw [onward_succ, ← List.append_assoc]
      exact e2
theorem args_sum2 (a b : Value) : argsOk "sum" ⟨[a, b], []⟩ := by unfold argsOk; kernel_rfl
theorem list_no_bytearray : isSubtype (.type "list") (.type "bytearray") = pure false := by rw [isSubtype_type]; kernel_rfl
theorem sum_lists {s : Shared} {E : Value → Shared → Prop} {l z : Addr} {items : Array Value} {Q : Value → Shared → Prop} (hh : A.handled = none) (hl : s.heap.IsList l items) (hz : LstAt s.heap z []) (rows : Nat → List Value) (adr : Nat → Addr)
    (hit : ∀ (i : Nat) (v : Value), items[i]? = some v → v = .ref (adr i)) (hb : ∀ i, i < items.size → LstAt s.heap (adr i) (rows i)) (hsz : (onward rows 0 items.size).length ≤ sizeLine)
    (fin : ∀ (h' : Heap) (tk : Nat) (T' : Addr), (∀ b o, s.heap.get? b = some o → h'.get? b = some o) → LstAt h' T' (onward rows 0 items.size) → ((T' = z ∧ items.size = 0) ∨ s.heap.objs.size ≤ T') → Q (.ref T') { s with heap := h', toks := tk }) :
    wpAny (model prog w) A (call (.builtin "sum") [.ref l, .ref z]) Q E s := by
  refine call_function_tree F.kind_sum F.plain_sum F.entry_sum (args_sum2 _ _) ?_
  unfold Builtin.«sum»
  simp only [List.length_cons, List.length_nil]
  rw [if_neg (by decide)]
  refine wpAny_bind (wpAny_of_eq (show Builtin.Builtins.bindParams "sum" ["start"] 0 ⟨[.ref z], []⟩ = pure [some (.ref z)] from rfl) ?_)
  obtain ⟨ol, el, rl⟩ := hl
  refine wpAny_bind (wpAny_pyIter_list ⟨ol, el, rl⟩ ?_)
  generalize eI : s.heap.objs.size = I
  refine wpAny_bind (wpAny_pure ?_)
  simp only [List.forIn_cons, List.forIn_nil]
  have lI : l < I := eI ▸ Heap.lt_size el
  obtain ⟨cz, ez⟩ := hz
  have zI : z < I := eI ▸ Heap.lt_size ez
  generalize eh : s.heap.push { cls := .type "list_iterator", data := .fields #[.ref l, .int 0 0] } = h1
  have atI : h1.get? I = some { cls := .type "list_iterator", data := .fields #[.ref l, .int 0 0] } := by
    rw [← eh, ← eI]
    exact Heap.get?_push_size _ rfl
  have k1 : ∀ b o, s.heap.get? b = some o → h1.get? b = some o := fun b o e => by
    rw [← eh]
    exact Heap.get?_push_of_some _ e
  have tz : ∀ (g : Array GenState) (d : Drawn) (tk : Nat) (os : OsState), Shared.TypeIs ⟨h1, g, d, tk, os⟩ (.ref z) "list" := fun _ _ _ _ => ⟨_, k1 _ _ ez, rfl⟩
  refine wpAny_bind (wpAny_bind (wpAny_bind (wpAny_isInstance (T := "list") (b := false) (tz _ _ _ _) PySem.F.sub_list_str ?_)))
  simp only [Bool.false_eq_true, if_false]
  refine wpAny_pure (wpAny_bind (wpAny_bind (wpAny_isInstance (T := "list") (b := false) (tz _ _ _ _) PySem.F.sub_list_bytes ?_)))
  simp only [Bool.false_eq_true, if_false]
  refine wpAny_pure (wpAny_bind (wpAny_bind (wpAny_isInstance (T := "list") (b := false) (tz _ _ _ _) list_no_bytearray ?_)))
  simp only [Bool.false_eq_true, if_false]
  refine wpAny_pure (wpAny_pure ?_)
  refine wpAny_bind (wpAny_newObj_type ?_)
  generalize eS : h1.objs.size = S
  have sI : S = I + 1 := by rw [← eS, ← eh, Heap.size_push, eI]
  refine wpAny_pure ⟨plainId_quiet F.plain_sum_loop _, ?_⟩
  have k2 : ∀ b o, h1.get? b = some o → (h1.push { cls := .type "list", data := .seq [Value.ref z].toArray }).get? b = some o := fun b o e => Heap.get?_push_of_some _ e
  refine lists_loop (base := s.heap) (z := z) hh (l := l) (I := I) (S := S) (Nat.ne_of_lt lI) (by rw [sI]; exact Nat.succ_ne_self I) (Nat.ne_of_gt (sI ▸ Nat.lt_succ_of_lt lI)) (Nat.le_of_eq eI) (by rw [sI, eI]; exact Nat.le_succ I) rows adr hit hb items.size 0 _ z [] 0 rfl (Nat.zero_le _) ⟨_, k2 _ _ atI, rfl, rfl⟩ ⟨ol, k2 _ _ (k1 _ _ el), rl⟩ ?_ ⟨cz, k2 _ _ (k1 _ _ ez)⟩
    (.inl ⟨rfl, rfl, Heap.lt_size ez⟩) (Nat.ne_of_lt zI) (Nat.ne_of_lt (sI ▸ Nat.lt_succ_of_lt zI)) (fun b o e => k2 _ _ (k1 _ _ e)) (by simpa using hsz) fun h2 tk2 T2 k2 e2 w2 => fin h2 tk2 T2 k2 (by simpa using e2) w2
  rw [← eS]
  exact Heap.get?_push_size _ rfl
end
section
variable {X : Cx}
def rSumL (K : PySem.W.Frag) : List V → Hp → VK → Prop := fun vs H Q => ∃ (l z : Addr) (as : List Addr) (rws : List (List V)), vs = [.ref l, .ref z] ∧ SqL K H l (as.map V.ref) ∧ H z = some (.lst []) ∧ as.length = rws.length ∧
  (∀ (i : Nat) a r, as[i]? = some a → rws[i]? = some r → H a = some (.lst r)) ∧ rws.flatten.length ≤ sizeLine ∧ ∀ (T : Addr) (H' : Hp), Same H H' → H' T = some (.lst rws.flatten) → Q (.ref T) H'
theorem flat_getD {α : Type} (rws : List (List α)) : (List.range' 0 rws.length).flatMap (fun i => rws.getD i []) = rws.flatten := by
  rw [List.flatMap_def]
  congr 1
  refine List.ext_getElem (by simp) fun i h1 h2 => ?_
  simp [List.getElem?_eq_getElem h2]
theorem vals_flat {f : Nat → List V} {g : Nat → List Value} : ∀ (k i : Nat), (∀ j, i ≤ j → j < i + k → Vals (f j) (g j)) → Vals ((List.range' i k).flatMap f) ((List.range' i k).flatMap g)
  | 0, i, _ => .nil
  | k + 1, i, h => by
    rw [List.range'_succ, List.flatMap_cons, List.flatMap_cons]
    exact (h i (Nat.le_refl _) (by omega)).append (vals_flat k (i + 1) fun j h1 h2 => h j (by omega) (by omega))
theorem refs_of : ∀ {as : List Addr} {us : List Value}, Vals (as.map V.ref) us → us = as.map Value.ref
  | [], _, r => by
    cases r
    rfl
  | a :: as, _, r => by
    cases r with
    | cons r1 r2 =>
      cases r1
      rw [refs_of r2, List.map_cons]
theorem cr_sumL (hc : X.calm = true) : CallR X (.builtin "sum") (rSumL X.K) := by
  intro pins s σ H vs us Q I r h
  obtain ⟨l, z, as, rws, rfl, hs, hz, hl, hr, hn, q⟩ := h
  cases r with
  | cons r1 r =>
    cases r with
    | cons r2 r =>
      cases r
      cases r1
      cases r2
      obtain ⟨its, rv, hil, _⟩ := I.list hs
      obtain rfl := refs_of rv
      obtain ⟨_, iz, nz, rz, lz, ez⟩ := I.lstM hz
      cases rz
      have each : ∀ i, ∃ us, i < as.length → Vals (rws.getD i []) us ∧ LstAt s.heap (as.getD i 0) us := fun i => by
        by_cases hi : i < as.length
        · have e1 := List.getElem?_eq_getElem hi
          have e2 := List.getElem?_eq_getElem (l := rws) (i := i) (by omega)
          obtain ⟨_, ir, nr, rr, lr, er⟩ := I.lstM (hr i _ _ e1 e2)
          refine ⟨ir, fun _ => ⟨?_, nr, ?_⟩⟩
          · rw [List.getD_eq_getElem?_getD, e2]
            exact rr
          · rw [List.getD_eq_getElem?_getD, e1]
            exact er
        · exact ⟨[], fun h => absurd h hi⟩
      obtain ⟨rows, hrows⟩ := Classical.axiomOfChoice each
      have sz : (as.map Value.ref).toArray.size = as.length := by simp
      have vf : Vals rws.flatten (onward rows 0 as.length) := by
        have v := vals_flat (f := fun i => rws.getD i []) (g := rows) as.length 0 fun j _ h2 => (hrows j (by omega)).1
        rw [hl, flat_getD] at v
        rw [hl]
        exact v
      refine sum_lists (I.ok.hd hc) hil.isList ⟨nz, ez⟩ rows (fun i => as.getD i 0) (fun i v e => ?_) (fun i hi => (hrows i (sz ▸ hi)).2) ?_ fun h' tk T keep e w => ?_
      · rw [List.getElem?_toArray, List.getElem?_map] at e
        obtain ⟨a, ea, rfl⟩ := Option.map_eq_some_iff.mp e
        rw [List.getD_eq_getElem?_getD, ea]
        rfl
      · rw [sz, ← vf.length]
        exact hn
      · rw [sz] at e w
        obtain ⟨c, e⟩ := e
        rcases w with ⟨rfl, w⟩ | w
        · refine ⟨.ref T, H, I.kept keep, rfl, q T H (Same.refl H) ?_⟩
          have : rws = [] := List.length_eq_zero_iff.mp (by omega)
          rw [this]
          exact hz
        · refine ⟨.ref T, _, I.laid (t' := tk) (o := .lst rws.flatten) keep w ⟨hn, _, c, vf, e⟩, rfl, q T _ (same_new (I.hok.fresh w)) upd_same⟩
/-- a tuple of nothing, some times, is itself -/
theorem tuple_mul0 (l : Addr) (n : Nat) (dd : Option Addr) (sl : Array (Option Value)) (x : Int) (u : Tok) (c0 : (decide (x < -(2 ^ 63)) || decide (x ≥ 2 ^ 63)) = false) :
    Meets (Builtin.«tuple.__mul__» ⟨[.ref l, .int x u], []⟩) (fun _ R s => s.heap.get? l = some { cls := .type "tuple", dict := dd, data := .seq #[] n, slots := sl } ∧ R (.ok (.ret (Value.ref l))) s) :=
  .of_wp fun prog w A R s h => by
    obtain ⟨hp, g, d, tk, os⟩ := s
    obtain ⟨hl, h⟩ := h
    have f1 := AutoSeq1.idx_int
    wp_walk using wpAny_loadPart' hl
    refine wpAny_ite_false (decide_eq_false (by rw [c0]; exact Bool.false_ne_true)) ?_
    wp_walk using wpAny_loadPart' hl
    exact ⟨_, rfl, h⟩
def rRepU (K : PySem.W.Frag) : R2 := fun x y H Q => ∃ l k, x = .ref l ∧ y = .int k ∧ SqT K H l [] ∧ 0 ≤ k ∧ k ≤ 1000 ∧ Q (.ref l) H
theorem op_repU {X : Cx} : OpR X (binaryOp .Mult) (rRepU X.K) := by
  intro pins s σ H x y v u Q I rx ry h
  obtain ⟨l, k, rfl, rfl, hT, h1, h2, q⟩ := h
  cases rx
  obtain ⟨t, rfl⟩ := ry
  obtain ⟨its, r, ⟨⟨cls, dd, data, sl⟩, ho, hc, n, hd⟩, hs⟩ := I.tuple hT
  cases r
  simp only at hc hd
  subst hc hd
  have c0 : (decide (k < -(2 ^ 63)) || decide (k ≥ 2 ^ 63)) = false := by
    rw [decide_eq_false (by omega), decide_eq_false (by omega)]
    rfl
  refine wpAny_binaryOp_repeat_ref (T := "tuple") (U := "int") (by decide) ⟨_, ho, rfl⟩ (fun s' => typeIs_int s' k t) noFill_tuple_mul F.fills_int_mul F.slot_int_rmul repeat_tuple F.slot_int_index.lookup
    (call_meets F.slot_int_rmul (typeIs_int s k t) F.entry_int_rmul (F.args_int_rmul_2 _ _) (int_rmul_tuple k t l _ n dd sl)
      ⟨ho, rfl, ⟨_, ho, rfl⟩, call_meets F.slot_tuple_mul ⟨_, ho, rfl⟩ F.entry_tuple_mul (F.args_tuple_mul_2 _ _) (tuple_mul0 l n dd sl k t c0) ⟨ho, ?_⟩⟩)
  exact ⟨.ref l, H, I, rfl, q⟩
end
end Ow

/-! A program's data kinds, over any data. -/
namespace Ow
open PySem PySem.Spec PyProof.Rows L2
/-! ### what goes over a tuple, whatever is done in it -/
theorem over_tup {K : PySem.W.Frag} {a : Addr} {xs : List V} {B : V → Hp → (Hp → Prop) → Prop} {Z : Hp → Prop} {H1 : Hp} (Pv : Nat → Hp → Prop) (h0 : Pv 0 H1) (hl : ∀ i H, i ≤ xs.length → Pv i H → SqT K H a xs)
    (hs : ∀ i x H, xs[i]? = some x → Pv i H → B x H (Pv (i + 1))) (hd : ∀ H, Pv xs.length H → Z H) :
    ∃ W : Nat → Nat → Hp → Prop, (∃ m, W 0 m H1) ∧ ∀ j m H, W j m H → ((Itt K a).stop j H ∧ Z H) ∨ ((Itt K a).go j H ∧ ∃ Y : Hp → Prop, (∀ H', Y H' → ∃ m', m' < m ∧ W (j + 1) m' H') ∧ ∀ x H', (Itt K a).yld j H x H' → B x H' Y) := by
  refine ⟨fun i m H => m = xs.length - i ∧ i ≤ xs.length ∧ Pv i H, ⟨_, rfl, Nat.zero_le _, h0⟩, ?_⟩
  rintro i m H ⟨rfl, hi, p⟩
  have q := hl i H hi p
  by_cases lt : i < xs.length
  · refine .inr ⟨⟨xs, xs[i], q, by simp [lt]⟩, Pv (i + 1), fun H' p' => ⟨xs.length - (i + 1), by omega, rfl, lt, p'⟩, fun x H' y => ?_⟩
    obtain ⟨rfl, y⟩ := y
    exact hs i x _ (y xs q) p
  · obtain rfl : i = xs.length := by omega
    exact .inl ⟨⟨xs, q, Nat.le_refl _⟩, hd H p⟩
theorem pi_tupK {X : Cx} {K : PySem.W.Frag} (h : X.K = K) {tg l : Expr} {tl : TE} (hl : PE X l tl) : PI X tg l (iTup K tl) := h ▸ pi_tup hl
theorem in_seqK {X : Cx} {K : PySem.W.Frag} (h : X.K = K) : OpR X (compareOp .In) (rIn K false) := h ▸ op_in_seq
theorem ok_nil {Y : Cx} : ∀ k ∈ ([] : List Cls), k.Ok Y := fun _ h => nomatch h
theorem ok_cons {Y : Cx} {c : Cls} {cs : List Cls} (pi : PI Y c.tg c.iter c.wi) (pg : PG Y c.tg c.g) (pt : PTs Y c.ifs c.tt) (fold : ∀ env x, foldedSetIterable c.iter env x = pure x) (h : ∀ k ∈ cs, k.Ok Y) : ∀ k ∈ c :: cs, k.Ok Y := fun k hk => by
  rcases List.mem_cons.mp hk with rfl | hk
  · exact ⟨pi, pg, pt, fold⟩
  · exact h k hk
/-! ### data kinds -/
def fstN : PyData → Str
  | .tuple [s, _] => nmD s
  | _ => sg ""
def sndL : PyData → List PyData
  | .tuple [_, b] => itD b
  | _ => []
def datasOk (d : PyData) : Bool := isRowD d 1 6 && ((itD d).all dataOk && (unlikeN ((itD d).map fstN) && (unlikeN (((itD d).flatMap sndL).map fstN) && (((itD d).flatMap sndL).flatMap sndL).all fun f => memD f ((itD d).map fstN))))
def progOk : PyData → Bool
  | .tuple [a, b] => datasOk a && defsOk b
  | _ => false
abbrev MkT := Str × List Str
abbrev DtT := Str × List MkT
def mkD (m : MkT) : PyData := .tuple [.str m.1, .tuple (m.2.map strD)]
def dtD (p : DtT) : PyData := .tuple [.str p.1, .tuple (p.2.map mkD)]
structure MkOk (m : MkT) : Prop where
  nm : isNameD (.str m.1) = true
  len : m.2.length ≤ 4
  all : ∀ f ∈ m.2, isNameD (.str f) = true
structure DtOk (p : DtT) : Prop where
  nm : isNameD (.str p.1) = true
  one : 1 ≤ p.2.length
  len : p.2.length ≤ 6
  all : ∀ m ∈ p.2, MkOk m
theorem maker_of {d : PyData} (h : makerOk d = true) : ∃ m : MkT, d = mkD m ∧ MkOk m := by
  unfold makerOk at h
  split at h
  · rename_i a b
    simp only [Bool.and_eq_true] at h
    obtain ⟨h1, h2, h3⟩ := h
    obtain ⟨x, rfl⟩ := name_str h1
    obtain ⟨ns, rfl, _, h4⟩ := row_tup h2
    obtain ⟨xs, rfl, hx⟩ := names_of (ns := ns) h3
    rw [List.length_map] at h4
    exact ⟨(x, xs), rfl, h1, (by omega : xs.length ≤ 4), hx⟩
  · cases h
theorem makers_of : ∀ {ds : List PyData}, ds.all makerOk = true → ∃ ms : List MkT, ds = ms.map mkD ∧ ∀ m ∈ ms, MkOk m
  | [], _ => ⟨[], rfl, fun _ z => nomatch z⟩
  | d :: ds, h => by
    rw [List.all_cons, Bool.and_eq_true] at h
    obtain ⟨m, rfl, hm⟩ := maker_of h.1
    obtain ⟨ms, rfl, hms⟩ := makers_of h.2
    refine ⟨m :: ms, rfl, fun y hy => ?_⟩
    rcases List.mem_cons.mp hy with rfl | hy
    · exact hm
    · exact hms y hy
theorem data_of {d : PyData} (h : dataOk d = true) : ∃ p : DtT, d = dtD p ∧ DtOk p := by
  unfold dataOk at h
  split at h
  · rename_i a b
    simp only [Bool.and_eq_true] at h
    obtain ⟨h1, h2, h3⟩ := h
    obtain ⟨x, rfl⟩ := name_str h1
    obtain ⟨ns, rfl, h5, h6⟩ := row_tup h2
    obtain ⟨ms, rfl, hm⟩ := makers_of (ds := ns) h3
    rw [List.length_map] at h5 h6
    exact ⟨(x, ms), rfl, h1, (by omega : 1 ≤ ms.length), (by omega : ms.length ≤ 6), hm⟩
  · cases h
theorem datas_of : ∀ {ds : List PyData}, ds.all dataOk = true → ∃ ps : List DtT, ds = ps.map dtD ∧ ∀ p ∈ ps, DtOk p
  | [], _ => ⟨[], rfl, fun _ z => nomatch z⟩
  | d :: ds, h => by
    rw [List.all_cons, Bool.and_eq_true] at h
    obtain ⟨p, rfl, hp⟩ := data_of h.1
    obtain ⟨ps, rfl, hps⟩ := datas_of h.2
    refine ⟨p :: ps, rfl, fun y hy => ?_⟩
    rcases List.mem_cons.mp hy with rfl | hy
    · exact hp
    · exact hps y hy
def mksOf (ps : List DtT) : List MkT := ps.flatMap (·.2)
def fldsOf (ps : List DtT) : List Str := (mksOf ps).flatMap (·.2)
theorem fst_dt (ps : List DtT) : (ps.map dtD).map fstN = ps.map (·.1) := by
  rw [List.map_map]
  rfl
theorem snd_dt (ps : List DtT) : (ps.map dtD).flatMap sndL = (mksOf ps).map mkD := by
  unfold mksOf
  rw [List.flatMap_map, List.map_flatMap]
  rfl
theorem snd_mk (ms : List MkT) : (ms.map mkD).flatMap sndL = (ms.flatMap (·.2)).map strD := by
  rw [List.flatMap_map, List.map_flatMap]
  rfl
theorem fst_mk (ms : List MkT) : (ms.map mkD).map fstN = ms.map (·.1) := by
  rw [List.map_map]
  rfl
theorem datas_eq (ps : List DtT) : datasOk (.tuple (ps.map dtD)) = (isRowD (.tuple (ps.map dtD)) 1 6 && ((ps.map dtD).all dataOk && (unlikeN (ps.map (·.1)) && (unlikeN ((mksOf ps).map (·.1)) && (fldsOf ps).all fun f => decide (f ∈ ps.map (·.1)))))) := by
  show (isRowD (.tuple (ps.map dtD)) 1 6 && ((ps.map dtD).all dataOk && (unlikeN ((ps.map dtD).map fstN) && (unlikeN (((ps.map dtD).flatMap sndL).map fstN) && (((ps.map dtD).flatMap sndL).flatMap sndL).all fun f => memD f ((ps.map dtD).map fstN))))) = _
  rw [fst_dt, snd_dt, fst_mk, snd_mk]
  have e : ∀ (xs zs : List Str), ((xs.map strD).all fun f => memD f zs) = xs.all fun f => decide (f ∈ zs) := fun xs zs => by
    rw [List.all_map]
    rfl
  rw [e]
  rfl
theorem flat_len {α β : Type} {f : α → List β} {k : Nat} : ∀ {xs : List α}, (∀ x ∈ xs, (f x).length ≤ k) → (xs.flatMap f).length ≤ xs.length * k
  | [], _ => Nat.zero_le _
  | x :: xs, h => by
    have h1 := h x (List.mem_cons_self ..)
    have h2 := flat_len (xs := xs) fun y hy => h y (List.mem_cons_of_mem _ hy)
    rw [List.flatMap_cons, List.length_append, List.length_cons, Nat.succ_mul]
    omega
theorem mks_len {ps : List DtT} (h : ∀ p ∈ ps, DtOk p) : (mksOf ps).length ≤ ps.length * 6 := flat_len fun p hp => (h p hp).len
theorem mks_ok {ps : List DtT} (h : ∀ p ∈ ps, DtOk p) : ∀ m ∈ mksOf ps, MkOk m := fun m hm => by
  obtain ⟨p, hp, hm⟩ := List.mem_flatMap.mp hm
  exact (h p hp).all m hm
theorem flds_len {ps : List DtT} (h : ∀ p ∈ ps, DtOk p) : (fldsOf ps).length ≤ ps.length * 6 * 4 :=
  Nat.le_trans (flat_len fun m hm => (mks_ok h m hm).len) (Nat.mul_le_mul_right _ (mks_len h))
theorem mks_take {ps : List DtT} {i : Nat} {p : DtT} (h : ps[i]? = some p) : mksOf (ps.take (i + 1)) = mksOf (ps.take i) ++ p.2 := by
  unfold mksOf
  rw [List.take_add_one, h, List.flatMap_append]
  simp
theorem flds_take {ps : List DtT} {i : Nat} {p : DtT} (h : ps[i]? = some p) : fldsOf (ps.take (i + 1)) = fldsOf (ps.take i) ++ p.2.flatMap (·.2) := by
  unfold fldsOf
  rw [mks_take h, List.flatMap_append]
theorem flat_take {α β : Type} {f : α → List β} {ms : List α} {i : Nat} {m : α} (h : ms[i]? = some m) : (ms.take (i + 1)).flatMap f = (ms.take i).flatMap f ++ f m := by
  rw [List.take_add_one, h, List.flatMap_append]
  simp
section
variable {K : PySem.W.Frag} {N : Addr → Prop} {H : Hp}
theorem Da.dt {v : V} {p : DtT} (h : Da K N H v (dtD p)) : ∃ t t2 us, v = .ref t ∧ SqT K H t [.str p.1, .ref t2] ∧ SqT K H t2 us ∧ DaAll K N H us (p.2.map mkD) := by
  obtain ⟨t, x, y, rfl, hT, ha, hb⟩ := Da.tup2 h
  obtain rfl := ha.strInv
  obtain ⟨t2, us, rfl, hT2, hA⟩ := hb.tupInv
  exact ⟨t, t2, us, rfl, hT, hT2, hA⟩
theorem Da.mk {v : V} {m : MkT} (h : Da K N H v (mkD m)) : ∃ t t2, v = .ref t ∧ SqT K H t [.str m.1, .ref t2] ∧ SqT K H t2 (m.2.map V.str) := by
  obtain ⟨t, x, y, rfl, hT, ha, hb⟩ := Da.tup2 h
  obtain rfl := ha.strInv
  obtain ⟨t2, rfl, hT2⟩ := hb.names
  exact ⟨t, t2, rfl, hT, hT2⟩
theorem map_get {α β : Type} {f : α → β} {xs : List α} {i : Nat} {y : β} (h : (xs.map f)[i]? = some y) : ∃ x, xs[i]? = some x ∧ y = f x := by
  rw [List.getElem?_map] at h
  obtain ⟨x, hx, rfl⟩ := Option.map_eq_some_iff.mp h
  exact ⟨x, hx, rfl⟩
end
end Ow

/-! Drawn programs; slices of any bounds; the law's own look at a program. -/
namespace Ow
open PySem PySem.Spec PyProof.Rows L2
/-- a tuple beside the empty one -/
def rNeU (K : PySem.W.Frag) : R2 := fun x y H Q => ∃ (a b : Addr) (xs : List V), x = .ref a ∧ y = .ref b ∧ SqT K H a xs ∧ SqT K H b [] ∧ Q (.bl (!xs.isEmpty)) H
theorem op_neU {X : Cx} (hu : X.A.units + 64 < cLine) : OpR X (compareOp .NotEq) (rNeU X.K) := by
  intro pins s σ H x y v u Q I rx ry h
  obtain ⟨a, b, xs, rfl, rfl, ha, hb, q⟩ := h
  cases rx
  cases ry
  obtain ⟨its, rv, hit, _⟩ := I.tuple ha
  obtain ⟨its2, rv2, hit2, _⟩ := I.tuple hb
  cases rv2
  refine SeqAt.RcNeAt.tuples (e := fun _ => true) hit hit2 (by omega) (fun j h1 h2 => absurd h2 (Nat.not_lt_zero _)) _ _ _ _ ?_
  refine ⟨.bl _, H, I, ?_, q⟩
  show Value.bool _ = Value.bool _
  cases rv with
  | nil => rfl
  | cons _ _ => simp
theorem listOfK {X : Cx} {K : PySem.W.Frag} (h : X.K = K) : CallR X (.type "list") (fun xs H Q => ∃ p ys, xs = [.ref p] ∧ (SqL K H p ys ∨ SqT K H p ys) ∧ ∀ l, H l = none → Q (.ref l) (upd H l (.lst ys))) := h ▸ call_list_of
/-! ### slices -/
theorem cut_some (n : Nat) (lo hi : Option Int) : ∃ a b, ∀ xs : List V, xs.length = n → cutV xs lo hi = (xs.drop a).take b := ⟨HT.sIx n 0 lo, HT.sIx n n hi - HT.sIx n 0 lo, fun xs h => by
  unfold cutV
  rw [h]⟩
theorem da_cut {K : PySem.W.Frag} {N : Addr → Prop} {H : Hp} {xs : List V} {ds : List PyData} (h : DaAll K N H xs ds) (lo hi : Option Int) : ∃ es, DaAll K N H (cutV xs lo hi) es ∧ es.Sublist ds ∧ (cutV xs lo hi).length = es.length := by
  obtain ⟨a, b, e⟩ := cut_some xs.length lo hi
  rw [e xs rfl]
  refine ⟨(ds.drop a).take b, (h.drop a).take b, (List.take_sublist _ _).trans (List.drop_sublist _ _), ((h.drop a).take b).length⟩
theorem at_last {α : Type} {xs : List α} (h : xs ≠ []) : ∃ x, atI xs (-1) = some x ∧ xs[xs.length - 1]? = some x := by
  have l : 0 < xs.length := List.length_pos_iff.mpr h
  refine ⟨xs[xs.length - 1], ?_, List.getElem?_eq_getElem _⟩
  have e : ixN xs.length (-1) = some (xs.length - 1) := by
    unfold ixN
    rw [if_neg (by omega), if_pos (by omega)]
    congr 1
    omega
  show (ixN xs.length (-1)).bind _ = _
  rw [e]
  exact List.getElem?_eq_getElem _
/-! ### programs as they are drawn -/
structure MkS (m : MkT) : Prop where
  nm : Nm m.1
  len : m.2.length ≤ 5
  all : ∀ f ∈ m.2, Nm f
structure DtS (p : DtT) : Prop where
  nm : Nm p.1
  one : 1 ≤ p.2.length
  len : p.2.length ≤ 7
  all : ∀ m ∈ p.2, MkS m
structure PsS (ps : List DtT) : Prop where
  one : 1 ≤ ps.length
  len : ps.length ≤ 7
  all : ∀ p ∈ ps, DtS p
/-- a def's row -/
abbrev DfT := Str × PyData × PyData
def dfD (f : DfT) : PyData := .tuple [.str f.1, f.2.1, f.2.2]
structure FsS (b : Nat) (fs : List DfT) : Prop where
  len : fs.length ≤ b
  all : ∀ f ∈ fs, Nm f.1 ∧ Fit 2000 60 f.2.1 ∧ Fit 42740 60 f.2.2
theorem fit_all {n m : Nat} : ∀ {ds : List PyData}, (∀ d ∈ ds, Fit n m d) → FitAll (ds.length * (n + 2)) m ds
  | [], _ => FitAll.nil.le (Nat.zero_le _) (Nat.le_refl _)
  | d :: ds, h => by
    refine (FitAll.cons (h d (List.mem_cons_self ..)) (fit_all fun e he => h e (List.mem_cons_of_mem _ he))).le ?_ (Nat.le_refl _)
    rw [List.length_cons, Nat.succ_mul]
    omega
theorem fit_map {α : Type} {f : α → PyData} {n m k : Nat} {xs : List α} (h : ∀ x ∈ xs, Fit n m (f x)) (hl : xs.length ≤ k) : FitAll (k * (n + 2)) m (xs.map f) := by
  have q : ∀ d ∈ xs.map f, Fit n m d := fun d hd => by
    obtain ⟨x, hx, rfl⟩ := List.mem_map.mp hd
    exact h x hx
  refine (fit_all q).le ?_ (Nat.le_refl _)
  rw [List.length_map]
  exact Nat.mul_le_mul_right _ hl
theorem MkS.fit {m : MkT} (h : MkS m) : Fit 562 2 (mkD m) := by
  have f := fit_map (f := strD) (k := 5) (fun x hx => fit_nm (h.all x hx)) h.len
  exact (Fit.tup (.cons ((fit_nm h.nm).le (Nat.le_refl _) (Nat.zero_le _)) (.cons (Fit.tup f) (FitAll.nil (n := 0))))).le (by omega) (by omega)
theorem DtS.fit {p : DtT} (h : DtS p) : Fit 4100 4 (dtD p) := by
  have f := fit_map (f := mkD) (k := 7) (fun x hx => (h.all x hx).fit) h.len
  exact (Fit.tup (.cons ((fit_nm h.nm).le (Nat.le_refl _) (Nat.zero_le _)) (.cons (Fit.tup f) (FitAll.nil (n := 0))))).le (by omega) (by omega)
theorem PsS.fit {ps : List DtT} (h : PsS ps) : Fit 28800 5 (.tuple (ps.map dtD)) :=
  (Fit.tup (fit_map (f := dtD) (k := 7) (fun x hx => (h.all x hx).fit) h.len)).le (by omega) (by omega)
theorem df_fit {f : DfT} (h1 : Nm f.1) (h2 : Fit 2000 60 f.2.1) (h3 : Fit 42740 60 f.2.2) : Fit 44840 61 (dfD f) :=
  (Fit.tup (.cons ((fit_nm h1).le (Nat.le_refl _) (Nat.zero_le _)) (.cons h2 (.cons h3 (FitAll.nil (n := 0)))))).le (by omega) (by omega)
theorem FsS.fit {b : Nat} {fs : List DfT} (h : FsS b fs) (hb : b ≤ 40) : Fit 1800000 62 (.tuple (fs.map dfD)) :=
  (Fit.tup (fit_map (f := dfD) (k := 40) (fun x hx => df_fit (h.all x hx).1 (h.all x hx).2.1 (h.all x hx).2.2) (Nat.le_trans h.len hb))).le (by omega) (by omega)
theorem FsS.le {b c : Nat} {fs : List DfT} (h : FsS b fs) (hb : b ≤ c) : FsS c fs := ⟨Nat.le_trans h.len hb, h.all⟩
/-- a drawn program: its data kinds and its defs, as tuples -/
structure Prg (K : PySem.W.Frag) (H : Hp) (v : V) (ps : List DtT) (fs : List DfT) : Prop where
  ex : ∃ t a b xs ys, v = .ref t ∧ SqT K H t [.ref a, .ref b] ∧ SqT K H a xs ∧ DaAll K All H xs (ps.map dtD) ∧ SqT K H b ys ∧ DaAll K All H ys (fs.map dfD)
theorem Prg.da {K : PySem.W.Frag} {H : Hp} {v : V} {ps : List DtT} {fs : List DfT} (h : Prg K H v ps fs) : Da K All H v (.tuple [.tuple (ps.map dtD), .tuple (fs.map dfD)]) := by
  obtain ⟨t, a, b, xs, ys, rfl, h1, h2, h3, h4, h5⟩ := h.ex
  exact .tup h1 (.cons (.tup h2 h3) (.cons (.tup h4 h5) .nil))
theorem Prg.of {K : PySem.W.Frag} {H : Hp} {v : V} {ps : List DtT} {fs : List DfT} (h : Da K All H v (.tuple [.tuple (ps.map dtD), .tuple (fs.map dfD)])) : Prg K H v ps fs := by
  obtain ⟨t, x, y, rfl, h1, h2, h3⟩ := Da.tup2 h
  obtain ⟨a, xs, rfl, h4, h5⟩ := h2.tupInv
  obtain ⟨b, ys, rfl, h6, h7⟩ := h3.tupInv
  exact ⟨t, a, b, xs, ys, rfl, h1, h4, h5, h6, h7⟩
theorem Prg.same {K : PySem.W.Frag} {H H' : Hp} {v : V} {ps : List DtT} {fs : List DfT} (h : Prg K H v ps fs) (s : Same H H') : Prg K H' v ps fs := .of (h.da.same s)
theorem Prg.kp {K : PySem.W.Frag} {H H' : Hp} {v : V} {ps : List DtT} {fs : List DfT} {p : Addr} (h : Prg K H v ps fs) (k : Kp p H H') (n : NoTup H p) : Prg K H' v ps fs := .of (h.da.kp k n trivial)
theorem prg_fit {ps : List DtT} {fs : List DfT} {b : Nat} (h : PsS ps) (g : FsS b fs) (hb : b ≤ 40) : Fit 1840000 63 (.tuple [.tuple (ps.map dtD), .tuple (fs.map dfD)]) :=
  (Fit.tup (.cons (h.fit.le (Nat.le_refl _) (by omega)) (.cons (g.fit hb) (FitAll.nil (n := 0))))).le (by omega) (by omega)
/-! ### what the law's drawing promises -/
def spProg (K : PySem.W.Frag) : Sp := fun vs H Q _ => ∃ (p c : Addr) (a b f n : Int), vs = [.ref p, .int a, .int b, .int f, .int n] ∧ 1 ≤ a ∧ a ≤ 7 ∧ 1 ≤ b ∧ b ≤ 7 ∧ 0 ≤ f ∧ f ≤ 5 ∧ 0 ≤ n ∧ n ≤ 17 ∧ Pen H p c ∧
  ∀ (v : V) (ps : List DtT) (fs : List DfT) (H' : Hp), Prg K H' v ps fs → PsS ps → FsS n.toNat fs → fs.length = n.toNat → Pen H' p c → Kp p H H' → Q v H'
def spBeyond (K : PySem.W.Frag) : Sp := fun vs H Q _ => ∃ (p c : Addr), vs = [.ref p] ∧ Pen H p c ∧ ∀ (v : V) (d : PyData) (H' : Hp), Da K All H' v d → Fit 42740 60 d → Pen H' p c → Kp p H H' → Q v H'
def spChanged (K : PySem.W.Frag) : Sp := fun vs H Q _ => ∃ (p c : Addr) (v : V) (ps : List DtT) (fs : List DfT) (b : Nat), vs = [.ref p, v] ∧ Pen H p c ∧ Prg K H v ps fs ∧ PsS ps ∧ FsS b fs ∧ b ≤ 40 ∧
  ∀ (v' : V) (ps' : List DtT) (fs' : List DfT) (H' : Hp), Prg K H' v' ps' fs' → PsS ps' → FsS b fs' → Pen H' p c → Kp p H H' → Q v' H'
end Ow
namespace Ow
open PySem PySem.Spec PyProof.Rows L2
/-! ### the law's own look at a program -/
def lMk : PyData → Bool
  | .tuple [c, f] => isNameD c && isRowD f 0 4
  | _ => false
def lDt : PyData → Bool
  | .tuple [s, ms] => isNameD s && (isRowD ms 1 6 && (itD ms).all lMk)
  | _ => false
theorem lMk_no {d : PyData} (h : isRowD d 2 2 = false) : lMk d = false := by
  unfold lMk
  split
  · simp [isRowD] at h
  · rfl
theorem lDt_no {d : PyData} (h : isRowD d 2 2 = false) : lDt d = false := by
  unfold lDt
  split
  · simp [isRowD] at h
  · rfl
theorem iteND {c A B : Prop} [Decidable c] (hc : c) (h : B) : if (!decide c) = true then A else B := by
  rw [decide_eq_true hc]
  exact h
theorem row_two {ds : List PyData} (h : ¬ ds.length = 2) : isRowD (.tuple ds) 2 2 = false := by
  rw [row_is]
  exact decide_eq_false fun z => h (by omega)
theorem row_three {ds : List PyData} (h : ¬ ds.length = 3) : isRowD (.tuple ds) 3 3 = false := by
  rw [row_is]
  exact decide_eq_false fun z => h (by omega)
theorem int_ne {a b : Nat} (h : ¬ a = b) : ¬ V.int (a : Int) = V.int (b : Int) := fun z => by
  injection z with z
  exact h (Int.ofNat.inj z)
/-- what the law's look lets by: names, makers with fields of any kind -/
abbrev LmT := Str × List PyData
abbrev LdT := Str × List LmT
def lmD (m : LmT) : PyData := .tuple [.str m.1, .tuple m.2]
def ldD (p : LdT) : PyData := .tuple [.str p.1, .tuple (p.2.map lmD)]
structure LmOk (m : LmT) : Prop where
  nm : isNameD (.str m.1) = true
  len : m.2.length ≤ 4
structure LdOk (p : LdT) : Prop where
  nm : isNameD (.str p.1) = true
  one : 1 ≤ p.2.length
  len : p.2.length ≤ 6
  all : ∀ m ∈ p.2, LmOk m
theorem all_of {α : Type} {f : α → PyData} {P : PyData → Bool} {R : α → Prop} (h : ∀ d, P d = true → ∃ x, d = f x ∧ R x) : ∀ {ds : List PyData}, ds.all P = true → ∃ xs : List α, ds = xs.map f ∧ ∀ x ∈ xs, R x
  | [], _ => ⟨[], rfl, fun _ z => nomatch z⟩
  | d :: ds, g => by
    rw [List.all_cons, Bool.and_eq_true] at g
    obtain ⟨x, rfl, hx⟩ := h d g.1
    obtain ⟨xs, rfl, hxs⟩ := all_of h g.2
    refine ⟨x :: xs, rfl, fun y hy => ?_⟩
    rcases List.mem_cons.mp hy with rfl | hy
    · exact hx
    · exact hxs y hy
theorem lm_of (d : PyData) (h : lMk d = true) : ∃ m : LmT, d = lmD m ∧ LmOk m := by
  unfold lMk at h
  split at h
  · rename_i a b
    simp only [Bool.and_eq_true] at h
    obtain ⟨x, rfl⟩ := name_str h.1
    obtain ⟨ns, rfl, _, h4⟩ := row_tup h.2
    exact ⟨(x, ns), rfl, h.1, (by omega : ns.length ≤ 4)⟩
  · cases h
theorem ld_of (d : PyData) (h : lDt d = true) : ∃ p : LdT, d = ldD p ∧ LdOk p := by
  unfold lDt at h
  split at h
  · rename_i a b
    simp only [Bool.and_eq_true] at h
    obtain ⟨h1, h2, h3⟩ := h
    obtain ⟨x, rfl⟩ := name_str h1
    obtain ⟨ns, rfl, h5, h6⟩ := row_tup h2
    obtain ⟨ms, rfl, hm⟩ := all_of lm_of (ds := ns) h3
    rw [List.length_map] at h5 h6
    exact ⟨(x, ms), rfl, h1, (by omega : 1 ≤ ms.length), (by omega : ms.length ≤ 6), hm⟩
  · cases h
def lmsOf (ps : List LdT) : List LmT := ps.flatMap (·.2)
def lfsOf (ps : List LdT) : List PyData := (lmsOf ps).flatMap (·.2)
theorem lms_len {ps : List LdT} (h : ∀ p ∈ ps, LdOk p) : (lmsOf ps).length ≤ ps.length * 6 := flat_len fun p hp => (h p hp).len
theorem lms_ok {ps : List LdT} (h : ∀ p ∈ ps, LdOk p) : ∀ m ∈ lmsOf ps, LmOk m := fun m hm => by
  obtain ⟨p, hp, hm⟩ := List.mem_flatMap.mp hm
  exact (h p hp).all m hm
theorem lfs_len {ps : List LdT} (h : ∀ p ∈ ps, LdOk p) : (lfsOf ps).length ≤ ps.length * 6 * 4 :=
  Nat.le_trans (flat_len fun m hm => (lms_ok h m hm).len) (Nat.mul_le_mul_right _ (lms_len h))
theorem fst_ld (ps : List LdT) : (ps.map ldD).map fstN = ps.map (·.1) := by
  rw [List.map_map]
  rfl
theorem snd_ld (ps : List LdT) : (ps.map ldD).flatMap sndL = (lmsOf ps).map lmD := by
  unfold lmsOf
  rw [List.flatMap_map, List.map_flatMap]
  rfl
theorem snd_lm (ms : List LmT) : (ms.map lmD).flatMap sndL = ms.flatMap (·.2) := by
  rw [List.flatMap_map]
  rfl
theorem fst_lm (ms : List LmT) : (ms.map lmD).map fstN = ms.map (·.1) := by
  rw [List.map_map]
  rfl
theorem memD_name {f : PyData} {zs : List Str} (hz : ∀ z ∈ zs, isNameD (.str z) = true) (h : memD f zs = true) : isNameD f = true := by
  cases f with
  | str x => exact hz x (of_decide_eq_true h)
  | _ => cases h
/-- of such data kinds the program's look asks no more than names that are unlike and fields of them -/
theorem datas_ld {ps : List LdT} (h : ∀ p ∈ ps, LdOk p) (h1 : 1 ≤ ps.length) (h6 : ps.length ≤ 6) :
    datasOk (.tuple (ps.map ldD)) = (unlikeN (ps.map (·.1)) && (unlikeN ((lmsOf ps).map (·.1)) && (lfsOf ps).all fun f => memD f (ps.map (·.1)))) := by
  have e : datasOk (.tuple (ps.map ldD)) = (isRowD (.tuple (ps.map ldD)) 1 6 && ((ps.map ldD).all dataOk && (unlikeN (ps.map (·.1)) && (unlikeN ((lmsOf ps).map (·.1)) && (lfsOf ps).all fun f => memD f (ps.map (·.1)))))) := by
    show (isRowD (.tuple (ps.map ldD)) 1 6 && ((ps.map ldD).all dataOk && (unlikeN ((ps.map ldD).map fstN) && (unlikeN (((ps.map ldD).flatMap sndL).map fstN) && (((ps.map ldD).flatMap sndL).flatMap sndL).all fun f => memD f ((ps.map ldD).map fstN))))) = _
    rw [fst_ld, snd_ld, fst_lm, snd_lm]
    rfl
  rw [e, row_ok (by rw [List.length_map]; omega) (by rw [List.length_map]; omega), Bool.true_and]
  cases hf : (lfsOf ps).all fun f => memD f (ps.map (·.1)) with
  | false => simp
  | true =>
    have : (ps.map ldD).all dataOk = true := by
      rw [List.all_eq_true]
      intro d hd
      obtain ⟨p, hp, rfl⟩ := List.mem_map.mp hd
      have hpo := h p hp
      show (isNameD (.str p.1) && (isRowD (.tuple (p.2.map lmD)) 1 6 && (p.2.map lmD).all makerOk)) = true
      have o1 := hpo.one
      have o2 := hpo.len
      rw [hpo.nm, row_ok (by rw [List.length_map]; omega) (by rw [List.length_map]; omega), Bool.true_and, Bool.true_and, List.all_eq_true]
      intro e he
      obtain ⟨m, hm, rfl⟩ := List.mem_map.mp he
      have hmo := hpo.all m hm
      have o3 := hmo.len
      show (isNameD (.str m.1) && (isRowD (.tuple m.2) 0 4 && m.2.all isNameD)) = true
      rw [hmo.nm, row_ok (by omega) (by omega), Bool.true_and, Bool.true_and, List.all_eq_true]
      intro f hf2
      rw [List.all_eq_true] at hf
      refine memD_name (zs := ps.map (·.1)) (fun z hz => ?_) (hf f (List.mem_flatMap.mpr ⟨m, List.mem_flatMap.mpr ⟨p, hp, hm⟩, hf2⟩))
      obtain ⟨q, hq, rfl⟩ := List.mem_map.mp hz
      exact (h q hq).nm
    rw [this, Bool.true_and]
/-- data kinds that the law's look doesn't let by aren't the program's -/
theorem dt_ld {d : PyData} (h : dataOk d = true) : lDt d = true := by
  obtain ⟨p, rfl, hp⟩ := data_of h
  have o1 := hp.one
  have o2 := hp.len
  show (isNameD (.str p.1) && (isRowD (.tuple (p.2.map mkD)) 1 6 && (p.2.map mkD).all lMk)) = true
  rw [hp.nm, row_ok (by rw [List.length_map]; omega) (by rw [List.length_map]; omega), Bool.true_and, Bool.true_and, List.all_eq_true]
  intro e he
  obtain ⟨m, hm, rfl⟩ := List.mem_map.mp he
  have hmo := hp.all m hm
  have o3 := hmo.len
  show (isNameD (.str m.1) && isRowD (.tuple (m.2.map strD)) 0 4) = true
  rw [hmo.nm, row_ok (by omega) (by rw [List.length_map]; omega)]
  rfl
theorem datas_no {ds : List PyData} (h : ds.all lDt = false) : datasOk (.tuple ds) = false := by
  cases e : ds.all dataOk with
  | false =>
    show (isRowD (.tuple ds) 1 6 && (ds.all dataOk && _)) = false
    rw [e, Bool.false_and, Bool.and_false]
  | true =>
    rw [List.all_eq_true] at e
    have : ds.all lDt = true := List.all_eq_true.mpr fun d hd => dt_ld (e d hd)
    rw [this] at h
    cases h
theorem datas_row {d : PyData} (h : isRowD d 1 6 = false) : datasOk d = false := by
  unfold datasOk
  rw [h]
  rfl
theorem unl_lt (xs : List Str) : decide (((dd [] xs).length : Int) < (xs.length : Int)) = !unlikeN xs := by
  have h := dd_len xs []
  have e : ([] : List Str).length = 0 := rfl
  unfold unlikeN
  by_cases c : (dd [] xs).length = xs.length
  · rw [decide_eq_true c, decide_eq_false (by omega)]
    rfl
  · rw [decide_eq_false c, decide_eq_true (by omega)]
    rfl
end Ow
namespace Ow
open PySem PySem.Spec PyProof.Rows L2
/-! ### one of a row is exchanged -/
def setAt {α : Type} (l : List α) (j : Nat) (x : α) : List α := (l.take j ++ [x]) ++ l.drop (j + 1)
theorem setAt_len {α : Type} {l : List α} {j : Nat} {x : α} (h : j < l.length) : (setAt l j x).length = l.length := by
  unfold setAt
  rw [List.length_append, List.length_append, List.length_take, List.length_drop]
  have : [x].length = 1 := rfl
  omega
theorem setAt_mem {α : Type} {l : List α} {j : Nat} {x y : α} (h : y ∈ setAt l j x) : y = x ∨ y ∈ l := by
  unfold setAt at h
  rcases List.mem_append.mp h with h | h
  · rcases List.mem_append.mp h with h | h
    · exact .inr (List.mem_of_mem_take h)
    · exact .inl (List.mem_singleton.mp h)
  · exact .inr (List.mem_of_mem_drop h)
theorem setAt_map {α β : Type} {f : α → β} {l : List α} {j : Nat} {x : α} : (setAt l j x).map f = setAt (l.map f) j (f x) := by
  unfold setAt
  rw [List.map_append, List.map_append, List.map_take, List.map_drop]
  rfl
theorem da_setAt {K : PySem.W.Frag} {N : Addr → Prop} {H : Hp} {xs : List V} {ds : List PyData} {v : V} {d : PyData} (h : DaAll K N H xs ds) (g : Da K N H v d) (j : Nat) : DaAll K N H ((xs.take j ++ [v]) ++ xs.drop (j + 1)) (setAt ds j d) :=
  ((h.take j).append (.cons g .nil)).append (h.drop (j + 1))
theorem da_all_at {α : Type} {K : PySem.W.Frag} {N : Addr → Prop} {H : Hp} {f : α → PyData} {xs : List V} {ps : List α} (h : DaAll K N H xs (ps.map f)) {i : Nat} (hi : i < ps.length) : ∃ v, xs[i]? = some v ∧ Da K N H v (f ps[i]) := by
  have hl := h.length
  rw [List.length_map] at hl
  have hx : i < xs.length := by omega
  obtain ⟨d, e1, e2⟩ := h.get (List.getElem?_eq_getElem hx)
  rw [List.getElem?_map, List.getElem?_eq_getElem hi] at e1
  cases e1
  exact ⟨_, List.getElem?_eq_getElem hx, e2⟩
end Ow
namespace Ow
open PySem PySem.Spec PyProof.Rows L2
/-- a tuple, some times -/
def rRepA (K : PySem.W.Frag) : R2 := fun x y H Q => ∃ l k xs, x = .ref l ∧ y = .int k ∧ SqT K H l xs ∧ 2 ≤ k ∧ k ≤ 1000 ∧ xs.length ≤ 1000 ∧ ∀ t H', Same H H' → SqT K H' t (List.replicate k.toNat xs).flatten → Q (.ref t) H'
theorem op_repA {X : Cx} : OpR X (binaryOp .Mult) (rRepA X.K) := by
  intro pins s σ H x y v u Q I rx ry h
  obtain ⟨l, k, xs, rfl, rfl, hT, h2, h3, hl, q⟩ := h
  by_cases e : xs = []
  · subst e
    refine op_repU pins s σ H _ _ v u Q I rx ry ⟨l, k, rfl, rfl, hT, by omega, h3, q l H (Same.refl H) ?_⟩
    rw [show (List.replicate k.toNat ([] : List V)).flatten = [] by simp]
    exact hT
  · exact op_repT pins s σ H _ _ v u Q I rx ry ⟨l, k, xs, rfl, rfl, hT, e, h2, h3, hl, fun p hp => q p _ (same_new hp) (SqT.of upd_same)⟩
theorem prog_none : progOk (.tuple [.tuple [], .tuple []]) = false := by
  show (datasOk (.tuple []) && defsOk (.tuple [])) = false
  rw [datas_row (by decide)]
  rfl
end Ow

namespace Ow
open PySem PySem.Spec PyProof.Rows L2
/-! ### methods of own instances, called by name; a raise that no road comes to -/
structure MethOk (P : Program) (w : World) (K : PySem.W.Frag) (mg : Str → Option Value) (base : Heap) (k : Nat) (C : Addr) (m : Str) (ps : List Str) (sp : Sp) : Prop where
  ex : ∃ (f : Addr) (fd : FuncData), L2.Meth K C m f ∧ FnOk P w K mg base CX0 k f fd ps sp ∧ L2.Binds K fd ps []
structure MethAt (K : PySem.W.Frag) (C : Addr) (m qual : Str) (st : Stmt) (ps : List Str) : Prop where
  ex : ∃ (f : Addr) (fd : FuncData), L2.Meth K C m f ∧ Fun K m qual st f fd ∧ L2.Binds K fd ps []
section
variable {X : Cx} {k j : Nat} {m : Str} {C : Addr} {ps : List Str} {sp : Sp} {pos apos : Pos} {e o : Expr} {es : List Expr} {t : TA} {to : TE} {pl : Sem Bool}
theorem pe_methOk (M : MethOk X.prog X.w X.K X.mg X.base k C m ps sp) (c : L2.Cls X.K C) (hr : Room j X.A) (hj : k ≤ j) (ho : PE X o to) (ha : PA X (e :: es) t)
    (he : starEach (e :: es) X.env = (false, eval e X.env) :: starEach es X.env := by rfl) (hpl : (backTo pos (starEach es X.env)).any (·.1) = false := by rfl)
    (ht : eval (.Call (.Attribute o m apos) (e :: es) [] pos) X.env = (do
      let ov ← eval o X.env
      standAt apos.atName
      let (f, first) ← holding [ov] (getMethod ov m pl)
      callWith pos f first (backTo pos (starEach (e :: es) X.env)) (backToKw pos (keywordEach [] X.env))) := by rfl) :
    PE X (.Call (.Attribute o m apos) (e :: es) [] pos) (tMeth C m sp [] E0 to t) := by
  obtain ⟨f, fd, hm, F, hb⟩ := M.ex
  exact pe_meth (pl := pl) ho c hm F (hr.mono hj) hb .nil pass0 ha he hpl ht
theorem pe_methOk0 (M : MethOk X.prog X.w X.K X.mg X.base k C m ps sp) (c : L2.Cls X.K C) (hr : Room j X.A) (hj : k ≤ j) (ho : PE X o to)
    (ht : eval (.Call (.Attribute o m apos) [] [] pos) X.env = (do
      let ov ← eval o X.env
      standAt apos.atName
      let (f, first) ← holding [ov] (getMethod ov m pl)
      callWith pos f first (backTo pos (starEach [] X.env)) (backToKw pos (keywordEach [] X.env))) := by rfl) :
    PE X (.Call (.Attribute o m apos) [] [] pos) (tMeth C m sp [] E0 to tNil) := by
  obtain ⟨f, fd, hm, F, hb⟩ := M.ex
  exact pe_meth0 (pl := pl) ho c hm F (hr.mono hj) hb .nil pass0 ht
theorem ps_never {st : Stmt} : PS X st (fun _ _ _ => False) := ⟨fun _ _ _ _ _ _ h => h.elim⟩
end
section
variable {P : Program} {w : World} {K : PySem.W.Frag} {mg : Str → Option Value} {base : Heap} {m qual : Str} {C : Addr} {st : Stmt} {N ps : List Str} {k j : Nat} {sp : Sp}
theorem MethAt.ok (D : MethAt K C m qual st ps) (S : FnScope N ps (defScope st)) (len : ∀ vs H Q E, sp vs H Q E → vs.length = ps.length)
    (hbody : ∀ (f : Addr) (cdv : Value) (A : Around) (outer : List Env) (s : Shared) (H : Hp) (vs : List V) (Q : VK) (E : XK), Room k (A.deeper (envOfC qual (defScope st) s.heap.objs.size f cdv)) → sp vs H Q E →
      ∃ t, PSs (cxOf CX0 P w K mg base N qual (defScope st) f cdv A outer s H E).nox (defBody st) t ∧ t { nx := fun _ H' => Q .non H', rt := Q } (start N vs) H) : MethOk P w K mg base (k + 1) C m ps sp := by
  obtain ⟨f, fd, hm, F, hb⟩ := D.ex
  exact ⟨f, fd, hm, F.ok S len fun cdv A outer s H vs Q E hr h => hbody f cdv A outer s H vs Q E hr h, hb⟩
end
theorem at_natI {α : Type} {l : List α} {i : Nat} {x : α} (h : l[i]? = some x) : atI l (i : Int) = some x := by
  have hi : i < l.length := (List.getElem?_eq_some_iff.mp h).1
  unfold atI ixN
  rw [if_pos (by omega), if_pos (by omega)]
  exact h
theorem iteFx {c : Bool} {A B : Prop} (hc : c = false) (h : B) : if c = true then A else B := by
  rw [hc, if_neg Bool.false_ne_true]
  exact h
theorem iteTx {c : Bool} {A B : Prop} (hc : c = true) (h : A) : if c = true then A else B := by
  rw [if_pos hc]
  exact h
/-! ### a reader of a text: at its place -/
def rdF (x : Str) (n : Nat) : List (Str × V) := [("text", .str x), ("at", .int n)]
def RdAt (C : Addr) (H : Hp) (r : Addr) (x : Str) (n : Nat) : Prop := ∃ dx, H r = some (.ins C dx (rdF x n))
structure RdC (K : PySem.W.Frag) (C : Addr) : Prop where
  cl : L2.Cls K C
  nT : NoAttr K C "text"
  nA : NoAttr K C "at"
theorem lk_here {k : Str} {v : V} {r : List (Str × V)} : List.lookup k ((k, v) :: r) = some v := by
  have e : (k == k) = true := beq_self_eq_true k
  simp only [List.lookup, e]
theorem lk_past {k g : Str} {v : V} {r : List (Str × V)} (h : (k == g) = false) : List.lookup k ((g, v) :: r) = List.lookup k r := by
  simp only [List.lookup, h]
theorem rd_text (x : Str) (n : Nat) : (rdF x n).lookup ("text" : Str) = some (.str x) := lk_here
theorem rd_at (x : Str) (n : Nat) : (rdF x n).lookup ("at" : Str) = some (.int n) := (lk_past (by decide +kernel)).trans lk_here
theorem rd_no {m : Str} (h1 : (m == ("text" : Str)) = false) (h2 : (m == ("at" : Str)) = false) (x : Str) (n : Nat) : (rdF x n).lookup m = none := (lk_past h1).trans ((lk_past h2).trans rfl)
theorem rd_put (x : Str) (n m : Nat) : putF "at" (.int m) (rdF x n) = rdF x m := by
  show putF "at" (.int m) (("text", .str x) :: [("at", .int n)]) = _
  rw [putF, if_neg (by decide +kernel), putF, if_pos rfl]
  rfl
theorem RdAt.same {C : Addr} {H H' : Hp} (s : Same H H') {r : Addr} {x : Str} {n : Nat} (h : RdAt C H r x n) : RdAt C H' r x n := by
  obtain ⟨dx, h⟩ := h
  exact ⟨dx, s _ _ h⟩
abbrev blanks : Str := " \n"
def bl (c : Nat) : Bool := decide (c ∈ blanks.cps.toList)
def skipN (cs : List Nat) (n : Nat) : Nat := n + ((cs.drop n).takeWhile bl).length
theorem skip_le {cs : List Nat} {n : Nat} (h : n ≤ cs.length) : skipN cs n ≤ cs.length := by
  have e := (List.takeWhile_sublist (p := bl) (l := cs.drop n)).length_le
  rw [List.length_drop] at e
  unfold skipN
  omega
theorem skip_step {cs : List Nat} {n c : Nat} (h : cs[n]? = some c) (b : bl c = true) : skipN cs (n + 1) = skipN cs n := by
  obtain ⟨hl, rfl⟩ := List.getElem?_eq_some_iff.mp h
  unfold skipN
  rw [List.drop_eq_getElem_cons hl, List.takeWhile_cons_of_pos b, List.length_cons]
  omega
theorem skip_stop {cs : List Nat} {n c : Nat} (h : cs[n]? = some c) (b : bl c = false) : skipN cs n = n := by
  obtain ⟨hl, rfl⟩ := List.getElem?_eq_some_iff.mp h
  unfold skipN
  rw [List.drop_eq_getElem_cons hl, List.takeWhile_cons_of_neg (by simpa using b)]
  rfl
theorem skip_end {cs : List Nat} {n : Nat} (h : cs.length ≤ n) : skipN cs n = n := by
  unfold skipN
  rw [List.drop_eq_nil_of_le h]
  rfl
def spReaderInit (C : Addr) : Sp := fun vs H Q _ => ∃ (p dx : Addr) (x : Str), vs = [.ref p, .str x] ∧ H p = some (.ins C dx []) ∧ ∀ H' : Hp, RdAt C H' p x 0 → Kp p H H' → Q .non H'
def spPeek (C : Addr) : Sp := fun vs H Q _ => ∃ (r : Addr) (x : Str) (n : Nat), vs = [.ref r] ∧ RdAt C H r x n ∧ n ≤ x.length ∧ x.length ≤ 1000000 ∧
  ∀ H' : Hp, RdAt C H' r x (skipN x.cps.toList n) → Kp r H H' → Q (.str (cutS x (some (skipN x.cps.toList n)) (some (skipN x.cps.toList n + 1)))) H'
end Ow
namespace Ow
open PySem PySem.Spec PyProof.Rows L2
theorem cutS_nat (x : Str) (i j : Nat) (hi : i ≤ x.length) : cutS x (some (i : Int)) (some (j : Int)) = ⟨((x.cps.toList.drop i).take (min j x.length - i)).toArray⟩ := by
  unfold cutS
  rw [HT.sIx_nat, HT.sIx_nat, Nat.min_eq_left hi]
theorem cut_sign {x : Str} {i c : Nat} (h : x.cps.toList[i]? = some c) : cutS x (some (i : Int)) (some ((i : Int) + 1)) = ⟨#[c]⟩ := by
  have hl : i < x.length := (List.getElem?_eq_some_iff.mp h).1
  have e : cutS x (some (i : Int)) (some ((i : Int) + 1)) = cutS x (some (i : Int)) (some ((i + 1 : Nat) : Int)) := rfl
  rw [e, cutS_nat x i (i + 1) (by omega), Nat.min_eq_left (by omega), Nat.add_sub_cancel_left]
  obtain ⟨hl2, rfl⟩ := List.getElem?_eq_some_iff.mp h
  rw [List.drop_eq_getElem_cons hl2, List.take_succ_cons, List.take_zero]
theorem cut_over (x : Str) : cutS x (some (x.length : Int)) (some ((x.length : Int) + 1)) = "" := by
  have e : cutS x (some (x.length : Int)) (some ((x.length : Int) + 1)) = cutS x (some (x.length : Int)) (some ((x.length + 1 : Nat) : Int)) := rfl
  rw [e, cutS_nat x _ _ (Nat.le_refl _), List.drop_eq_nil_of_le (show x.cps.toList.length ≤ x.length from Nat.le_refl _), List.take_nil]
  rfl
def ltr (c : Nat) : Bool := decide (c ∈ abc.cps.toList)
/-- the name that begins here -/
def nameN (cs : List Nat) (m : Nat) : List Nat := (cs.drop m).takeWhile ltr
theorem name_step {cs : List Nat} {m j c : Nat} (h : cs[m + j]? = some c) (b : ltr c = true) (hj : j ≤ (nameN cs m).length) : j < (nameN cs m).length := by
  rcases Nat.lt_or_ge j (nameN cs m).length with l | l
  · exact l
  · exfalso
    have e : j = (nameN cs m).length := by omega
    subst e
    have hd : (cs.drop m)[(nameN cs m).length]? = some c := by rw [List.getElem?_drop]; exact h
    have split := List.takeWhile_append_dropWhile (p := ltr) (l := cs.drop m)
    have hq : ((cs.drop m).dropWhile ltr)[0]? = some c := by
      have z : ((cs.drop m).takeWhile ltr ++ (cs.drop m).dropWhile ltr)[(nameN cs m).length]? = some c := by rw [split]; exact hd
      rw [List.getElem?_append_right (by unfold nameN; omega)] at z
      simpa [nameN] using z
    cases hw : (cs.drop m).dropWhile ltr with
    | nil =>
      rw [hw] at hq
      cases hq
    | cons a t =>
      rw [hw] at hq
      cases hq
      have hne : (cs.drop m).dropWhile ltr ≠ [] := by rw [hw]; simp
      have z := List.head_dropWhile_not ltr hne
      have hh : ((cs.drop m).dropWhile ltr).head hne = c := by simp [hw]
      rw [hh] at z
      rw [b] at z
      cases z
theorem name_at {cs : List Nat} {m j : Nat} (hj : j < (nameN cs m).length) : ∃ c, cs[m + j]? = some c ∧ ltr c = true := by
  refine ⟨(nameN cs m)[j], ?_, ?_⟩
  · have pre := List.takeWhile_prefix (p := ltr) (l := cs.drop m)
    have z : (cs.drop m)[j]? = some (nameN cs m)[j] := by
      obtain ⟨t, ht⟩ := pre
      rw [← ht]
      show (nameN cs m ++ t)[j]? = _
      rw [List.getElem?_append_left hj]
      exact List.getElem?_eq_getElem _
    rw [List.getElem?_drop] at z
    exact z
  · exact List.all_eq_true.mp (List.all_takeWhile (p := ltr) (l := cs.drop m)) _ (List.getElem_mem hj)
theorem name_len {cs : List Nat} {m : Nat} (h : m ≤ cs.length) : m + (nameN cs m).length ≤ cs.length := by
  have e := (List.takeWhile_sublist (p := ltr) (l := cs.drop m)).length_le
  rw [List.length_drop] at e
  unfold nameN
  omega
theorem cut_name {x : Str} {m : Nat} (h : m ≤ x.length) : cutS x (some (m : Int)) (some ((m + (nameN x.cps.toList m).length : Nat) : Int)) = ⟨(nameN x.cps.toList m).toArray⟩ := by
  have hl : m + (nameN x.cps.toList m).length ≤ x.length := name_len h
  rw [cutS_nat x _ _ h, Nat.min_eq_left hl, Nat.add_sub_cancel_left]
  congr 1
  congr 1
  obtain ⟨t, ht⟩ := List.takeWhile_prefix (p := ltr) (l := x.cps.toList.drop m)
  show (x.cps.toList.drop m).take ((x.cps.toList.drop m).takeWhile ltr).length = (x.cps.toList.drop m).takeWhile ltr
  conv => lhs; arg 2; rw [← ht]
  rw [List.take_left']
  rfl
def spTake (C : Addr) : Sp := fun vs H Q _ => ∃ (r : Addr) (x z : Str) (n c : Nat), vs = [.ref r, .str z] ∧ RdAt C H r x n ∧ n ≤ x.length ∧ x.length ≤ 1000000 ∧ x.cps.toList[skipN x.cps.toList n]? = some c ∧ c ∈ z.cps.toList ∧
  ∀ H' : Hp, RdAt C H' r x (skipN x.cps.toList n + 1) → Kp r H H' → Q (.str ⟨#[c]⟩) H'
def spTakeName (C : Addr) : Sp := fun vs H Q _ => ∃ (r : Addr) (x : Str) (n : Nat), vs = [.ref r] ∧ RdAt C H r x n ∧ n ≤ x.length ∧ x.length ≤ 1000000 ∧ 1 ≤ (nameN x.cps.toList (skipN x.cps.toList n)).length ∧ (nameN x.cps.toList (skipN x.cps.toList n)).length ≤ 8 ∧
  ∀ H' : Hp, RdAt C H' r x (skipN x.cps.toList n + (nameN x.cps.toList (skipN x.cps.toList n)).length) → Kp r H H' → Q (.str ⟨(nameN x.cps.toList (skipN x.cps.toList n)).toArray⟩) H'
def spFinish (C : Addr) : Sp := fun vs H Q _ => ∃ (r : Addr) (x : Str) (n : Nat), vs = [.ref r] ∧ RdAt C H r x n ∧ n ≤ x.length ∧ x.length ≤ 1000000 ∧ skipN x.cps.toList n = x.length ∧
  ∀ H' : Hp, RdAt C H' r x x.length → Kp r H H' → Q .non H'
end Ow
namespace Ow
open PySem PySem.Spec PyProof.Rows L2
theorem sign_ne_empty (c : Nat) : decide (V.str ⟨#[c]⟩ = V.str "") = false := decide_eq_false fun e => by
  injection e with e
  have := congrArg (fun z : Str => z.cps.size) e
  exact absurd this (show ¬ (1 = 0) by decide)
end Ow

namespace Ow
open PySem PySem.Spec PyProof.Rows L2
/-! ### kinds as they are written -/
def headNo (t : List Nat) : Prop := ∀ c t', t = c :: t' → ltr c = false
inductive Wr : List Nat → PyData → List Nat → Prop where
  | name {b w t : List Nat} (hb : ∀ c ∈ b, bl c = true) (hw : ∀ c ∈ w, ltr c = true) (h1 : 1 ≤ w.length) (h8 : w.length ≤ 8) (ht : headNo t) : Wr (b ++ (w ++ t)) (.str ⟨w.toArray⟩) t
  | row {b1 b2 b3 ra rb t : List Nat} {s : Nat} {da db : PyData} (h1 : ∀ c ∈ b1, bl c = true) (h2 : ∀ c ∈ b2, bl c = true) (h3 : ∀ c ∈ b3, bl c = true) (hs : s = 62 ∨ s = 42)
    (ha : Wr ra da rb) (hb : Wr rb db (b3 ++ 41 :: t)) : Wr (b1 ++ 40 :: (b2 ++ s :: ra)) (.tuple [.str ⟨#[s]⟩, da, db]) t
theorem ltr_bl {c : Nat} (h : ltr c = true) : bl c = false := by
  have m := of_decide_eq_true h
  have e : ∀ c ∈ abc.cps.toList, bl c = false := by decide +kernel
  exact e c m
/-- blanks, then none -/
theorem skip_at {cs b r : List Nat} {n c : Nat} (e : cs.drop n = b ++ c :: r) (hb : ∀ c ∈ b, bl c = true) (hc : bl c = false) : skipN cs n = n + b.length ∧ cs[n + b.length]? = some c ∧ cs.drop (n + b.length + 1) = r := by
  refine ⟨?_, ?_, ?_⟩
  · unfold skipN
    rw [e, List.takeWhile_append_of_pos hb, List.takeWhile_cons_of_neg (by simp [hc]), List.append_nil]
  · rw [← List.getElem?_drop, e, List.getElem?_append_right (Nat.le_refl _), Nat.sub_self]
    rfl
  · rw [Nat.add_assoc, ← List.drop_drop, e, ← List.drop_drop, List.drop_left']
    · rfl
    · rfl
theorem skip_all {cs b : List Nat} {n : Nat} (e : cs.drop n = b) (hn : n ≤ cs.length) (hb : ∀ c ∈ b, bl c = true) : skipN cs n = cs.length := by
  have l := congrArg List.length e
  rw [List.length_drop] at l
  have t : b.takeWhile bl = b := by
    have z := List.takeWhile_append_of_pos (l₂ := []) hb
    simpa using z
  unfold skipN
  rw [e, t]
  omega
theorem name_is {cs w t : List Nat} {m : Nat} (e : cs.drop m = w ++ t) (hw : ∀ c ∈ w, ltr c = true) (ht : headNo t) : nameN cs m = w ∧ cs.drop (m + w.length) = t := by
  refine ⟨?_, ?_⟩
  · unfold nameN
    rw [e, List.takeWhile_append_of_pos hw]
    cases t with
    | nil => simp
    | cons c t => rw [List.takeWhile_cons_of_neg (by simp [ht c t rfl]), List.append_nil]
  · rw [← List.drop_drop, e, List.drop_left']
    rfl
theorem drop_lt {cs r : List Nat} {n c : Nat} (e : cs.drop n = c :: r) : n < cs.length := by
  rcases Nat.lt_or_ge n cs.length with h | h
  · exact h
  · rw [List.drop_eq_nil_of_le h] at e
    cases e
theorem RdAt.noTup {C : Addr} {H : Hp} {r : Addr} {x : Str} {n : Nat} (h : RdAt C H r x n) : NoTup H r := fun xs q => by
  obtain ⟨dx, h1⟩ := h
  rcases q with q | ⟨o, q⟩
  · rw [h1] at q
    cases q
  · rw [h1] at q
    cases q
def spSigns (K : PySem.W.Frag) (C : Addr) (j : Nat) : Sp := fun vs H Q _ => ∃ (r : Addr) (x : Str) (n : Nat) (d : PyData) (t : List Nat), vs = [.ref r] ∧ RdAt C H r x n ∧ n ≤ x.length ∧ x.length ≤ 1000000 ∧ Wr (x.cps.toList.drop n) d t ∧ kindW j d = true ∧
  ∀ (v : V) (e : Nat) (H' : Hp), Da K All H' v d → RdAt C H' r x e → e ≤ x.length → x.cps.toList.drop e = t → Kp r H H' → Q v H'
theorem wr_tup {r t : List Nat} {d : PyData} (h : Wr r d t) {ds : List PyData} (e : d = .tuple ds) : ∃ (b1 b2 b3 ra rb : List Nat) (s : Nat) (da db : PyData), r = b1 ++ 40 :: (b2 ++ s :: ra) ∧ ds = [.str ⟨#[s]⟩, da, db] ∧ (∀ c ∈ b1, bl c = true) ∧ (∀ c ∈ b2, bl c = true) ∧ (∀ c ∈ b3, bl c = true) ∧ (s = 62 ∨ s = 42) ∧ Wr ra da rb ∧ Wr rb db (b3 ++ 41 :: t) := by
  cases h with
  | name => cases e
  | row h1 h2 h3 hs ha hb =>
    cases e
    exact ⟨_, _, _, _, _, _, _, _, rfl, rfl, h1, h2, h3, hs, ha, hb⟩
end Ow

namespace Ow
open PySem PySem.Spec PyProof.Rows L2
/-- the text of a kind -/
def ktL : Nat → PyData → List Nat
  | 0, _ => []
  | n + 1, d => match d with
    | .str z => z.cps.toList
    | .tuple [.str s, a, b] => 40 :: (s.cps.toList ++ 32 :: (ktL n a ++ 32 :: (ktL n b ++ [41])))
    | _ => []
theorem kt_str (n : Nat) (z : Str) : ktL (n + 1) (.str z) = z.cps.toList := rfl
theorem kt_tup (n : Nat) (s : Str) (a b : PyData) : ktL (n + 1) (.tuple [.str s, a, b]) = 40 :: (s.cps.toList ++ 32 :: (ktL n a ++ 32 :: (ktL n b ++ [41]))) := rfl
theorem str_of (x : Str) : x = ⟨x.cps.toList.toArray⟩ := by
  cases x
  simp
theorem str_ext {x y : Str} (h : x.cps.toList = y.cps.toList) : x = y := by
  rw [str_of x, str_of y, h]
theorem app_list (x y : Str) : (x ++ y).cps.toList = x.cps.toList ++ y.cps.toList := by
  show (x.cps ++ y.cps).toList = _
  simp
theorem glued3 (a b c d : Str) : (Txt.join a [b, c, d]).cps.toList = b.cps.toList ++ (a.cps.toList ++ (c.cps.toList ++ (a.cps.toList ++ d.cps.toList))) := by
  simp [Txt.join, Builtin.Str.glued]
/-- what a kind is made of -/
theorem kd_cases {j : Nat} {d : PyData} (h : kindW (j + 1) d = true) : (∃ z : Str, d = .str z ∧ 1 ≤ z.length ∧ z.length ≤ 8 ∧ ∀ c ∈ z.cps.toList, ltr c = true) ∨
    ∃ (s : Nat) (a b : PyData), d = .tuple [.str ⟨#[s]⟩, a, b] ∧ (s = 62 ∨ s = 42) ∧ 1 ≤ j ∧ kindW j a = true ∧ kindW j b = true := by
  cases hd : tyD d == "str" with
  | true =>
    obtain ⟨z, rfl⟩ := ty_str (by simpa using hd)
    refine .inl ⟨z, rfl, ?_⟩
    have q : isNameD (.str z) = true := h
    simp only [isNameD, Bool.and_eq_true, decide_eq_true_eq, List.all_eq_true] at q
    exact ⟨q.1.1, q.1.2, fun c hc => decide_eq_true (q.2 c hc)⟩
  | false =>
    have hn : tyD d ≠ "str" := by simpa using hd
    cases hr : isRowD d 3 3 with
    | false =>
      rw [kind_no hn (.inr hr)] at h
      cases h
    | true =>
      obtain ⟨sg, a, b, rfl⟩ := row3 hr
      rw [kind_tup, Bool.and_eq_true, Bool.and_eq_true, Bool.and_eq_true, decide_eq_true_eq] at h
      obtain ⟨⟨⟨h1, h2⟩, h3⟩, h4⟩ := h
      refine .inr ?_
      have hs : ∃ s : Nat, sg = .str ⟨#[s]⟩ ∧ (s = 62 ∨ s = 42) := by
        cases sg with
        | str z =>
          have m : z ∈ signs2 := of_decide_eq_true h2
          rcases List.mem_cons.mp m with rfl | m
          · exact ⟨62, rfl, .inl rfl⟩
          · rcases List.mem_cons.mp m with rfl | m
            · exact ⟨42, rfl, .inr rfl⟩
            · cases m
        | _ => cases h2
      obtain ⟨s, rfl, hs⟩ := hs
      exact ⟨s, a, b, rfl, hs, by omega, h3, h4⟩
theorem kt_len : ∀ {j : Nat} {d : PyData}, kindW j d = true → (ktL j d).length + 5 ≤ 13 * 2 ^ j
  | 0, _, h => by cases h
  | j + 1, d, h => by
    have p : 1 ≤ 2 ^ j := Nat.one_le_two_pow
    rcases kd_cases h with ⟨z, rfl, _, h8, _⟩ | ⟨s, a, b, rfl, _, _, ha, hb⟩
    · rw [kt_str, Nat.pow_succ]
      have : z.cps.toList.length = z.length := rfl
      omega
    · have la := kt_len ha
      have lb := kt_len hb
      rw [kt_tup, Nat.pow_succ]
      have h1 : (⟨#[s]⟩ : Str).cps.toList.length = 1 := rfl
      simp only [List.length_cons, List.length_append, List.length_nil, h1]
      omega
theorem ltr_small {c : Nat} (h : ltr c = true) : 97 ≤ c ∧ c ≤ 122 := by
  have m := of_decide_eq_true h
  have e : ∀ c ∈ abc.cps.toList, 97 ≤ c ∧ c ≤ 122 := by decide +kernel
  exact e c m
theorem kind_fit : ∀ {j : Nat} {d : PyData}, kindW j d = true → Fit (128 * 2 ^ j - 40) j d
  | 0, _, h => by cases h
  | j + 1, d, h => by
    have p : 1 ≤ 2 ^ j := Nat.one_le_two_pow
    rcases kd_cases h with ⟨z, rfl, h1, h8, hl⟩ | ⟨s, a, b, rfl, hs, _, ha, hb⟩
    · refine (fit_str (n := 8) (fun c hc => ?_) h8).le (by rw [Nat.pow_succ]; omega) (Nat.zero_le _)
      have := (ltr_small (hl c hc)).2
      omega
    · have hsg : Fit 13 j (.str ⟨#[s]⟩) := (fit_str (n := 1) (fun c hc => by
        have e : c = s := by simpa using hc
        rcases hs with rfl | rfl <;> omega) (Nat.le_refl _)).le (by decide) (Nat.zero_le _)
      refine (Fit.tup (.cons hsg (.cons (kind_fit ha) (.cons (kind_fit hb) (FitAll.nil (n := 0)))))).le ?_ (Nat.le_refl _)
      rw [Nat.pow_succ]
      omega
def spKText (K : PySem.W.Frag) (j : Nat) : Sp := fun vs H Q _ => ∃ (N : Addr → Prop) (v : V) (d : PyData), vs = [v] ∧ Da K N H v d ∧ kindW j d = true ∧ ∀ H', Same H H' → Q (.str ⟨(ktL j d).toArray⟩) H'
def spBracketed : Sp := fun vs H Q _ => ∃ (p : Addr) (a b c : Str), vs = [.ref p] ∧ H p = some (.lst [.str a, .str b, .str c]) ∧ a.length ≤ 1000 ∧ b.length ≤ 1000 ∧ c.length ≤ 1000 ∧
  Q (.str ⟨(40 :: (a.cps.toList ++ 32 :: (b.cps.toList ++ 32 :: (c.cps.toList ++ [41])))).toArray⟩) H
theorem brack (a b c : Str) : (("(" : Str) ++ Txt.join " " [a, b, c]) ++ (")" : Str) = ⟨(40 :: (a.cps.toList ++ 32 :: (b.cps.toList ++ 32 :: (c.cps.toList ++ [41])))).toArray⟩ := by
  refine str_ext ?_
  rw [app_list, app_list, glued3]
  show [40] ++ (a.cps.toList ++ ([32] ++ (b.cps.toList ++ ([32] ++ c.cps.toList)))) ++ [41] = 40 :: _
  simp
theorem kt_small {j : Nat} (hj : j ≤ 6) {d : PyData} (h : kindW j d = true) : (ktL j d).length ≤ 832 := by
  have l := kt_len h
  have : 2 ^ j ≤ 64 := Nat.le_trans (Nat.pow_le_pow_right (by decide) hj) (by decide)
  omega
end Ow

namespace Ow
open PySem PySem.Spec PyProof.Rows L2
def spReadKind (K : PySem.W.Frag) : Sp := fun vs H Q _ => ∃ (x : Str) (d : PyData) (t : List Nat), vs = [.str x] ∧ x.length ≤ 1000000 ∧ Wr x.cps.toList d t ∧ (∀ c ∈ t, bl c = true) ∧ kindW 6 d = true ∧
  ∀ (v : V) (H' : Hp), Da K All H' v d → Same H H' → Q v H'
def spReadWhole (K : PySem.W.Frag) (fS fH : Addr) : Sp := fun vs H Q _ => ∃ (x : Str) (d : PyData) (t : List Nat), vs = [.str x, .ref fS, .ref fH] ∧ x.length ≤ 1000000 ∧ Wr x.cps.toList d t ∧ (∀ c ∈ t, bl c = true) ∧ kindW 6 d = true ∧
  ∀ (v : V) (H' : Hp), Da K All H' v d → Same H H' → Q v H'
end Ow

namespace Ow
open PySem PySem.Spec PyProof.Rows L2
def spAnyKind (K : PySem.W.Frag) (j : Nat) : Sp := fun vs H Q _ => ∃ (p c : Addr) (z : Int), vs = [.ref p, .int z] ∧ z ≤ j ∧ 1 ≤ j ∧ j ≤ 6 ∧ -100 ≤ z ∧ Pen H p c ∧
  ∀ (v : V) (d : PyData) (H' : Hp), Da K All H' v d → kindW j d = true → Pen H' p c → Kp p H H' → Q v H'
theorem nm_kind {x : Str} (h : Nm x) (j : Nat) : kindW (j + 1) (.str x) = true := by
  show isNameD (.str x) = true
  simp only [isNameD, Bool.and_eq_true, decide_eq_true_eq, List.all_eq_true]
  refine ⟨⟨h.1, h.2.1⟩, fun c hc => ?_⟩
  have e : ∀ c, 97 ≤ c → c ≤ 122 → c ∈ abc.cps.toList := by
    intro c h1 h2
    have q : c = 97 ∨ c = 98 ∨ c = 99 ∨ c = 100 ∨ c = 101 ∨ c = 102 ∨ c = 103 ∨ c = 104 ∨ c = 105 ∨ c = 106 ∨ c = 107 ∨ c = 108 ∨ c = 109 ∨ c = 110 ∨ c = 111 ∨ c = 112 ∨ c = 113 ∨ c = 114 ∨ c = 115 ∨ c = 116 ∨ c = 117 ∨ c = 118 ∨ c = 119 ∨ c = 120 ∨ c = 121 ∨ c = 122 := by omega
    rcases q with rfl | rfl | rfl | rfl | rfl | rfl | rfl | rfl | rfl | rfl | rfl | rfl | rfl | rfl | rfl | rfl | rfl | rfl | rfl | rfl | rfl | rfl | rfl | rfl | rfl | rfl <;> decide +kernel
  exact e c (h.2.2 c hc).1 (h.2.2 c hc).2
/-- the tokens of a kind, in their order -/
def toks : Nat → PyData → List (List Nat)
  | 0, _ => []
  | n + 1, d => match d with
    | .str z => [z.cps.toList]
    | .tuple [.str s, a, b] => [40] :: s.cps.toList :: (toks n a ++ (toks n b ++ [[41]]))
    | _ => []
def firstL (w : List Nat) : Bool := match w with
  | c :: _ => ltr c
  | [] => false
def lastL (w : List Nat) : Bool := match w.getLast? with
  | some c => ltr c
  | none => false
/-- tokens put together with blanks, at least one between two of letters; t behind -/
inductive Dr : Bool → List (List Nat) → List Nat → List Nat → Prop where
  | nil {p : Bool} {t : List Nat} : Dr p [] t t
  | cons {p : Bool} {w b r t : List Nat} {ws : List (List Nat)} (hb : ∀ c ∈ b, bl c = true) (hs : p = true → firstL w = true → b ≠ []) (h : Dr (lastL w) ws r t) : Dr p (w :: ws) (b ++ (w ++ r)) t
theorem bl_ltr {c : Nat} (h : bl c = true) : ltr c = false := by
  cases e : ltr c with
  | false => rfl
  | true =>
    rw [ltr_bl e] at h
    cases h
/-- behind a word of letters no letter comes -/
theorem Dr.head {ws : List (List Nat)} {r t : List Nat} (h : Dr true ws r t) (hne : ∀ w ∈ ws, w ≠ []) (ht : headNo t) : headNo r := by
  cases h with
  | nil => exact ht
  | @cons _ w b r t ws hb hs h =>
    intro c t' e
    cases b with
    | cons x b =>
      cases e
      exact bl_ltr (hb c (List.mem_cons_self ..))
    | nil =>
      cases hw : w with
      | nil => exact absurd hw (hne w (List.mem_cons_self ..))
      | cons x w' =>
        rw [hw] at e hs
        cases e
        cases hl : ltr c with
        | false => rfl
        | true => exact absurd rfl (hs rfl hl)
theorem last_letters {w : List Nat} (h : ∀ c ∈ w, ltr c = true) (hne : w ≠ []) : lastL w = true := by
  unfold lastL
  cases e : w.getLast? with
  | none => exact absurd (List.getLast?_eq_none_iff.mp e) hne
  | some c => exact h c (List.mem_of_getLast? e)
theorem toks_ne : ∀ {j : Nat} {d : PyData}, kindW j d = true → ∀ w ∈ toks j d, w ≠ []
  | 0, _, h => by cases h
  | j + 1, d, h => by
    rcases kd_cases h with ⟨z, rfl, h1, _, _⟩ | ⟨s, a, b, rfl, _, _, ha, hb⟩
    · intro w hw e
      have q : w = z.cps.toList := by simpa [toks] using hw
      rw [q] at e
      have : z.length = 0 := by
        show z.cps.toList.length = 0
        rw [e]
        rfl
      omega
    · intro w hw
      have q : w = [40] ∨ w = [s] ∨ w ∈ toks j a ∨ w ∈ toks j b ∨ w = [41] := by simpa [toks] using hw
      rcases q with rfl | rfl | q | q | rfl
      · simp
      · simp
      · exact toks_ne ha w q
      · exact toks_ne hb w q
      · simp
/-- a dressed kind writes the kind -/
theorem Dr.wr : ∀ {j : Nat} {d : PyData} (h : kindW j d = true) {p : Bool} {ws : List (List Nat)} {r t : List Nat}, Dr p (toks j d ++ ws) r t → (∀ w ∈ ws, w ≠ []) → headNo t → ∃ (q : Bool) (r' : List Nat), Wr r d r' ∧ Dr q ws r' t
  | 0, _, h, _, _, _, _, _, _, _ => by cases h
  | j + 1, d, h, p, ws, r, t, hD, hne, ht => by
    rcases kd_cases h with ⟨z, rfl, h1, h8, hl⟩ | ⟨s, a, b, rfl, hs, _, ha, hb⟩
    · cases hD with
      | @cons _ w bb r t ws hb hss hD =>
        have hzn : z.cps.toList ≠ [] := fun e => by
          have : z.length = 0 := by
            show z.cps.toList.length = 0
            rw [e]
            rfl
          omega
        have hlast := last_letters hl hzn
        rw [hlast] at hD
        have w1 := Wr.name (b := bb) (w := z.cps.toList) (t := r) hb hl h1 h8 (hD.head hne ht)
        rw [← str_of] at w1
        exact ⟨_, r, w1, hD⟩
    · have e : toks (j + 1) (.tuple [.str ⟨#[s]⟩, a, b]) ++ ws = [40] :: [s] :: (toks j a ++ (toks j b ++ ([41] :: ws))) := by
        show ([40] :: [s] :: (toks j a ++ (toks j b ++ [[41]]))) ++ ws = _
        simp
      rw [e] at hD
      cases hD with
      | @cons _ w1 b1 r1 t1 ws1 hb1 hs1 hD =>
        cases hD with
        | @cons _ w2 b2 r2 t2 ws2 hb2 hs2 hD =>
          have n2 : ∀ w ∈ [41] :: ws, w ≠ [] := fun w hw => by
            rcases List.mem_cons.mp hw with rfl | hw
            · simp
            · exact hne w hw
          have n1 : ∀ w ∈ toks j b ++ ([41] :: ws), w ≠ [] := fun w hw => by
            rcases List.mem_append.mp hw with hw | hw
            · exact toks_ne hb w hw
            · exact n2 w hw
          obtain ⟨q1, ra, wa, hD⟩ := Dr.wr ha hD n1 ht
          obtain ⟨q2, rb, wb, hD⟩ := Dr.wr hb hD n2 ht
          cases hD with
          | @cons _ w3 b3 r3 t3 ws3 hb3 hs3 hD =>
            exact ⟨_, r3, Wr.row hb1 hb2 hb3 hs wa wb, hD⟩
end Ow

namespace Ow
open PySem PySem.Spec PyProof.Rows L2
theorem for_str {x : Str} {g : TG} {tb : TS} {D : Ends} {σ : L2.St} {H : Hp} (Pv : Nat → L2.St → Hp → Prop) (h0 : Pv 0 σ H)
    (hs : ∀ i c σ H, x.cps.toList[i]? = some c → Pv i σ H → g (.str ⟨#[c]⟩) σ H fun σ2 H2 => tb { D with nx := Pv (i + 1), ct := Pv (i + 1), bk := D.nx } σ2 H2) (hd : ∀ σ H, Pv x.cps.toList.length σ H → D.nx σ H) :
    ∃ W : Nat → Nat → L2.St → Hp → Prop, (∃ m, W 0 m σ H) ∧ ∀ i m σ H, W i m σ H →
      ((Its x).stop i H ∧ D.nx σ H) ∨ ((Its x).go i H ∧ ∃ N : L2.St → Hp → Prop, (∀ σ' H', N σ' H' → ∃ m', m' < m ∧ W (i + 1) m' σ' H') ∧ ∀ y H', (Its x).yld i H y H' → g y σ H' fun σ2 H2 => tb { D with nx := N, ct := N, bk := D.nx } σ2 H2) := by
  refine ⟨fun i m σ H => m = x.cps.size - i ∧ i ≤ x.cps.size ∧ Pv i σ H, ⟨_, rfl, Nat.zero_le _, h0⟩, ?_⟩
  rintro i m σ H ⟨rfl, hi, p⟩
  by_cases hl : i < x.cps.size
  · refine .inr ⟨hl, Pv (i + 1), fun σ' H' p' => ⟨x.cps.size - (i + 1), by omega, rfl, hl, p'⟩, fun y H' z => ?_⟩
    obtain ⟨rfl, c, hc, rfl⟩ := z
    exact hs i c σ _ (by rw [Array.getElem?_toList]; exact hc) p
  · have e : i = x.cps.size := by omega
    subst e
    exact .inl ⟨Nat.le_refl _, hd σ H p⟩
/-- one sign more: words told so far, whether a word of letters is open -/
def tstep (s : List (List Nat) × Bool) (c : Nat) : List (List Nat) × Bool :=
  if (ltr c && s.2) = true then (s.1.dropLast ++ [(s.1.getLast?.getD []) ++ [c]], true) else if bl c = true then (s.1, ltr c) else (s.1 ++ [[c]], ltr c)
theorem tstep_more {ws : List (List Nat)} {u : List Nat} {c : Nat} (h : ltr c = true) : tstep (ws ++ [u], true) c = (ws ++ [u ++ [c]], true) := by
  unfold tstep
  rw [h]
  simp
theorem tstep_new {ws : List (List Nat)} {q : Bool} {c : Nat} (h : (ltr c && q) = false) (b : bl c = false) : tstep (ws, q) c = (ws ++ [[c]], ltr c) := by
  unfold tstep
  rw [if_neg (by rw [h]; decide), if_neg (by rw [b]; decide)]
theorem tstep_bl {ws : List (List Nat)} {q : Bool} {c : Nat} (b : bl c = true) : tstep (ws, q) c = (ws, false) := by
  have h := bl_ltr b
  unfold tstep
  rw [h, if_neg (by simp), if_pos b]
theorem tfold_name {ws : List (List Nat)} : ∀ {w u : List Nat}, (∀ c ∈ w, ltr c = true) → w.foldl tstep (ws ++ [u], true) = (ws ++ [u ++ w], true)
  | [], u, _ => by simp
  | c :: w, u, h => by
    rw [List.foldl_cons, tstep_more (h c (List.mem_cons_self ..)), tfold_name (fun d hd => h d (List.mem_cons_of_mem _ hd)), List.append_assoc]
    rfl
theorem tfold : ∀ {j : Nat} {d : PyData}, kindW j d = true → ∀ ws, ∃ q, (ktL j d).foldl tstep (ws, false) = (ws ++ toks j d, q)
  | 0, _, h => by cases h
  | j + 1, d, h => by
    intro ws
    rcases kd_cases h with ⟨z, rfl, h1, _, hl⟩ | ⟨s, a, b, rfl, hs, _, ha, hb⟩
    · rw [kt_str]
      show ∃ q, _ = (ws ++ [z.cps.toList], q)
      cases hz : z.cps.toList with
      | nil =>
        have : z.length = 0 := by
          show z.cps.toList.length = 0
          rw [hz]
          rfl
        omega
      | cons c w =>
        rw [hz] at hl
        have hc := hl c (List.mem_cons_self ..)
        rw [List.foldl_cons, tstep_new (by simp) (ltr_bl hc), hc, tfold_name (fun d hd => hl d (List.mem_cons_of_mem _ hd))]
        exact ⟨true, rfl⟩
    · have n40 : ltr 40 = false := by decide +kernel
      have b40 : bl 40 = false := by decide +kernel
      have n41 : ltr 41 = false := by decide +kernel
      have b41 : bl 41 = false := by decide +kernel
      have b32 : bl 32 = true := by decide +kernel
      have ns : ltr s = false := by rcases hs with rfl | rfl <;> decide +kernel
      have bs : bl s = false := by rcases hs with rfl | rfl <;> decide +kernel
      rw [kt_tup]
      show ∃ q, (40 :: ([s] ++ 32 :: (ktL j a ++ 32 :: (ktL j b ++ [41])))).foldl tstep (ws, false) = _
      rw [List.foldl_cons, tstep_new (by rw [n40]; rfl) b40, n40, List.foldl_append, show [s].foldl tstep (ws ++ [[40]], false) = (ws ++ [[40]] ++ [[s]], false) from by rw [List.foldl_cons, List.foldl_nil, tstep_new (by rw [ns]; rfl) bs, ns], List.foldl_cons, tstep_bl b32, List.foldl_append]
      obtain ⟨q1, e1⟩ := tfold ha (ws ++ [[40]] ++ [[s]])
      rw [e1, List.foldl_cons, tstep_bl b32, List.foldl_append]
      obtain ⟨q2, e2⟩ := tfold hb (ws ++ [[40]] ++ [[s]] ++ toks j a)
      rw [e2, List.foldl_cons, List.foldl_nil, tstep_new (by rw [n41]; rfl) b41]
      refine ⟨ltr 41, ?_⟩
      show _ = (ws ++ ([40] :: [s] :: (toks j a ++ (toks j b ++ [[41]]))), _)
      simp
def vW (w : List Nat) : V := .str ⟨w.toArray⟩
def spTokens (K : PySem.W.Frag) : Sp := fun vs H Q _ => ∃ (x : Str), vs = [.str x] ∧ x.length ≤ 1000 ∧ ∀ (q : Addr) (H' : Hp), H' q = some (.lst ((x.cps.toList.foldl tstep ([], false)).1.map vW)) → Same H H' → Q (.ref q) H'
/-- a state of the walk: words are none empty, an open word is there -/
structure TSt (s : List (List Nat) × Bool) (n : Nat) : Prop where
  op : s.2 = true → ∃ ws u, s.1 = ws ++ [u]
  len : s.1.length ≤ n
  wl : ∀ w ∈ s.1, w.length ≤ n
theorem TSt.step {s : List (List Nat) × Bool} {n c : Nat} (h : TSt s n) : TSt (tstep s c) (n + 1) := by
  obtain ⟨ws, q⟩ := s
  cases hq : (ltr c && q) with
  | true =>
    simp only [Bool.and_eq_true] at hq
    obtain ⟨hl, rfl⟩ := hq
    obtain ⟨us, u, e⟩ := h.op rfl
    dsimp only at e
    subst e
    rw [tstep_more hl]
    refine ⟨fun _ => ⟨us, _, rfl⟩, ?_, ?_⟩
    · have := h.len
      simp only [List.length_append, List.length_cons, List.length_nil] at this ⊢
      omega
    · intro w hw
      rcases List.mem_append.mp hw with hw | hw
      · have := h.wl w (List.mem_append_left _ hw)
        omega
      · have e : w = u ++ [c] := by simpa using hw
        have := h.wl u (by simp)
        rw [e, List.length_append]
        show u.length + 1 ≤ n + 1
        omega
  | false =>
    cases hb : bl c with
    | true =>
      rw [tstep_bl hb]
      exact ⟨(fun z => nomatch z), Nat.le_succ_of_le h.len, fun w hw => Nat.le_succ_of_le (h.wl w hw)⟩
    | false =>
      rw [tstep_new hq hb]
      refine ⟨fun _ => ⟨ws, [c], rfl⟩, ?_, ?_⟩
      · have := h.len
        rw [List.length_append]
        show ws.length + 1 ≤ n + 1
        exact Nat.succ_le_succ this
      · intro w hw
        rcases List.mem_append.mp hw with hw | hw
        · exact Nat.le_succ_of_le (h.wl w hw)
        · have e : w = [c] := by simpa using hw
          rw [e]
          show 1 ≤ n + 1
          omega
theorem tstep_snd (s : List (List Nat) × Bool) (c : Nat) : (tstep s c).2 = ltr c := by
  obtain ⟨ws, q⟩ := s
  cases hq : (ltr c && q) with
  | true =>
    have e : ltr c = true := by
      simp only [Bool.and_eq_true] at hq
      exact hq.1
    unfold tstep
    rw [if_pos hq, e]
  | false =>
    cases hb : bl c with
    | true => rw [tstep_bl hb, bl_ltr hb]
    | false => rw [tstep_new hq hb]
theorem ix_last0 {α : Type} (l : List α) (x : α) : ixN (l ++ [x]).length (-1) = some l.length := by
  rw [List.length_append]
  show ixN (l.length + 1) (-1) = _
  unfold ixN
  rw [if_neg (by omega), if_pos (by omega)]
  congr 1
  omega
theorem at_last0 {α : Type} (l : List α) (x : α) : atI (l ++ [x]) (-1) = some x := by
  unfold atI
  rw [ix_last0]
  show (l ++ [x])[l.length]? = some x
  rw [List.getElem?_append_right (Nat.le_refl _), Nat.sub_self]
  rfl
theorem set_last0 {α : Type} (l : List α) (x y : α) : (l ++ [x]).set l.length y = l ++ [y] := by
  rw [List.set_append_right _ _ (Nat.le_refl _), Nat.sub_self]
  rfl
end Ow

namespace Ow
open PySem PySem.Spec PyProof.Rows L2
theorem glue_signs : ∀ (bs : List Nat) (a : Array Nat), ((bs.map fun c => (⟨#[c]⟩ : Str)).foldl (fun acc p => acc ++ (("" : Str)).cps ++ p.cps) a).toList = a.toList ++ bs
  | [], a => by simp
  | c :: bs, a => by
    rw [List.map_cons, List.foldl_cons, glue_signs bs]
    have e : (("" : Str)).cps = #[] := rfl
    simp [e]
theorem join_signs (bs : List Nat) : (Txt.join "" (bs.map fun c => (⟨#[c]⟩ : Str))).cps.toList = bs := by
  cases bs with
  | nil => rfl
  | cons c bs =>
    have e := glue_signs bs #[c]
    show (List.foldl _ (⟨#[c]⟩ : Str).cps (bs.map fun c => (⟨#[c]⟩ : Str))).toList = _
    exact e
theorem TSt.fold : ∀ {l : List Nat} {s : List (List Nat) × Bool} {n : Nat}, TSt s n → TSt (l.foldl tstep s) (n + l.length)
  | [], _, _, h => h
  | c :: l, s, n, h => by
    have := TSt.fold (l := l) (h.step (c := c))
    rw [List.foldl_cons, List.length_cons, show n + (l.length + 1) = n + 1 + l.length by omega]
    exact this
theorem toks_len {j : Nat} (hj : j ≤ 6) {d : PyData} (h : kindW j d = true) : (toks j d).length ≤ 832 ∧ ∀ w ∈ toks j d, w.length ≤ 832 := by
  obtain ⟨q, e⟩ := tfold h []
  have st := TSt.fold (l := ktL j d) (s := ([], false)) (n := 0) ⟨(fun z => nomatch z), Nat.le_refl _, fun w hw => nomatch hw⟩
  rw [e, List.nil_append] at st
  have := kt_small hj h
  exact ⟨Nat.le_trans st.len (by omega), fun w hw => Nat.le_trans (st.wl w hw) (by omega)⟩
def spDressed (K : PySem.W.Frag) : Sp := fun vs H Q _ => ∃ (p c : Addr) (j : Nat) (d : PyData), vs = [.ref p, .str ⟨(ktL j d).toArray⟩] ∧ Pen H p c ∧ j ≤ 6 ∧ kindW j d = true ∧
  ∀ (y : Str) (t : List Nat) (H' : Hp), Dr false (toks j d) y.cps.toList t → (∀ c ∈ t, bl c = true) → y.length ≤ 1000000 → Pen H' p c → Kp p H H' → Q (.str y) H'
theorem blank_at {n : Int} (h0 : 0 ≤ n) (h1 : n < 2) : ∃ c : Nat, atI blanks.cps.toList n = some c ∧ bl c = true := by
  have : n = 0 ∨ n = 1 := by omega
  rcases this with rfl | rfl
  · exact ⟨32, rfl, by decide +kernel⟩
  · exact ⟨10, rfl, by decide +kernel⟩
theorem blank_cut {n : Int} (h0 : 0 ≤ n) (h1 : n < 3) : (∀ c ∈ (cutS blanks none (some n)).cps.toList, bl c = true) ∧ (cutS blanks none (some n)).length ≤ 2 := by
  have : n = 0 ∨ n = 1 ∨ n = 2 := by omega
  rcases this with rfl | rfl | rfl <;> refine ⟨?_, ?_⟩ <;> decide +kernel
theorem at_zeroN (c : Nat) (w : List Nat) : atI (c :: w) 0 = some c := by
  unfold atI ixN
  rw [if_pos (by omega), if_pos (by show (0 : Int) < ((w.length + 1 : Nat) : Int); omega)]
  rfl
theorem last_ch {l : Str} (h : l.cps.toList ≠ []) : ∃ c, atI l.cps.toList (-1) = some c ∧ ltr c = lastL l.cps.toList := by
  generalize l.cps.toList = w at h
  obtain ⟨ws, u, rfl⟩ : ∃ ws u, w = ws ++ [u] := ⟨w.dropLast, w.getLast h, (List.dropLast_concat_getLast h).symm⟩
  refine ⟨u, at_last0 _ _, ?_⟩
  unfold lastL
  rw [List.getLast?_concat]
theorem first_ch {w : List Nat} (h : w ≠ []) : ∃ c, atI (⟨w.toArray⟩ : Str).cps.toList 0 = some c ∧ ltr c = firstL w := by
  cases w with
  | nil => exact absurd rfl h
  | cons c w => exact ⟨c, at_zeroN c w, rfl⟩
end Ow

namespace Ow
open PySem PySem.Spec PyProof.Rows L2
theorem Dr.blank {p q : Bool} {ws : List (List Nat)} {r t : List Nat} (h : Dr p ws r t) (hne : ws ≠ []) : Dr q ws (32 :: r) t := by
  cases h with
  | nil => exact absurd rfl hne
  | @cons _ w b r t ws hb hs h =>
    exact Dr.cons (b := 32 :: b) (fun c hc => by
      rcases List.mem_cons.mp hc with rfl | hc
      · decide +kernel
      · exact hb c hc) (fun _ _ => by simp) h
theorem toks_some {j : Nat} {d : PyData} (h : kindW j d = true) : toks j d ≠ [] := by
  cases j with
  | zero => cases h
  | succ j =>
    rcases kd_cases h with ⟨z, rfl, _⟩ | ⟨s, a, b, rfl, _⟩ <;> simp [toks]
theorem kt_dr : ∀ {j : Nat} {d : PyData} (h : kindW j d = true) {ws : List (List Nat)} {r t : List Nat}, (∀ q, Dr q ws r t) → Dr false (toks j d ++ ws) (ktL j d ++ r) t
  | 0, _, h, _, _, _, _ => by cases h
  | j + 1, d, h, ws, r, t, hD => by
    rcases kd_cases h with ⟨z, rfl, _⟩ | ⟨s, a, b, rfl, hs, _, ha, hb⟩
    · exact Dr.cons (b := []) (w := z.cps.toList) (fun c hc => nomatch hc) (fun z => nomatch z) (hD _)
    · have e : toks (j + 1) (.tuple [.str ⟨#[s]⟩, a, b]) ++ ws = [40] :: [s] :: (toks j a ++ (toks j b ++ ([41] :: ws))) := by
        show ([40] :: [s] :: (toks j a ++ (toks j b ++ [[41]]))) ++ ws = _
        simp
      have e2 : ktL (j + 1) (.tuple [.str ⟨#[s]⟩, a, b]) ++ r = [] ++ ([40] ++ ([] ++ ([s] ++ (32 :: (ktL j a ++ (32 :: (ktL j b ++ (41 :: r)))))))) := by
        rw [kt_tup]
        show (40 :: ([s] ++ 32 :: (ktL j a ++ 32 :: (ktL j b ++ [41])))) ++ r = _
        simp
      rw [e, e2]
      have d4 : ∀ q, Dr q ([41] :: ws) (41 :: r) t := fun q => Dr.cons (b := []) (w := [41]) (fun c hc => nomatch hc) (fun _ z => absurd z (by decide +kernel)) (hD _)
      have d3 := kt_dr hb d4
      have d2 : ∀ q, Dr q (toks j b ++ ([41] :: ws)) (32 :: (ktL j b ++ (41 :: r))) t := fun q => d3.blank (by simp)
      have d1 := kt_dr ha d2
      refine Dr.cons (fun c hc => nomatch hc) (fun z => nomatch z) (Dr.cons (fun c hc => nomatch hc) (fun z => absurd z (by decide +kernel)) (d1.blank ?_))
      simp
theorem text_dr {j : Nat} {d : PyData} (h : kindW j d = true) : Dr false (toks j d) (ktL j d) [] := by
  have := kt_dr h (ws := []) (r := []) (t := []) fun q => Dr.nil
  rw [List.append_nil, List.append_nil] at this
  exact this
theorem head_bl {t : List Nat} (h : ∀ c ∈ t, bl c = true) : headNo t := fun c t' e => bl_ltr (h c (by rw [e]; exact List.mem_cons_self ..))
theorem dr_wr {j : Nat} {d : PyData} (h : kindW j d = true) {r t : List Nat} (hD : Dr false (toks j d) r t) (ht : ∀ c ∈ t, bl c = true) : Wr r d t := by
  have hD' : Dr false (toks j d ++ []) r t := by rw [List.append_nil]; exact hD
  obtain ⟨q, r', w, e⟩ := Dr.wr h hD' (fun w hw => nomatch hw) (head_bl ht)
  cases e
  exact w
theorem kind_dp {K : PySem.W.Frag} {N : Addr → Prop} {H : Hp} : ∀ {j : Nat} {d : PyData} {v : V}, kindW j d = true → Da K N H v d → Dp K H v d
  | 0, _, _, h, _ => by cases h
  | j + 1, d, v, h, hd => by
    rcases kd_cases h with ⟨z, rfl, _⟩ | ⟨s, a, b, rfl, _, _, ha, hb⟩
    · cases hd.strInv
      exact .str z
    · obtain ⟨t, vs, va, vb, rfl, hT, ds, da, db⟩ := hd.tup3
      cases ds.strInv
      exact .tup hT (.cons (.str _) (.cons (kind_dp ha da) (.cons (kind_dp hb db) .nil)))
theorem strOk_of {z : Str} (h : ∀ c ∈ z.cps.toList, c < 1114112) : PyData.strOk z = true := by
  unfold PyData.strOk
  rw [← Array.all_toList, List.all_eq_true]
  intro c hc
  exact decide_eq_true (h c hc)
theorem ne_selfV (v : V) : (!decide (v = v)) = false := by simp
theorem kind_lay : ∀ {j : Nat} {d : PyData}, kindW j d = true → d.canLay0 = true ∧ d.depth ≤ j
  | 0, _, h => by cases h
  | j + 1, d, h => by
    rcases kd_cases h with ⟨z, rfl, _, _, hl⟩ | ⟨s, a, b, rfl, hs, _, ha, hb⟩
    · have o : PyData.strOk z = true := strOk_of fun c hc => by
        have := (ltr_small (hl c hc)).2
        omega
      exact ⟨by simp [PyData.canLay0, o], by simp [PyData.depth]⟩
    · obtain ⟨a1, a2⟩ := kind_lay ha
      obtain ⟨b1, b2⟩ := kind_lay hb
      have o : PyData.strOk ⟨#[s]⟩ = true := by rcases hs with rfl | rfl <;> decide +kernel
      refine ⟨?_, ?_⟩
      · simp [PyData.canLay0, PyData.canLayAll0, a1, b1, o]
      · simp only [PyData.depth, PyData.depthAll]
        omega
theorem kind_shaped {j : Nat} (hj : j ≤ 6) {d : PyData} (h : kindW j d = true) : SeqAt.shaped d = true := by
  obtain ⟨h1, h2⟩ := kind_lay h
  unfold SeqAt.shaped
  rw [h1, decide_eq_true (show d.depth ≤ 64 by omega)]
  rfl
theorem kind_eqv : ∀ {j : Nat} {d : PyData}, kindW j d = true → d.eqv d = true
  | 0, _, h => by cases h
  | j + 1, d, h => by
    rcases kd_cases h with ⟨z, rfl, _⟩ | ⟨s, a, b, rfl, _, _, ha, hb⟩
    · simp [PyData.eqv]
    · simp [PyData.eqv, PyData.eqvAll, kind_eqv ha, kind_eqv hb]
end Ow

/-! Terms with their texts, their tokens, how many parts they have. -/
namespace Ow
open PySem PySem.Spec PyProof.Rows L2
abbrev nmL (x : Str) : List Nat := x.cps.toList
/-- names, each behind a blank -/
def blN (xs : List Str) : List Nat := xs.flatMap fun x => 32 :: nmL x
mutual
inductive TT : Nat → PyData → List Nat → List (List Nat) → Nat → Prop
  | name {n : Nat} {x : Str} (h : isNameD (.str x) = true) : TT (n + 1) (.str x) (nmL x) [nmL x] 1
  | df {n : Nat} {x : Str} (h : isNameD (.str x) = true) : TT (n + 1) (.tuple [.str ⟨#[64]⟩, .str x]) (64 :: nmL x) [[64], nmL x] 1
  | lam {n m : Nat} {x : Str} {k t : PyData} {tx : List Nat} {tk : List (List Nat)} (h : isNameD (.str x) = true) (hk : kindW 6 k = true) (ht : TT n t tx tk m) :
      TT (n + 1) (.tuple [.str ⟨#[94]⟩, .str x, k, t]) (40 :: 94 :: 32 :: (nmL x ++ 32 :: (ktL 6 k ++ 32 :: (tx ++ [41])))) ([40] :: [94] :: nmL x :: (toks 6 k ++ (tk ++ [[41]]))) (1 + m)
  | two {n m m' s : Nat} {t u : PyData} {tx ux : List Nat} {tk uk : List (List Nat)} (hs : s = 33 ∨ s = 38 ∨ s = 45) (ht : TT n t tx tk m) (hu : TT n u ux uk m') :
      TT (n + 1) (.tuple [.str ⟨#[s]⟩, t, u]) (40 :: s :: 32 :: (tx ++ 32 :: (ux ++ [41]))) ([40] :: [s] :: (tk ++ (uk ++ [[41]]))) (1 + m + m')
  | five {n m m' s : Nat} {x y : Str} {t u : PyData} {tx ux : List Nat} {tk uk : List (List Nat)} (hs : s = 47 ∨ s = 43) (hx : isNameD (.str x) = true) (hy : isNameD (.str y) = true) (hne : x ≠ y) (ht : TT n t tx tk m) (hu : TT n u ux uk m') :
      TT (n + 1) (.tuple [.str ⟨#[s]⟩, t, .str x, .str y, u]) (40 :: s :: 32 :: (tx ++ 32 :: (nmL x ++ 32 :: (nmL y ++ 32 :: (ux ++ [41]))))) ([40] :: [s] :: (tk ++ (nmL x :: nmL y :: (uk ++ [[41]])))) (1 + m + m')
  | mk {n m : Nat} {c : Str} {ts : List PyData} {tx : List Nat} {tk : List (List Nat)} (h : isNameD (.str c) = true) (hl : ts.length ≤ 4) (ha : TS n ts tx tk m) :
      TT (n + 1) (.tuple [.str ⟨#[35]⟩, .str c, .tuple ts]) (40 :: 35 :: 32 :: (nmL c ++ (tx ++ [41]))) ([40] :: [35] :: nmL c :: (tk ++ [[41]])) (1 + m)
  | ch {n m m' : Nat} {t : PyData} {cs : List PyData} {tx cx : List Nat} {tk ck : List (List Nat)} (ht : TT n t tx tk m) (h1 : 1 ≤ cs.length) (h6 : cs.length ≤ 6) (ha : TC n cs cx ck m') :
      TT (n + 1) (.tuple [.str ⟨#[63]⟩, t, .tuple cs]) (40 :: 63 :: 32 :: (tx ++ (cx ++ [41]))) ([40] :: [63] :: (tk ++ (ck ++ [[41]]))) (1 + m + m')
inductive TS : Nat → List PyData → List Nat → List (List Nat) → Nat → Prop
  | nil {n : Nat} : TS n [] [] [] 0
  | cons {n m m' : Nat} {t : PyData} {ts : List PyData} {tx sx : List Nat} {tk sk : List (List Nat)} (h : TT n t tx tk m) (r : TS n ts sx sk m') : TS n (t :: ts) (32 :: (tx ++ sx)) (tk ++ sk) (m + m')
inductive TC : Nat → List PyData → List Nat → List (List Nat) → Nat → Prop
  | nil {n : Nat} : TC n [] [] [] 0
  | cons {n m m' : Nat} {c : Str} {xs : List Str} {u : PyData} {cs : List PyData} {ux cx : List Nat} {uk ck : List (List Nat)} (hc : isNameD (.str c) = true) (hl : xs.length ≤ 4) (hx : ∀ x ∈ xs, isNameD (.str x) = true) (hu : unlikeN xs = true) (h : TT n u ux uk m) (r : TC n cs cx ck m') :
      TC n (.tuple [.str c, .tuple (xs.map strD), u] :: cs) (32 :: 40 :: (nmL c ++ (blN xs ++ 32 :: 58 :: 32 :: (ux ++ 41 :: cx)))) ([40] :: nmL c :: (xs.map nmL ++ [58] :: (uk ++ [41] :: ck))) (m + m')
end
theorem nm_cases {z : Str} (h : isNameD (.str z) = true) : 1 ≤ z.length ∧ z.length ≤ 8 ∧ ∀ c ∈ nmL z, ltr c = true := by
  simp only [isNameD, Bool.and_eq_true, decide_eq_true_eq, List.all_eq_true] at h
  exact ⟨h.1.1, h.1.2, fun c hc => decide_eq_true (h.2 c hc)⟩
theorem nm_name {x : Str} (h : Nm x) : isNameD (.str x) = true := nm_kind h 0
mutual
theorem TT.up : ∀ {n : Nat} {d : PyData} {tx : List Nat} {tk : List (List Nat)} {m : Nat}, TT n d tx tk m → ∀ {k : Nat}, n ≤ k → TT k d tx tk m
  | _, _, _, _, _, .name h, k, hk => by
    obtain ⟨k, rfl⟩ : ∃ j, k = j + 1 := ⟨k - 1, by omega⟩
    exact .name h
  | _, _, _, _, _, .df h, k, hk => by
    obtain ⟨k, rfl⟩ : ∃ j, k = j + 1 := ⟨k - 1, by omega⟩
    exact .df h
  | _, _, _, _, _, .lam h h2 ht, k, hk => by
    obtain ⟨k, rfl⟩ : ∃ j, k = j + 1 := ⟨k - 1, by omega⟩
    exact .lam h h2 (TT.up ht (by omega))
  | _, _, _, _, _, .two hs ht hu, k, hk => by
    obtain ⟨k, rfl⟩ : ∃ j, k = j + 1 := ⟨k - 1, by omega⟩
    exact .two hs (TT.up ht (by omega)) (TT.up hu (by omega))
  | _, _, _, _, _, .five hs hx hy hne ht hu, k, hk => by
    obtain ⟨k, rfl⟩ : ∃ j, k = j + 1 := ⟨k - 1, by omega⟩
    exact .five hs hx hy hne (TT.up ht (by omega)) (TT.up hu (by omega))
  | _, _, _, _, _, .mk h hl ha, k, hk => by
    obtain ⟨k, rfl⟩ : ∃ j, k = j + 1 := ⟨k - 1, by omega⟩
    exact .mk h hl (TS.up ha (by omega))
  | _, _, _, _, _, .ch ht h1 h6 ha, k, hk => by
    obtain ⟨k, rfl⟩ : ∃ j, k = j + 1 := ⟨k - 1, by omega⟩
    exact .ch (TT.up ht (by omega)) h1 h6 (TC.up ha (by omega))
theorem TS.up : ∀ {n : Nat} {d : List PyData} {tx : List Nat} {tk : List (List Nat)} {m : Nat}, TS n d tx tk m → ∀ {k : Nat}, n ≤ k → TS k d tx tk m
  | _, _, _, _, _, .nil, k, hk => .nil
  | _, _, _, _, _, .cons h r, k, hk => .cons (TT.up h hk) (TS.up r hk)
theorem TC.up : ∀ {n : Nat} {d : List PyData} {tx : List Nat} {tk : List (List Nat)} {m : Nat}, TC n d tx tk m → ∀ {k : Nat}, n ≤ k → TC k d tx tk m
  | _, _, _, _, _, .nil, k, hk => .nil
  | _, _, _, _, _, .cons hc hl hx hu h r, k, hk => .cons hc hl hx hu (TT.up h hk) (TC.up r hk)
end
/-! ### a text, its tokens -/
def Tkn (w : List Nat) : Prop := ∃ c w', w = c :: w' ∧ bl c = false
theorem Tkn.ne {w : List Nat} (h : Tkn w) : w ≠ [] := by
  obtain ⟨c, w', rfl, _⟩ := h
  simp
structure Tq (p : Bool) (l : List Nat) (ks : List (List Nat)) : Prop where
  fo : ∀ ws, ∃ q, l.foldl tstep (ws, p) = (ws ++ ks, q)
  dr : ∀ ws r t, (∀ q, Dr q ws r t) → Dr p (ks ++ ws) (l ++ r) t
  ne : ∀ w ∈ ks, Tkn w
section
variable {p : Bool} {l l' : List Nat} {ks ks' : List (List Nat)} {c : Nat}
theorem Tq.nil : Tq p [] [] := ⟨fun ws => ⟨p, by simp⟩, fun ws r t h => h p, fun w hw => nomatch hw⟩
theorem Tq.app (h : Tq p l ks) (g : ∀ q, Tq q l' ks') : Tq p (l ++ l') (ks ++ ks') := by
  refine ⟨fun ws => ?_, fun ws r t k => ?_, fun w hw => ?_⟩
  · obtain ⟨q, e⟩ := h.fo ws
    obtain ⟨q2, e2⟩ := (g q).fo (ws ++ ks)
    exact ⟨q2, by rw [List.foldl_append, e, e2, List.append_assoc]⟩
  · rw [List.append_assoc, List.append_assoc]
    exact h.dr _ _ _ fun q => (g q).dr _ _ _ k
  · rcases List.mem_append.mp hw with hw | hw
    · exact h.ne w hw
    · exact (g p).ne w hw
/-- a sign that is no letter -/
theorem Tq.sign (h1 : ltr c = false) (h2 : bl c = false) (g : Tq false l ks) : Tq p (c :: l) ([c] :: ks) := by
  refine ⟨fun ws => ?_, fun ws r t k => ?_, fun w hw => ?_⟩
  · obtain ⟨q, e⟩ := g.fo (ws ++ [[c]])
    refine ⟨q, ?_⟩
    rw [List.foldl_cons, tstep_new (by rw [h1]; rfl) h2, h1, e, List.append_assoc]
    rfl
  · have e : lastL [c] = false := h1
    exact Dr.cons (b := []) (w := [c]) (fun c hc => nomatch hc) (fun _ z => by
      have z' : ltr c = true := z
      rw [h1] at z'
      cases z') (e ▸ g.dr _ _ _ k)
  · rcases List.mem_cons.mp hw with rfl | hw
    · exact ⟨c, [], rfl, h2⟩
    · exact g.ne w hw
theorem Tq.blank (h : Tq false l ks) (hne : ks ≠ []) : Tq p (32 :: l) ks := by
  refine ⟨fun ws => ?_, fun ws r t k => ?_, h.ne⟩
  · obtain ⟨q, e⟩ := h.fo ws
    exact ⟨q, by rw [List.foldl_cons, tstep_bl (by decide +kernel), e]⟩
  · exact (h.dr ws r t k).blank (by simp [hne])
theorem Tq.name {x : Str} (h : isNameD (.str x) = true) : Tq false (nmL x) [nmL x] := by
  obtain ⟨h1, h8, hl⟩ := nm_cases h
  obtain ⟨c, w, e⟩ : ∃ c w, nmL x = c :: w := by
    cases e : nmL x with
    | nil =>
      have : (nmL x).length = x.length := rfl
      rw [e] at this
      have : x.length = 0 := this.symm
      omega
    | cons c w => exact ⟨c, w, rfl⟩
  rw [e] at hl ⊢
  have hc := hl c (List.mem_cons_self ..)
  refine ⟨fun ws => ?_, fun ws r t k => ?_, fun w' hw => ?_⟩
  · refine ⟨true, ?_⟩
    rw [List.foldl_cons, tstep_new (by simp) (ltr_bl hc), hc, tfold_name (fun d hd => hl d (List.mem_cons_of_mem _ hd))]
    rfl
  · exact Dr.cons (b := []) (w := c :: w) (fun c hc => nomatch hc) (fun z => nomatch z) (k _)
  · rw [List.mem_singleton.mp hw]
    exact ⟨c, w, rfl, ltr_bl hc⟩
end
theorem toks_tkn : ∀ {j : Nat} {d : PyData}, kindW j d = true → ∀ w ∈ toks j d, Tkn w
  | 0, _, h => by cases h
  | j + 1, d, h => by
    rcases kd_cases h with ⟨z, rfl, h1, h8, hl⟩ | ⟨s, a, b, rfl, hs, _, ha, hb⟩
    · have q : isNameD (.str z) = true := h
      exact (Tq.name q).ne
    · intro w hw
      have q : w = [40] ∨ w = [s] ∨ w ∈ toks j a ∨ w ∈ toks j b ∨ w = [41] := by simpa [toks] using hw
      rcases q with rfl | rfl | q | q | rfl
      · exact ⟨40, [], rfl, by decide +kernel⟩
      · exact ⟨s, [], rfl, by rcases hs with rfl | rfl <;> decide +kernel⟩
      · exact toks_tkn ha w q
      · exact toks_tkn hb w q
      · exact ⟨41, [], rfl, by decide +kernel⟩
theorem Tq.kind {j : Nat} {d : PyData} (h : kindW j d = true) : Tq false (ktL j d) (toks j d) :=
  ⟨tfold h, fun ws r t k => kt_dr h k, toks_tkn h⟩
theorem Tq.one {p : Bool} {c : Nat} (h1 : ltr c = false) (h2 : bl c = false) : Tq p [c] [[c]] := Tq.sign h1 h2 Tq.nil
theorem tq_names : ∀ {xs : List Str}, (∀ x ∈ xs, isNameD (.str x) = true) → ∀ q, Tq q (blN xs) (xs.map nmL)
  | [], _, q => Tq.nil
  | x :: xs, h, q => by
    show Tq q (32 :: (nmL x) ++ blN xs) ([nmL x] ++ xs.map nmL)
    exact Tq.app (Tq.blank (Tq.name (h x (List.mem_cons_self ..))) (by simp)) (tq_names fun y hy => h y (List.mem_cons_of_mem _ hy))
theorem s40 : ltr 40 = false ∧ bl 40 = false := by decide +kernel
theorem s41 : ltr 41 = false ∧ bl 41 = false := by decide +kernel
theorem s58 : ltr 58 = false ∧ bl 58 = false := by decide +kernel
theorem s64 : ltr 64 = false ∧ bl 64 = false := by decide +kernel
abbrev termS : List Nat := [94, 33, 38, 47, 35, 63, 43, 45]
theorem sT : ∀ s ∈ termS, ltr s = false ∧ bl s = false := by decide +kernel
theorem two_mem {s : Nat} (h : s = 33 ∨ s = 38 ∨ s = 45) : s ∈ termS := by rcases h with rfl | rfl | rfl <;> decide
theorem five_mem {s : Nat} (h : s = 47 ∨ s = 43) : s ∈ termS := by rcases h with rfl | rfl <;> decide
mutual
theorem TT.tq : ∀ {n : Nat} {d : PyData} {tx : List Nat} {tk : List (List Nat)} {m : Nat}, TT n d tx tk m → Tq false tx tk ∧ tk ≠ []
  | _, _, _, _, _, .name h => ⟨Tq.name h, by simp⟩
  | _, _, _, _, _, .df (x := x) h => ⟨Tq.sign s64.1 s64.2 (Tq.name h), by simp⟩
  | _, _, _, _, _, .lam (x := x) (k := k) h hk ht => by
    obtain ⟨h1, h2⟩ := TT.tq ht
    refine ⟨Tq.sign s40.1 s40.2 (Tq.sign (by decide +kernel) (by decide +kernel) ?_), by simp⟩
    show Tq _ ((32 :: nmL x) ++ ((32 :: ktL 6 k) ++ _)) ([nmL x] ++ (toks 6 k ++ _))
    exact Tq.app (Tq.blank (Tq.name h) (by simp)) fun _ => Tq.app (Tq.blank (Tq.kind hk) (toks_some hk)) fun _ => Tq.app (l := 32 :: _) (Tq.blank h1 h2) fun _ => Tq.one s41.1 s41.2
  | _, _, _, _, _, .two hs ht hu => by
    obtain ⟨h1, h2⟩ := TT.tq ht
    obtain ⟨g1, g2⟩ := TT.tq hu
    have sb := sT _ (two_mem hs)
    refine ⟨Tq.sign s40.1 s40.2 (Tq.sign sb.1 sb.2 ?_), by simp⟩
    exact Tq.app (l := 32 :: _) (Tq.blank h1 h2) fun _ => Tq.app (l := 32 :: _) (Tq.blank g1 g2) fun _ => Tq.one s41.1 s41.2
  | _, _, _, _, _, .five (x := x) (y := y) hs hx hy hne ht hu => by
    obtain ⟨h1, h2⟩ := TT.tq ht
    obtain ⟨g1, g2⟩ := TT.tq hu
    have sb := sT _ (five_mem hs)
    refine ⟨Tq.sign s40.1 s40.2 (Tq.sign sb.1 sb.2 ?_), by simp⟩
    refine Tq.app (l := 32 :: _) (Tq.blank h1 h2) fun _ => ?_
    show Tq _ ((32 :: nmL x) ++ ((32 :: nmL y) ++ _)) ([nmL x] ++ ([nmL y] ++ _))
    exact Tq.app (Tq.blank (Tq.name hx) (by simp)) fun _ => Tq.app (Tq.blank (Tq.name hy) (by simp)) fun _ => Tq.app (l := 32 :: _) (Tq.blank g1 g2) fun _ => Tq.one s41.1 s41.2
  | _, _, _, _, _, .mk (c := c) h hl ha => by
    have h1 := TS.tq ha
    refine ⟨Tq.sign s40.1 s40.2 (Tq.sign (by decide +kernel) (by decide +kernel) ?_), by simp⟩
    show Tq _ ((32 :: nmL c) ++ _) ([nmL c] ++ _)
    exact Tq.app (Tq.blank (Tq.name h) (by simp)) fun _ => Tq.app (h1 _) fun _ => Tq.one s41.1 s41.2
  | _, _, _, _, _, .ch ht _ _ ha => by
    obtain ⟨h1, h2⟩ := TT.tq ht
    have g1 := TC.tq ha
    refine ⟨Tq.sign s40.1 s40.2 (Tq.sign (by decide +kernel) (by decide +kernel) ?_), by simp⟩
    exact Tq.app (l := 32 :: _) (Tq.blank h1 h2) fun _ => Tq.app (g1 _) fun _ => Tq.one s41.1 s41.2
theorem TS.tq : ∀ {n : Nat} {d : List PyData} {tx : List Nat} {tk : List (List Nat)} {m : Nat}, TS n d tx tk m → ∀ q, Tq q tx tk
  | _, _, _, _, _, .nil => fun _ => Tq.nil
  | _, _, _, _, _, .cons h r => fun q => by
    obtain ⟨h1, h2⟩ := TT.tq h
    exact Tq.app (l := 32 :: _) (Tq.blank h1 h2) (TS.tq r)
theorem TC.tq : ∀ {n : Nat} {d : List PyData} {tx : List Nat} {tk : List (List Nat)} {m : Nat}, TC n d tx tk m → ∀ q, Tq q tx tk
  | _, _, _, _, _, .nil => fun _ => Tq.nil
  | _, _, _, _, _, .cons (c := c) (xs := xs) (ux := ux) (cx := cx) (uk := uk) (ck := ck) hc hl hx hu h r => fun q => by
    obtain ⟨h1, h2⟩ := TT.tq h
    have g := TC.tq r
    refine Tq.blank ?_ (by simp)
    refine Tq.sign s40.1 s40.2 ?_
    show Tq false (nmL c ++ _) ([nmL c] ++ _)
    exact Tq.app (Tq.name hc) fun _ => Tq.app (tq_names hx _) fun _ => Tq.blank (Tq.sign s58.1 s58.2 (Tq.app (l := 32 :: _) (Tq.blank h1 h2) fun _ => Tq.sign s41.1 s41.2 (g _))) (by simp)
end
/-! ### sizes -/
theorem fit_name {x : Str} (h : isNameD (.str x) = true) : Fit (13 * (nmL x).length) 0 (.str x) := by
  obtain ⟨h1, h8, hl⟩ := nm_cases h
  have e : (nmL x).length = x.length := rfl
  refine (fit_str (n := x.length) (fun c hc => ?_) (Nat.le_refl _)).le (by omega) (Nat.le_refl _)
  have := (ltr_small (hl c hc)).2
  omega
theorem fit_sgn {s : Nat} (h : s < 128) : Fit 13 0 (.str ⟨#[s]⟩) := fit_str (n := 1) (fun c hc => by
  have e : c = s := by simpa using hc
  omega) (Nat.le_refl _)
theorem kind_fitT : ∀ {j : Nat} {d : PyData}, kindW j d = true → Fit (40 * (ktL j d).length) j d
  | 0, _, h => by cases h
  | j + 1, d, h => by
    rcases kd_cases h with ⟨z, rfl, h1, h8, hl⟩ | ⟨s, a, b, rfl, hs, _, ha, hb⟩
    · have q : isNameD (.str z) = true := h
      refine (fit_name q).le ?_ (Nat.zero_le _)
      rw [kt_str]
      have e : z.cps.toList.length = (nmL z).length := rfl
      omega
    · have hsg : Fit 13 j (.str ⟨#[s]⟩) := (fit_sgn (by rcases hs with rfl | rfl <;> decide)).le (Nat.le_refl _) (Nat.zero_le _)
      refine (Fit.tup (.cons hsg (.cons (kind_fitT ha) (.cons (kind_fitT hb) (FitAll.nil (n := 0)))))).le ?_ (Nat.le_refl _)
      rw [kt_tup]
      have h1 : (⟨#[s]⟩ : Str).cps.toList.length = 1 := rfl
      simp only [List.length_cons, List.length_append, List.length_nil, h1]
      omega
theorem fit_namesT : ∀ {xs : List Str}, (∀ x ∈ xs, isNameD (.str x) = true) → FitAll (15 * (blN xs).length) 0 (xs.map strD)
  | [], _ => FitAll.nil.le (Nat.zero_le _) (Nat.le_refl _)
  | x :: xs, h => by
    have g := fit_namesT (xs := xs) fun y hy => h y (List.mem_cons_of_mem _ hy)
    refine (FitAll.cons (fit_name (h x (List.mem_cons_self ..))) g).le ?_ (Nat.le_refl _)
    show _ ≤ 15 * (32 :: (nmL x) ++ blN xs).length
    simp only [List.length_append, List.length_cons]
    omega
theorem sT_small : ∀ s ∈ termS, s < 128 := by decide
mutual
theorem TT.fit : ∀ {n : Nat} {d : PyData} {tx : List Nat} {tk : List (List Nat)} {m : Nat}, TT n d tx tk m → Fit (40 * tx.length) (3 * n + 6) d
  | _, _, _, _, _, .name h => (fit_name h).le (by omega) (Nat.zero_le _)
  | _, _, _, _, _, .df (x := x) h => by
    refine (Fit.tup (.cons (fit_sgn (by decide)) (.cons (fit_name h) (FitAll.nil (n := 0))))).le ?_ (by omega)
    simp only [List.length_cons]
    omega
  | _, _, _, _, _, .lam (n := n) (x := x) (k := k) h hk ht => by
    refine (Fit.tup (m := 3 * n + 6) (.cons ((fit_sgn (by decide)).le (Nat.le_refl _) (Nat.zero_le _)) (.cons ((fit_name h).le (Nat.le_refl _) (Nat.zero_le _)) (.cons ((kind_fitT hk).le (Nat.le_refl _) (by omega)) (.cons (TT.fit ht) (FitAll.nil (n := 0))))))).le ?_ (by omega)
    simp only [List.length_cons, List.length_append, List.length_nil]
    omega
  | _, _, _, _, _, .two (n := n) hs ht hu => by
    refine (Fit.tup (m := 3 * n + 6) (.cons ((fit_sgn (sT_small _ (two_mem hs))).le (Nat.le_refl _) (Nat.zero_le _)) (.cons (TT.fit ht) (.cons (TT.fit hu) (FitAll.nil (n := 0)))))).le ?_ (by omega)
    simp only [List.length_cons, List.length_append, List.length_nil]
    omega
  | _, _, _, _, _, .five (n := n) (x := x) (y := y) hs hx hy hne ht hu => by
    refine (Fit.tup (m := 3 * n + 6) (.cons ((fit_sgn (sT_small _ (five_mem hs))).le (Nat.le_refl _) (Nat.zero_le _)) (.cons (TT.fit ht) (.cons ((fit_name hx).le (Nat.le_refl _) (Nat.zero_le _)) (.cons ((fit_name hy).le (Nat.le_refl _) (Nat.zero_le _)) (.cons (TT.fit hu) (FitAll.nil (n := 0)))))))).le ?_ (by omega)
    simp only [List.length_cons, List.length_append, List.length_nil]
    omega
  | _, _, _, _, _, .mk (n := n) (c := c) h hl ha => by
    refine (Fit.tup (m := 3 * n + 7) (.cons ((fit_sgn (by decide)).le (Nat.le_refl _) (Nat.zero_le _)) (.cons ((fit_name h).le (Nat.le_refl _) (Nat.zero_le _)) (.cons (Fit.tup (TS.fit ha)) (FitAll.nil (n := 0)))))).le ?_ (by omega)
    simp only [List.length_cons, List.length_append, List.length_nil]
    omega
  | _, _, _, _, _, .ch (n := n) ht _ _ ha => by
    refine (Fit.tup (m := 3 * n + 8 + 1 - 1 + 1 - 1) (.cons ((fit_sgn (by decide)).le (Nat.le_refl _) (Nat.zero_le _)) (.cons ((TT.fit ht).le (Nat.le_refl _) (by omega)) (.cons ((Fit.tup (TC.fit ha)).le (Nat.le_refl _) (by omega)) (FitAll.nil (n := 0)))))).le ?_ (by omega)
    simp only [List.length_cons, List.length_append, List.length_nil]
    omega
theorem TS.fit : ∀ {n : Nat} {d : List PyData} {tx : List Nat} {tk : List (List Nat)} {m : Nat}, TS n d tx tk m → FitAll (40 * tx.length) (3 * n + 6) d
  | _, _, _, _, _, .nil => FitAll.nil.le (Nat.zero_le _) (Nat.le_refl _)
  | _, _, _, _, _, .cons h r => by
    refine (FitAll.cons (TT.fit h) (TS.fit r)).le ?_ (Nat.le_refl _)
    simp only [List.length_cons, List.length_append]
    omega
theorem TC.fit : ∀ {n : Nat} {d : List PyData} {tx : List Nat} {tk : List (List Nat)} {m : Nat}, TC n d tx tk m → FitAll (40 * tx.length) (3 * n + 7) d
  | _, _, _, _, _, .nil => FitAll.nil.le (Nat.zero_le _) (Nat.le_refl _)
  | _, _, _, _, _, .cons (n := n) (c := c) (xs := xs) hc hl hx hu h r => by
    refine (FitAll.cons (Fit.tup (m := 3 * n + 6) (.cons ((fit_name hc).le (Nat.le_refl _) (Nat.zero_le _)) (.cons ((Fit.tup (fit_namesT hx)).le (Nat.le_refl _) (by omega)) (.cons (TT.fit h) (FitAll.nil (n := 0)))))) (TC.fit r)).le ?_ (Nat.le_refl _)
    simp only [List.length_cons, List.length_append]
    omega
end
/-! ### how many parts -/
mutual
theorem TT.cnt : ∀ {n : Nat} {d : PyData} {tx : List Nat} {tk : List (List Nat)} {m : Nat}, TT n d tx tk m → 7 * m ≤ 4 * tk.length + 3
  | _, _, _, _, _, .name h => by simp only [List.length_cons, List.length_nil]; omega
  | _, _, _, _, _, .df h => by simp only [List.length_cons, List.length_nil]; omega
  | _, _, _, _, _, .lam h hk ht => by
    have := TT.cnt ht
    simp only [List.length_cons, List.length_append, List.length_nil]
    omega
  | _, _, _, _, _, .two hs ht hu => by
    have := TT.cnt ht
    have := TT.cnt hu
    simp only [List.length_cons, List.length_append, List.length_nil]
    omega
  | _, _, _, _, _, .five hs hx hy hne ht hu => by
    have := TT.cnt ht
    have := TT.cnt hu
    simp only [List.length_cons, List.length_append, List.length_nil]
    omega
  | _, _, _, _, _, .mk h hl ha => by
    have := TS.cnt ha
    simp only [List.length_cons, List.length_append, List.length_nil]
    omega
  | _, _, _, _, _, .ch ht _ _ ha => by
    have := TT.cnt ht
    have := TC.cnt ha
    simp only [List.length_cons, List.length_append, List.length_nil]
    omega
theorem TS.cnt : ∀ {n : Nat} {d : List PyData} {tx : List Nat} {tk : List (List Nat)} {m : Nat}, TS n d tx tk m → 7 * m ≤ 4 * tk.length + 3 * d.length
  | _, _, _, _, _, .nil => by simp
  | _, _, _, _, _, .cons h r => by
    have := TT.cnt h
    have := TS.cnt r
    simp only [List.length_cons, List.length_append]
    omega
theorem TC.cnt : ∀ {n : Nat} {d : List PyData} {tx : List Nat} {tk : List (List Nat)} {m : Nat}, TC n d tx tk m → 7 * m ≤ 4 * tk.length
  | _, _, _, _, _, .nil => by simp
  | _, _, _, _, _, .cons hc hl hx hu h r => by
    have := TT.cnt h
    have := TC.cnt r
    simp only [List.length_cons, List.length_append]
    omega
end
theorem all_names : ∀ {xs : List Str}, (∀ x ∈ xs, isNameD (.str x) = true) → (xs.map strD).all isNameD = true := fun {xs} h => by
  rw [List.all_map, List.all_eq_true]
  exact h
theorem TC.ok : ∀ {n : Nat} {d : List PyData} {tx : List Nat} {tk : List (List Nat)} {m : Nat}, TC n d tx tk m → d.all caseOk = true
  | _, _, _, _, _, .nil => rfl
  | _, _, _, _, _, .cons (c := c) (xs := xs) hc hl hx hu h r => by
    rw [List.all_cons, TC.ok r, Bool.and_true]
    show (isNameD (.str c) && decide ((xs.map strD).length ≤ 4) && (xs.map strD).all isNameD && unlikeN ((xs.map strD).map nmD)) = true
    rw [hc, all_names hx, nm_map, hu, List.length_map, decide_eq_true hl]
    rfl
theorem two_m3 {s : Nat} (h : s = 33 ∨ s = 38 ∨ s = 45) : (⟨#[s]⟩ : Str) ∈ m3 := by
  rcases h with rfl | rfl | rfl
  · exact List.mem_cons_self ..
  · exact List.mem_cons_of_mem _ (List.mem_cons_self ..)
  · exact List.mem_cons_of_mem _ (List.mem_cons_of_mem _ (List.mem_cons_self ..))
theorem five_m2 {s : Nat} (h : s = 47 ∨ s = 43) : (⟨#[s]⟩ : Str) ∈ m2 := by
  rcases h with rfl | rfl
  · exact List.mem_cons_self ..
  · exact List.mem_cons_of_mem _ (List.mem_cons_self ..)
theorem TT.formed : ∀ {n : Nat} {d : PyData} {tx : List Nat} {tk : List (List Nat)} {m : Nat}, TT n d tx tk m → formedD d = true
  | _, _, _, _, _, .name h => h
  | _, _, _, _, _, .df (x := x) h => (fd_at (.str x)).trans h
  | _, _, _, _, _, .lam (x := x) (k := k) (t := t) h hk _ => (fd_lam (.str x) k t).trans (by rw [h, hk]; rfl)
  | _, _, _, _, _, .two (t := t) (u := u) hs _ _ => fd_two (two_m3 hs) t u
  | _, _, _, _, _, .five (x := x) (y := y) (t := t) (u := u) hs hx hy hne _ _ => (fd_five (five_m2 hs) t (.str x) (.str y) u).trans (by
    show (decide (((([PyData.str x, .str y] : List PyData).length : Nat) : Int) ≤ 2) && ((isNameD (.str x) && (isNameD (.str y) && true)) && unlikeN [x, y])) = true
    rw [hx, hy, unlike2, decide_eq_false hne]
    rfl)
  | _, _, _, _, _, .mk (c := c) (ts := ts) h hl _ => (fd_mk (.str c) (.tuple ts)).trans (by
    rw [h, row_ok (by omega) (by omega)]
    rfl)
  | _, _, _, _, _, .ch (t := t) (cs := cs) _ h1 h6 ha => (fd_ch t (.tuple cs)).trans (by
    rw [row_ok (by omega) (by omega)]
    show (true && cs.all caseOk) = true
    rw [TC.ok ha]
    rfl)
theorem kids_chT (t : PyData) (cs : List PyData) : kids (.tuple [.str (sg "?"), t, .tuple cs]) = ([], t) :: cs.map caseD := by
  rw [kids_three, if_neg (by decide +kernel), if_pos rfl]
  rfl
theorem sized_eq {n : Nat} {d : PyData} (h : formedD d = true) : sizedD (n + 1) d = addO (some 1) (sumO ((kids d).map fun k => sizedD n k.2)) := by
  rw [sizedD, if_pos h]
mutual
theorem TT.sized : ∀ {n : Nat} {d : PyData} {tx : List Nat} {tk : List (List Nat)} {m : Nat}, TT n d tx tk m → sizedD n d = some m
  | _, _, _, _, _, .name h => sized_name h
  | _, _, _, _, _, .df (x := x) h => by
    rw [sized_eq (TT.formed (n := 1) (.df h))]
    rfl
  | _, _, _, _, _, .lam (n := n) (x := x) (k := k) (t := t) h hk ht => by
    rw [sized_eq (TT.formed (.lam h hk ht)), kids_lam]
    show addO (some 1) (addO (sizedD n t) (some 0)) = _
    rw [TT.sized ht]
    rfl
  | _, _, _, _, _, .two (n := n) (m := m) (m' := m') (t := t) (u := u) hs ht hu => by
    rw [sized_eq (TT.formed (.two hs ht hu)), kids_two _ _ (two_m3 hs)]
    show addO (some 1) (addO (sizedD n t) (addO (sizedD n u) (some 0))) = _
    rw [TT.sized ht, TT.sized hu]
    show some (1 + (m + (m' + 0))) = _
    congr 1
    omega
  | _, _, _, _, _, .five (n := n) (m := m) (m' := m') (t := t) (u := u) hs hx hy hne ht hu => by
    rw [sized_eq (TT.formed (.five hs hx hy hne ht hu)), kids_five]
    show addO (some 1) (addO (sizedD n t) (addO (sizedD n u) (some 0))) = _
    rw [TT.sized ht, TT.sized hu]
    show some (1 + (m + (m' + 0))) = _
    congr 1
    omega
  | _, _, _, _, _, .mk (n := n) (c := c) (ts := ts) h hl ha => by
    rw [sized_eq (TT.formed (.mk h hl ha))]
    show addO (some 1) (sumO ((kids (.tuple [.str (sg "#"), .str c, .tuple ts])).map fun k => sizedD n k.2)) = _
    rw [kids_mk, List.map_map]
    show addO (some 1) (sumO (ts.map fun t => sizedD n t)) = _
    rw [TS.sized ha]
    rfl
  | _, _, _, _, _, .ch (n := n) (m := m) (m' := m') (t := t) (cs := cs) ht h1 h6 ha => by
    rw [sized_eq (TT.formed (.ch ht h1 h6 ha))]
    show addO (some 1) (sumO ((kids (.tuple [.str (sg "?"), t, .tuple cs])).map fun k => sizedD n k.2)) = _
    rw [kids_chT, List.map_cons, List.map_map]
    show addO (some 1) (addO (sizedD n t) (sumO (cs.map fun c => sizedD n (caseD c).2))) = _
    rw [TT.sized ht, TC.sized ha]
    show some (1 + (m + m')) = _
    congr 1
    omega
theorem TS.sized : ∀ {n : Nat} {d : List PyData} {tx : List Nat} {tk : List (List Nat)} {m : Nat}, TS n d tx tk m → sumO (d.map fun t => sizedD n t) = some m
  | _, _, _, _, _, .nil => rfl
  | _, _, _, _, _, .cons (n := n) (t := t) (ts := ts) h r => by
    show addO (sizedD n t) (sumO (ts.map fun t => sizedD n t)) = _
    rw [TT.sized h, TS.sized r]
    rfl
theorem TC.sized : ∀ {n : Nat} {d : List PyData} {tx : List Nat} {tk : List (List Nat)} {m : Nat}, TC n d tx tk m → sumO (d.map fun c => sizedD n (caseD c).2) = some m
  | _, _, _, _, _, .nil => rfl
  | _, _, _, _, _, .cons (n := n) (u := u) (cs := cs) hc hl hx hu h r => by
    show addO (sizedD n u) (sumO (cs.map fun c => sizedD n (caseD c).2)) = _
    rw [TT.sized h, TC.sized r]
    rfl
end
theorem TT.term {n : Nat} {d : PyData} {tx : List Nat} {tk : List (List Nat)} {m : Nat} (h : TT n d tx tk m) (hn : n ≤ 30) (hk : tk.length ≤ 300) : termD d = true := by
  have h2 := TT.up h hn
  have c := h2.cnt
  show upTo 200 (sizedD 30 d) = true
  rw [h2.sized]
  exact decide_eq_true (by omega)
end Ow

/-! Reading by tokens. -/
namespace Ow
open PySem PySem.Spec PyProof.Rows L2
structure At (x : Str) (n : Nat) (ws : List (List Nat)) : Prop where
  le : n ≤ x.length
  ne : ∀ w ∈ ws, Tkn w
  dr : ∃ q t, Dr q ws (x.cps.toList.drop n) t ∧ ∀ c ∈ t, bl c = true
def headS : List (List Nat) → Str
  | (c :: _) :: _ => ⟨#[c]⟩
  | _ => ""
section
variable {x : Str} {n c : Nat} {w : List Nat} {ws : List (List Nat)}
theorem At.head (h : At x n (w :: ws)) : ∃ c w', w = c :: w' ∧ bl c = false ∧ x.cps.toList[skipN x.cps.toList n]? = some c ∧ skipN x.cps.toList n < x.length ∧
    ∃ r t, x.cps.toList.drop (skipN x.cps.toList n) = w ++ r ∧ Dr (lastL w) ws r t ∧ ∀ c ∈ t, bl c = true := by
  obtain ⟨q, t, hD, ht⟩ := h.dr
  obtain ⟨c, w', rfl, hc⟩ := h.ne w (List.mem_cons_self ..)
  generalize hd : x.cps.toList.drop n = rest at hD
  cases hD with
  | @cons _ w b r t ws hb hs hD =>
    obtain ⟨e1, e2, e3⟩ := skip_at (r := w' ++ r) (by simpa using hd) hb hc
    rw [e1]
    have hl : n + b.length < x.length := (List.getElem?_eq_some_iff.mp e2).1
    refine ⟨c, w', rfl, hc, e2, hl, r, t, ?_, hD, ht⟩
    rw [← List.drop_drop, hd, List.drop_left']
    rfl
theorem At.skip (h : At x n ws) : At x (skipN x.cps.toList n) ws := by
  cases ws with
  | nil =>
    obtain ⟨q, t, hD, ht⟩ := h.dr
    refine ⟨skip_le h.le, h.ne, false, _, .nil, ?_⟩
    generalize hd : x.cps.toList.drop n = rest at hD
    cases hD
    have e := skip_all hd h.le ht
    rw [e, List.drop_eq_nil_of_le (Nat.le_refl _)]
    exact fun c hc => nomatch hc
  | cons w ws =>
    obtain ⟨c, w', _, _, _, hl, r, t, e, hD, ht⟩ := h.head
    refine ⟨Nat.le_of_lt hl, h.ne, false, t, ?_, ht⟩
    rw [e]
    exact Dr.cons (b := []) (fun c hc => nomatch hc) (fun z => nomatch z) hD
theorem At.fin (h : At x n []) : skipN x.cps.toList n = x.length := by
  obtain ⟨q, t, hD, ht⟩ := h.dr
  generalize hd : x.cps.toList.drop n = rest at hD
  cases hD
  exact skip_all hd h.le ht
theorem At.cut (h : At x n ws) : cutS x (some (skipN x.cps.toList n : Int)) (some ((skipN x.cps.toList n : Int) + 1)) = headS ws := by
  cases ws with
  | nil =>
    rw [h.fin, cut_over]
    rfl
  | cons w ws =>
    obtain ⟨c, w', rfl, _, e, _⟩ := h.head
    rw [cut_sign e]
    rfl
theorem At.sign (h : At x n ([c] :: ws)) : x.cps.toList[skipN x.cps.toList n]? = some c ∧ At x (skipN x.cps.toList n + 1) ws := by
  obtain ⟨c', w', e, _, e2, hl, r, t, e3, hD, ht⟩ := h.head
  cases e
  refine ⟨e2, hl, fun w hw => h.ne w (List.mem_cons_of_mem _ hw), lastL [c], t, ?_, ht⟩
  rw [← List.drop_drop, e3]
  exact hD
theorem At.word (h : At x n (w :: ws)) (hw : ∀ c ∈ w, ltr c = true) : nameN x.cps.toList (skipN x.cps.toList n) = w ∧ At x (skipN x.cps.toList n + w.length) ws := by
  obtain ⟨c, w', e, _, e2, hl, r, t, e3, hD, ht⟩ := h.head
  have hne : w ≠ [] := by rw [e]; simp
  have hlast := last_letters hw hne
  have hD2 := hD
  rw [hlast] at hD2
  have hn := hD2.head (fun w hw => (h.ne w (List.mem_cons_of_mem _ hw)).ne) (head_bl ht)
  obtain ⟨g1, g2⟩ := name_is e3 hw hn
  refine ⟨g1, ?_, fun w hw => h.ne w (List.mem_cons_of_mem _ hw), lastL w, t, ?_, ht⟩
  · have := name_len (cs := x.cps.toList) (m := skipN x.cps.toList n) (Nat.le_of_lt hl)
    rw [g1] at this
    exact this
  · rw [g2]
    exact hD
/-- the whole of a dressed text -/
theorem At.start {tk : List (List Nat)} {p : Bool} {t : List Nat} (h : Dr p tk x.cps.toList t) (hn : ∀ w ∈ tk, Tkn w) (ht : ∀ c ∈ t, bl c = true) : At x 0 tk :=
  ⟨Nat.zero_le _, hn, p, t, h, ht⟩
end
theorem MethOk.imp {P : Program} {w : World} {K : PySem.W.Frag} {mg : Str → Option Value} {base : Heap} {k : Nat} {C : Addr} {m : Str} {ps : List Str} {sp sp' : Sp} (M : MethOk P w K mg base k C m ps sp) (h : ∀ vs H Q E, sp' vs H Q E → sp vs H Q E) : MethOk P w K mg base k C m ps sp' := by
  obtain ⟨f, fd, hm, F, hb⟩ := M.ex
  exact ⟨f, fd, hm, F.imp h, hb⟩
/-- a def at a known place -/
structure DefF (K : PySem.W.Frag) (mg : Str → Option Value) (x : Str) (st : Stmt) (ps : List Str) (f : Addr) (fd : FuncData) : Prop where
  F : Fun K x x st f fd
  g : mg x = some (.ref f)
  b : L2.Binds K fd ps []
section
variable {P : Program} {w : World} {K : PySem.W.Frag} {mg : Str → Option Value} {base : Heap} {x : Str} {st : Stmt} {N ps : List Str} {k j : Nat} {sp sp' : Sp} {f : Addr} {fd : FuncData}
theorem DefF.at (D : DefF K mg x st ps f fd) : DefAt K mg x st ps := ⟨f, fd, D.F, D.g, D.b⟩
theorem DefF.call (D : DefF K mg x st ps f fd) (h : FnOk P w K mg base CX0 k f fd ps sp) : CallOk P w K mg base k x ps sp := ⟨f, fd, h, D.g, D.F.kp, D.b⟩
theorem DefF.held (D : DefF K mg x st ps f fd) (h : FnOk P w K mg base CX0 k f fd ps sp) : Held P w K mg base k f sp := ⟨fd, ps, h, D.F.kp, D.b⟩
theorem DefF.gv (D : DefF K mg x st ps f fd) : GV mg x (.ref f) := ⟨_, D.g, rfl⟩
theorem DefF.ok (D : DefF K mg x st ps f fd) (S : FnScope N ps (defScope st)) (len : ∀ vs H Q E, sp vs H Q E → vs.length = ps.length)
    (hbody : ∀ (cdv : Value) (A : Around) (outer : List Env) (s : Shared) (H : Hp) (vs : List V) (Q : VK) (E : XK), Room k (A.deeper (envOfC x (defScope st) s.heap.objs.size f cdv)) → sp vs H Q E →
      ∃ t, PSs (cxOf CX0 P w K mg base N x (defScope st) f cdv A outer s H E).nox (defBody st) t ∧ t { nx := fun _ H' => Q .non H', rt := Q } (start N vs) H) : FnOk P w K mg base CX0 (k + 1) f fd ps sp :=
  D.F.ok S len fun cdv A outer s H vs Q E hr h => hbody cdv A outer s H vs Q E hr h
theorem DefF.none (D : DefF K mg x st ps f fd) (S : FnScope N ps (defScope st)) : FnOk P w K mg base CX0 1 f fd ps (fun _ _ _ _ => False) :=
  D.ok S (fun _ _ _ _ h => h.elim) fun _ _ _ _ _ _ _ _ _ h => h.elim
end
/-- a call of what a slot holds, whatever def that is -/
def tCallH (P : Program) (w : World) (K : PySem.W.Frag) (mg : Str → Option Value) (base : Heap) (k : Nat) (i : Nat) (t : TA) : TE := fun σ H Q => ∃ f sp, σ[i]? = some (some (.ref f)) ∧ Held P w K mg base k f sp ∧ t σ H fun vs H1 => sp vs H1 Q (fun _ _ _ => False)
section
variable {X : Cx} {k j i : Nat} {x : Str} {p pos : Pos} {e : Expr} {es : List Expr} {t : TA}
theorem pe_callH (hr : Room j X.A) (hj : k ≤ j) (hN : X.N[i]? = some x) (hv : Vis X.env.scope x) (ha : PA X (e :: es) t)
    (hdb : (x == ("__debug__" : Str)) = false := by decide) (hcd : (x == ("__classdict__" : Str)) = false := by decide)
    (he : starEach (e :: es) X.env = (false, eval e X.env) :: starEach es X.env := by rfl) (hpl : (backTo pos (starEach es X.env)).any (·.1) = false := by rfl) : PE X (.Call (.Name x p) (e :: es) [] pos) (tCallH X.prog X.w X.K X.mg X.base k i t) := by
  refine ⟨fun pins s σ H Q I h => ?_⟩
  obtain ⟨f, sp, hs, hH, ht⟩ := h
  obtain ⟨fd, ps, F, hk, hb⟩ := hH.ex
  refine (pe_callL (i := i) (f := f) (sp := sp) (dvs := []) (E := fun _ _ _ => False) F (hr.mono hj) hN hv hk hb .nil (fun _ _ _ _ _ _ _ z => z.elim) ha hdb hcd he hpl).run pins s σ H Q I ⟨hs, ?_⟩
  have e0 : (fun (vs : List V) (H1 : Hp) => sp (vs ++ []) H1 Q (fun _ _ _ => False)) = fun vs H1 => sp vs H1 Q (fun _ _ _ => False) := by
    funext vs H1
    rw [List.append_nil]
  show t σ H (fun vs H1 => sp (vs ++ []) H1 Q (fun _ _ _ => False))
  rw [e0]
  exact ht
end
/-! ### what the readers promise -/
def spPeekT (C : Addr) : Sp := fun vs H Q _ => ∃ (r : Addr) (x : Str) (n : Nat) (ws : List (List Nat)), vs = [.ref r] ∧ RdAt C H r x n ∧ x.length ≤ 1000000 ∧ At x n ws ∧
  ∀ (n' : Nat) (H' : Hp), RdAt C H' r x n' → At x n' ws → Kp r H H' → Q (.str (headS ws)) H'
def spTakeT (C : Addr) : Sp := fun vs H Q _ => ∃ (r : Addr) (x z : Str) (n c : Nat) (ws : List (List Nat)), vs = [.ref r, .str z] ∧ RdAt C H r x n ∧ x.length ≤ 1000000 ∧ At x n ([c] :: ws) ∧ c ∈ z.cps.toList ∧
  ∀ (n' : Nat) (H' : Hp), RdAt C H' r x n' → At x n' ws → Kp r H H' → Q (.str ⟨#[c]⟩) H'
def spNameT (C : Addr) : Sp := fun vs H Q _ => ∃ (r : Addr) (x z : Str) (n : Nat) (ws : List (List Nat)), vs = [.ref r] ∧ RdAt C H r x n ∧ x.length ≤ 1000000 ∧ At x n (nmL z :: ws) ∧ isNameD (.str z) = true ∧
  ∀ (n' : Nat) (H' : Hp), RdAt C H' r x n' → At x n' ws → Kp r H H' → Q (.str z) H'
def spFinT (C : Addr) : Sp := fun vs H Q _ => ∃ (r : Addr) (x : Str) (n : Nat), vs = [.ref r] ∧ RdAt C H r x n ∧ x.length ≤ 1000000 ∧ At x n [] ∧
  ∀ H' : Hp, RdAt C H' r x x.length → Kp r H H' → Q .non H'
/-- a reader of one thing, by its tokens -/
def Rd1 (K : PySem.W.Frag) (C : Addr) (R : PyData → List (List Nat) → Prop) (F : List (List Nat) → Prop) : Sp := fun vs H Q _ => ∃ (r : Addr) (x : Str) (n : Nat) (d : PyData) (tk ws : List (List Nat)), vs = [.ref r] ∧ RdAt C H r x n ∧ x.length ≤ 1000000 ∧ R d tk ∧ F ws ∧ At x n (tk ++ ws) ∧
  ∀ (v : V) (n' : Nat) (H' : Hp), Da K All H' v d → RdAt C H' r x n' → At x n' ws → Kp r H H' → Q v H'
abbrev FAny : List (List Nat) → Prop := fun _ => True
abbrev FEnd : List (List Nat) → Prop := fun ws => ∃ ws', ws = [41] :: ws'
def RName : PyData → List (List Nat) → Prop := fun d tk => ∃ x : Str, isNameD (.str x) = true ∧ d = .str x ∧ tk = [nmL x]
def RKind : PyData → List (List Nat) → Prop := fun d tk => kindW 6 d = true ∧ tk = toks 6 d
def RTerm (k : Nat) : PyData → List (List Nat) → Prop := fun d tk => ∃ tx m, TT k d tx tk m
def RTerms (k : Nat) : PyData → List (List Nat) → Prop := fun d tk => ∃ ts tx m, d = .tuple ts ∧ ts.length ≤ 100 ∧ TS k ts tx tk m
def RCase (k : Nat) : PyData → List (List Nat) → Prop := fun d tk => ∃ (c : Str) (xs : List Str) (u : PyData) (ux : List Nat) (uk : List (List Nat)) (m : Nat), isNameD (.str c) = true ∧ xs.length ≤ 4 ∧ (∀ x ∈ xs, isNameD (.str x) = true) ∧ TT k u ux uk m ∧
  d = .tuple [.str c, .tuple (xs.map strD), u] ∧ tk = [40] :: nmL c :: (xs.map nmL ++ [58] :: (uk ++ [[41]]))
def RCases (k : Nat) : PyData → List (List Nat) → Prop := fun d tk => ∃ cs tx m, d = .tuple cs ∧ 1 ≤ cs.length ∧ cs.length ≤ 100 ∧ TC k cs tx tk m
theorem peekT {C : Addr} : ∀ vs H Q E, spPeekT C vs H Q E → spPeek C vs H Q E := fun vs H Q E ⟨r, x, n, ws, e, h0, hx, hA, k⟩ =>
  ⟨r, x, n, e, h0, hA.le, hx, fun H' h1 k1 => by
    rw [hA.cut]
    exact k _ H' h1 hA.skip k1⟩
theorem takeT {C : Addr} : ∀ vs H Q E, spTakeT C vs H Q E → spTake C vs H Q E := fun vs H Q E ⟨r, x, z, n, c, ws, e, h0, hx, hA, hc, k⟩ =>
  ⟨r, x, z, n, c, e, h0, hA.le, hx, hA.sign.1, hc, fun H' h1 k1 => k _ H' h1 hA.sign.2 k1⟩
theorem nameT {C : Addr} : ∀ vs H Q E, spNameT C vs H Q E → spTakeName C vs H Q E := fun vs H Q E ⟨r, x, z, n, ws, e, h0, hx, hA, hz, k⟩ => by
  obtain ⟨h1, h8, hl⟩ := nm_cases hz
  obtain ⟨e1, hA2⟩ := hA.word hl
  refine ⟨r, x, n, e, h0, hA.le, hx, ?_, ?_, fun H' h2 k2 => ?_⟩
  · rw [e1]
    exact h1
  · rw [e1]
    exact h8
  · rw [e1] at h2 ⊢
    rw [← str_of]
    exact k _ H' h2 hA2 k2
theorem finT {C : Addr} : ∀ vs H Q E, spFinT C vs H Q E → spFinish C vs H Q E := fun vs H Q E ⟨r, x, n, e, h0, hx, hA, k⟩ => ⟨r, x, n, e, h0, hA.le, hx, hA.fin, k⟩
theorem kindT {K : PySem.W.Frag} {C : Addr} : ∀ vs H Q E, Rd1 K C RKind FAny vs H Q E → spSigns K C 6 vs H Q E := fun vs H Q E ⟨r, x, n, d, tk, ws, e, h0, hx, ⟨hk, etk⟩, _, hA, k⟩ => by
  subst etk
  obtain ⟨q, t, hD, ht⟩ := hA.dr
  have hne : ∀ w ∈ ws, Tkn w := fun w hw => hA.ne w (List.mem_append_right _ hw)
  obtain ⟨q2, r', hW, hD2⟩ := Dr.wr hk hD (fun w hw => (hne w hw).ne) (head_bl ht)
  refine ⟨r, x, n, d, r', e, h0, hA.le, hx, hW, hk, fun v e H' hv h1 le e2 k1 => k v e H' hv h1 ⟨le, hne, q2, t, by rw [e2]; exact hD2, ht⟩ k1⟩
/-! ### what a list of things is read by, up to a sign -/
inductive RS (R : PyData → List (List Nat) → Prop) (c : Nat) : List PyData → List (List Nat) → Prop
  | nil : RS R c [] []
  | cons {d : PyData} {ds : List PyData} {tk tks : List (List Nat)} (h : R d tk) (hh : ∃ a w tk', tk = (a :: w) :: tk' ∧ a ≠ c) (r : RS R c ds tks) : RS R c (d :: ds) (tk ++ tks)
def spUntil (K : PySem.W.Frag) (C f : Addr) (R : PyData → List (List Nat) → Prop) (c : Nat) : Sp := fun vs H Q _ => ∃ (r : Addr) (x : Str) (n : Nat) (ds : List PyData) (tks ws : List (List Nat)), vs = [.ref r, .ref f, .str ⟨#[c]⟩] ∧ RdAt C H r x n ∧ x.length ≤ 1000000 ∧ RS R c ds tks ∧ ds.length ≤ 1000 ∧ At x n (tks ++ [c] :: ws) ∧
  ∀ (t : Addr) (xs : List V) (n' : Nat) (H' : Hp), SqT K H' t xs → DaAll K All H' xs ds → RdAt C H' r x n' → At x n' ([c] :: ws) → Kp r H H' → Q (.ref t) H'
theorem tt_head : ∀ {n : Nat} {d : PyData} {tx : List Nat} {tk : List (List Nat)} {m : Nat}, TT n d tx tk m → ∃ a w tk', tk = (a :: w) :: tk' ∧ (ltr a = true ∨ a = 64 ∨ a = 40)
  | _, _, _, _, _, .name (x := x) h => by
    obtain ⟨h1, _, hl⟩ := nm_cases h
    cases e : nmL x with
    | nil =>
      have z : (nmL x).length = x.length := rfl
      rw [e] at z
      have : x.length = 0 := z.symm
      omega
    | cons a w => exact ⟨a, w, [], rfl, .inl (hl a (by rw [e]; exact List.mem_cons_self ..))⟩
  | _, _, _, _, _, .df h => ⟨64, [], _, rfl, .inr (.inl rfl)⟩
  | _, _, _, _, _, .lam .. => ⟨40, [], _, rfl, .inr (.inr rfl)⟩
  | _, _, _, _, _, .two .. => ⟨40, [], _, rfl, .inr (.inr rfl)⟩
  | _, _, _, _, _, .five .. => ⟨40, [], _, rfl, .inr (.inr rfl)⟩
  | _, _, _, _, _, .mk .. => ⟨40, [], _, rfl, .inr (.inr rfl)⟩
  | _, _, _, _, _, .ch .. => ⟨40, [], _, rfl, .inr (.inr rfl)⟩
theorem head41 {a : Nat} (h : ltr a = true ∨ a = 64 ∨ a = 40) : a ≠ 41 := by
  rintro rfl
  rcases h with h | h | h
  · rw [s41.1] at h
    cases h
  · cases h
  · cases h
theorem rs_terms {k : Nat} : ∀ {ts : List PyData} {tx : List Nat} {tk : List (List Nat)} {m : Nat}, TS k ts tx tk m → RS (RTerm k) 41 ts tk
  | _, _, _, _, .nil => .nil
  | _, _, _, _, .cons h r => by
    obtain ⟨a, w, tk', e, ha⟩ := tt_head h
    exact .cons ⟨_, _, h⟩ ⟨a, w, tk', e, head41 ha⟩ (rs_terms r)
theorem rs_cases {k : Nat} : ∀ {ts : List PyData} {tx : List Nat} {tk : List (List Nat)} {m : Nat}, TC k ts tx tk m → RS (RCase k) 41 ts tk
  | _, _, _, _, .nil => .nil
  | _, _, _, _, .cons (c := c) (xs := xs) (uk := uk) (ck := ck) hc hl hx hu h r => by
    have e : [40] :: nmL c :: (xs.map nmL ++ [58] :: (uk ++ [41] :: ck)) = ([40] :: nmL c :: (xs.map nmL ++ [58] :: (uk ++ [[41]]))) ++ ck := by simp
    rw [e]
    exact .cons ⟨c, xs, _, _, uk, _, hc, hl, hx, h, rfl, rfl⟩ ⟨40, [], _, rfl, by decide⟩ (rs_cases r)
theorem rs_names {c : Nat} (hc : ltr c = false) : ∀ {xs : List Str}, (∀ x ∈ xs, isNameD (.str x) = true) → RS RName c (xs.map strD) (xs.map nmL)
  | [], _ => .nil
  | x :: xs, h => by
    have hx := h x (List.mem_cons_self ..)
    obtain ⟨_, _, hl⟩ := nm_cases hx
    obtain ⟨a, w, tk', e, _⟩ := tt_head (n := 1) (.name hx)
    injection e with e1 e2
    refine RS.cons (tk := [nmL x]) (tks := xs.map nmL) ⟨x, hx, rfl, rfl⟩ ⟨a, w, [], by rw [e1], fun z => ?_⟩ (rs_names hc fun y hy => h y (List.mem_cons_of_mem _ hy))
    have hla : ltr a = true := hl a (by rw [e1]; exact List.mem_cons_self ..)
    rw [z, hc] at hla
    cases hla
/-! ### what stands in a term, slot by slot -/
inductive SlR (k : Nat) : Str → PyData → List Nat → List (List Nat) → Prop
  | name {x : Str} (h : isNameD (.str x) = true) : SlR k (sg "name") (.str x) (32 :: nmL x) [nmL x]
  | kind {d : PyData} (h : kindW 6 d = true) : SlR k (sg "kind") d (32 :: ktL 6 d) (toks 6 d)
  | term {d : PyData} {tx : List Nat} {tk : List (List Nat)} {m : Nat} (h : TT k d tx tk m) : SlR k (sg "term") d (32 :: tx) tk
  | terms {ts : List PyData} {tx : List Nat} {tk : List (List Nat)} {m : Nat} (hl : ts.length ≤ 4) (h : TS k ts tx tk m) : SlR k (sg "terms") (.tuple ts) tx tk
  | cases {cs : List PyData} {tx : List Nat} {tk : List (List Nat)} {m : Nat} (h1 : 1 ≤ cs.length) (h6 : cs.length ≤ 6) (h : TC k cs tx tk m) : SlR k (sg "cases") (.tuple cs) tx tk
inductive Sl (k : Nat) : List Str → List PyData → List Nat → List (List Nat) → Prop
  | nil : Sl k [] [] [41] [[41]]
  | cons {s : Str} {sl : List Str} {d : PyData} {ds : List PyData} {tx sx : List Nat} {tk sk : List (List Nat)} (h : SlR k s d tx tk) (f : s = sg "terms" ∨ s = sg "cases" → sk = [[41]]) (r : Sl k sl ds sx sk) : Sl k (s :: sl) (d :: ds) (tx ++ sx) (tk ++ sk)
theorem no_tc {s : Str} {sk : List (List Nat)} (h : (decide (s = sg "terms") || decide (s = sg "cases")) = false) : s = sg "terms" ∨ s = sg "cases" → sk = [[41]] := fun z => by
  rw [Bool.or_eq_false_iff, decide_eq_false_iff_not, decide_eq_false_iff_not] at h
  exact z.elim (fun z => absurd z h.1) (fun z => absurd z h.2)
theorem TT.parts {k : Nat} {d : PyData} {tx : List Nat} {tk : List (List Nat)} {m : Nat} (h : TT (k + 1) d tx tk m) :
    (∃ x : Str, isNameD (.str x) = true ∧ d = .str x ∧ tx = nmL x ∧ tk = [nmL x]) ∨ (∃ x : Str, isNameD (.str x) = true ∧ d = .tuple [.str ⟨#[64]⟩, .str x] ∧ tx = 64 :: nmL x ∧ tk = [[64], nmL x]) ∨
      ∃ (s : Nat) (sl : List Str) (ds : List PyData) (sx : List Nat) (sk : List (List Nat)), d = .tuple (.str ⟨#[s]⟩ :: ds) ∧ s ∈ termS ∧ formOf ⟨#[s]⟩ = some sl ∧ Sl k sl ds sx sk ∧ tx = 40 :: s :: sx ∧ tk = [40] :: [s] :: sk := by
  cases h with
  | name h => exact .inl ⟨_, h, rfl, rfl, rfl⟩
  | df h => exact .inr (.inl ⟨_, h, rfl, rfl, rfl⟩)
  | lam h hk ht => exact .inr (.inr ⟨94, _, _, _, _, rfl, by decide, f_lam, .cons (.name h) (no_tc (by decide +kernel)) (.cons (.kind hk) (no_tc (by decide +kernel)) (.cons (.term ht) (no_tc (by decide +kernel)) .nil)), rfl, rfl⟩)
  | two hs ht hu => exact .inr (.inr ⟨_, _, _, _, _, rfl, two_mem hs, f_two (two_m3 hs), .cons (.term ht) (no_tc (by decide +kernel)) (.cons (.term hu) (no_tc (by decide +kernel)) .nil), rfl, rfl⟩)
  | five hs hx hy hne ht hu => exact .inr (.inr ⟨_, _, _, _, _, rfl, five_mem hs, f_five (five_m2 hs), .cons (.term ht) (no_tc (by decide +kernel)) (.cons (.name hx) (no_tc (by decide +kernel)) (.cons (.name hy) (no_tc (by decide +kernel)) (.cons (.term hu) (no_tc (by decide +kernel)) .nil))), rfl, rfl⟩)
  | mk h hl ha => exact .inr (.inr ⟨35, _, _, _, _, rfl, by decide, f_mk, .cons (.name h) (no_tc (by decide +kernel)) (.cons (.terms hl ha) (fun _ => rfl) .nil), rfl, rfl⟩)
  | ch ht h1 h6 ha => exact .inr (.inr ⟨63, _, _, _, _, rfl, by decide, f_ch, .cons (.term ht) (no_tc (by decide +kernel)) (.cons (.cases h1 h6 ha) (fun _ => rfl) .nil), rfl, rfl⟩)
theorem Sl.len {k : Nat} : ∀ {sl : List Str} {ds : List PyData} {sx : List Nat} {sk : List (List Nat)}, Sl k sl ds sx sk → sl.length = ds.length
  | _, _, _, _, .nil => rfl
  | _, _, _, _, .cons _ _ r => by rw [List.length_cons, List.length_cons, r.len]
/-- the readers, as the module keeps them by slots -/
structure Rds (K : PySem.W.Frag) (w : World) (d fN fK fT fS fC : Addr) : Prop where
  dict : ∃ es n, KDict K w d es n
  name : PySem.W.nsIn K d (sg "name") = some (some (.ref fN))
  kind : PySem.W.nsIn K d (sg "kind") = some (some (.ref fK))
  term : PySem.W.nsIn K d (sg "term") = some (some (.ref fT))
  terms : PySem.W.nsIn K d (sg "terms") = some (some (.ref fS))
  cases : PySem.W.nsIn K d (sg "cases") = some (some (.ref fC))
end Ow

/-! Texts of terms, piece by piece. -/
namespace Ow
open PySem PySem.Spec PyProof.Rows L2
theorem glue_gen (a : Str) : ∀ (ts : List Str) (z : Array Nat), (ts.foldl (fun acc p => acc ++ a.cps ++ p.cps) z).toList = z.toList ++ ts.flatMap fun x => nmL a ++ nmL x
  | [], z => by simp
  | t :: ts, z => by
    rw [List.foldl_cons, glue_gen a ts, List.flatMap_cons]
    simp
theorem join_gen (a t : Str) (ts : List Str) : nmL (Txt.join a (t :: ts)) = nmL t ++ ts.flatMap fun x => nmL a ++ nmL x := glue_gen a ts t.cps
theorem join_all (ts : List Str) : nmL (Txt.join "" ts) = ts.flatMap nmL := by
  cases ts with
  | nil => rfl
  | cons t ts =>
    rw [join_gen, List.flatMap_cons]
    rfl
theorem join_sp (t : Str) (ts : List Str) : nmL (Txt.join " " (t :: ts)) = nmL t ++ blN ts := join_gen " " t ts
theorem sum_flat : ∀ ts : List Str, (ts.map (·.length)).sum = (ts.flatMap nmL).length
  | [] => rfl
  | t :: ts => by
    rw [List.map_cons, List.sum_cons, List.flatMap_cons, List.length_append, sum_flat ts]
    rfl
theorem bl_len : ∀ ts : List Str, (blN ts).length = (ts.map (·.length)).sum + ts.length
  | [] => rfl
  | t :: ts => by
    show (32 :: (nmL t) ++ blN ts).length = _
    have e : (nmL t).length = t.length := rfl
    rw [List.map_cons, List.sum_cons, List.length_append, List.length_cons, List.length_cons, bl_len ts, e]
    omega
theorem str_mk (l : List Nat) : nmL ⟨l.toArray⟩ = l := by simp
theorem len_mk (l : List Nat) : (⟨l.toArray⟩ : Str).length = l.length := by
  show l.toArray.size = l.length
  simp
/-- texts and terms in a row, what they write together, how much there is to do -/
inductive Els (K : PySem.W.Frag) (N : Addr → Prop) (H0 : Hp) : List V → List Nat → Nat → Prop
  | nil : Els K N H0 [] [] 0
  | str {z : Str} {us : List V} {l : List Nat} {w : Nat} (hz : 1 ≤ z.length) (r : Els K N H0 us l w) : Els K N H0 (.str z :: us) (nmL z ++ l) (z.length + w)
  | trm {v : V} {k : Nat} {d : PyData} {tx : List Nat} {tk : List (List Nat)} {m : Nat} {us : List V} {l : List Nat} {w : Nat} (hd : Da K N H0 v d) (hT : TT k d tx tk m) (r : Els K N H0 us l w) : Els K N H0 (v :: us) (tx ++ l) (2 * tx.length + w)
section
variable {K : PySem.W.Frag} {N : Addr → Prop} {H0 : Hp}
theorem Els.app : ∀ {us : List V} {l : List Nat} {w : Nat}, Els K N H0 us l w → ∀ {us' : List V} {l' : List Nat} {w' : Nat}, Els K N H0 us' l' w' → Els K N H0 (us ++ us') (l ++ l') (w + w')
  | _, _, _, .nil, _, _, _, g => by
    rw [Nat.zero_add]
    exact g
  | _, _, _, .str (z := z) (l := l) (w := w) hz r, _, l', w', g => by
    rw [List.append_assoc, Nat.add_assoc]
    exact .str hz (r.app g)
  | _, _, _, .trm hd hT r, _, _, _, g => by
    rw [List.append_assoc, Nat.add_assoc]
    exact .trm hd hT (r.app g)
theorem tt_pos {k : Nat} {d : PyData} {tx : List Nat} {tk : List (List Nat)} {m : Nat} (h : TT k d tx tk m) : 1 ≤ tx.length := by
  cases h with
  | name h => exact (nm_cases h).1
  | _ => simp
theorem Els.le : ∀ {us : List V} {l : List Nat} {w : Nat}, Els K N H0 us l w → w ≤ 2 * l.length ∧ us.length ≤ w
  | _, _, _, .nil => ⟨Nat.le_refl _, Nat.le_refl _⟩
  | _, _, _, .str (z := z) hz r => by
    obtain ⟨h1, h2⟩ := r.le
    have e : (nmL z).length = z.length := rfl
    rw [List.length_append, List.length_cons, e]
    omega
  | _, _, _, .trm hd hT r => by
    obtain ⟨h1, h2⟩ := r.le
    have := tt_pos hT
    rw [List.length_append, List.length_cons]
    omega
end
theorem el_name {K : PySem.W.Frag} {N : Addr → Prop} {H0 : Hp} {z : Str} (h : isNameD (.str z) = true) : Els K N H0 [.str z] (nmL z) z.length := by
  have := Els.str (K := K) (N := N) (H0 := H0) (z := z) (nm_cases h).1 .nil
  rw [List.append_nil] at this
  exact this
def spSpelled (K : PySem.W.Frag) : Sp := fun vs H Q _ => ∃ (N : Addr → Prop) (H0 : Hp) (v : V) (k : Nat) (d : PyData) (tx : List Nat) (tk : List (List Nat)) (m : Nat), vs = [v] ∧ Same H0 H ∧ Da K N H0 v d ∧ TT k d tx tk m ∧ tyD d ≠ "str" ∧ tx.length ≤ 1000000 ∧
  ∀ (L : Addr) (us : List V) (w : Nat) (H' : Hp), Same H H' → H L = none → H' L = some (.lst us) → Els K N H0 us tx w → w < 2 * tx.length → Q (.ref L) H'
def spTText (K : PySem.W.Frag) : Sp := fun vs H Q _ => ∃ (N : Addr → Prop) (v : V) (k : Nat) (d : PyData) (tx : List Nat) (tk : List (List Nat)) (m : Nat), vs = [v] ∧ Da K N H v d ∧ TT k d tx tk m ∧ tx.length ≤ 1000000 ∧ ∀ H', Same H H' → Q (.str ⟨tx.toArray⟩) H'
def spTextWith (K : PySem.W.Frag) : Sp := fun vs H Q _ => ∃ (N : Addr → Prop) (v : V) (u : Str) (k : Nat) (d : PyData) (tx : List Nat) (tk : List (List Nat)) (m : Nat), vs = [v, .str u] ∧ Da K N H v d ∧ TT k d tx tk m ∧ tx.length ≤ 1000000 ∧ ∀ H', Same H H' → Q (.str ⟨tx.toArray⟩) H'
theorem tt_not_none {K : PySem.W.Frag} {N : Addr → Prop} {H : Hp} {v : V} {k : Nat} {d : PyData} {tx : List Nat} {tk : List (List Nat)} {m : Nat} (hT : TT k d tx tk m) (hd : Da K N H v d) : v ≠ .non := by
  rintro rfl
  cases hd
  cases hT
theorem tt_ty {k : Nat} {d : PyData} {tx : List Nat} {tk : List (List Nat)} {m : Nat} (hT : TT k d tx tk m) : (∃ x, d = .str x ∧ tx = nmL x ∧ isNameD (.str x) = true) ∨ tyD d ≠ "str" := by
  cases hT with
  | name h => exact .inl ⟨_, rfl, rfl, h⟩
  | _ => exact .inr (by simp [tyD])
end Ow

/-! Drawn names that none of some has; drawn terms' promises. -/
namespace Ow
open PySem PySem.Spec PyProof.Rows L2
theorem pigeon : ∀ (cs gs : List Str), cs.Nodup → (∀ c ∈ cs, c ∈ gs) → cs.length ≤ gs.length
  | [], _, _, _ => Nat.zero_le _
  | c :: cs, gs, hn, h => by
    have hc := h c (List.mem_cons_self ..)
    rw [List.nodup_cons] at hn
    have ih := pigeon cs (gs.erase c) hn.2 fun d hd => by
      have hne : d ≠ c := fun e => hn.1 (e ▸ hd)
      exact (List.mem_erase_of_ne hne).mpr (h d (List.mem_cons_of_mem _ hd))
    rw [List.length_erase_of_mem hc] at ih
    have : 0 < gs.length := List.length_pos_of_mem hc
    rw [List.length_cons]
    omega
/-- the name that is tried at turn k -/
def cand (front : Str) (k : Nat) : Str := (front ++ (⟨#[97 + k / 26 % 26]⟩ : Str)) ++ (⟨#[97 + k % 26]⟩ : Str)
theorem cand_inj {front : Str} {j k : Nat} (hj : j < 676) (hk : k < 676) (h : cand front j = cand front k) : j = k := by
  have e : (cand front j).cps.toList = (cand front k).cps.toList := congrArg (fun z : Str => z.cps.toList) h
  unfold cand at e
  rw [app_list, app_list, app_list, app_list, List.append_assoc, List.append_assoc] at e
  have e2 := List.append_cancel_left e
  have e3 : [97 + j / 26 % 26, 97 + j % 26] = [97 + k / 26 % 26, 97 + k % 26] := e2
  injection e3 with a b
  injection b with b _
  omega
theorem abc_atN {n : Nat} (h : n < 26) : atI abc.cps.toList (n : Int) = some (97 + n) := by
  refine atI_nat ?_
  rw [abc_list, List.getElem?_map, List.getElem?_range h]
  rfl
/-- what is known of the name behind so many turns -/
def UnI (gs : List Str) (front : Str) (i : Nat) (y : Str) : Prop := y ∉ gs ∨ ((∀ j, j + 1 < i → cand front j ∈ gs) ∧ ∀ j, j + 1 = i → y = cand front j)
theorem UnI.step {gs : List Str} {front y : Str} {i : Nat} (h : UnI gs front i y) (hy : y ∈ gs) : UnI gs front (i + 1) (cand front i) := by
  rcases h with h | ⟨h1, h2⟩
  · exact absurd hy h
  · refine .inr ⟨fun j hj => ?_, fun j hj => ?_⟩
    · by_cases e : j + 1 = i
      · rw [← h2 j e]
        exact hy
      · exact h1 j (by omega)
    · have : j = i := by omega
      rw [this]
theorem UnI.fin {gs : List Str} {front y : Str} (h : UnI gs front (gs.length + 1) y) (hl : gs.length ≤ 600) : y ∉ gs := by
  intro hy
  rcases h with h | ⟨h1, h2⟩
  · exact h hy
  · have e := h2 gs.length rfl
    have hn : ((List.range (gs.length + 1)).map (cand front)).Nodup := by
      have z : ∀ n, n ≤ 676 → ((List.range n).map (cand front)).Nodup := by
        intro n
        induction n with
        | zero => intro _; exact List.nodup_nil
        | succ n ih =>
          intro hn
          rw [List.range_succ, List.map_append, List.nodup_append]
          refine ⟨ih (by omega), by simp, ?_⟩
          intro a ha b hb e
          obtain ⟨j, hj, rfl⟩ := List.mem_map.mp ha
          rw [List.mem_range] at hj
          have eb : b = cand front n := by simpa using hb
          have := cand_inj (by omega) (by omega) (e.trans eb)
          omega
      exact z _ (by omega)
    have := pigeon _ gs hn fun c hc => by
      obtain ⟨j, hj, rfl⟩ := List.mem_map.mp hc
      rw [List.mem_range] at hj
      by_cases ej : j = gs.length
      · rw [ej, ← e]
        exact hy
      · exact h1 j (by omega)
    rw [List.length_map, List.length_range] at this
    omega
def spNameU : Sp := fun vs H Q _ => ∃ (p c g : Addr) (gs : List Str), vs = [.ref p, .ref g] ∧ Pen H p c ∧ H g = some (.lst (gs.map V.str)) ∧ g ≠ p ∧ gs.length ≤ 600 ∧
  ∀ (x : Str) (H' : Hp), Nm x → x ∉ gs → Pen H' p c → Kp p H H' → Q (.str x) H'
theorem nameU : ∀ vs H Q E, spName vs H Q E → spNameU vs H Q E := fun vs H Q E ⟨p, c, g, gs, e, hP, hG, n, l, k⟩ => ⟨p, c, g, gs, e, hP, hG, n, l, fun x H' hx _ => k x H' hx⟩
theorem dd_snoc {xs : List Str} {x : Str} (h : dd [] xs = xs) (hx : x ∉ xs) : dd [] (xs ++ [x]) = xs ++ [x] := by
  rw [dd_app, h, dd_one, if_neg hx]
theorem dd_unlike {xs : List Str} (h : dd [] xs = xs) : unlikeN xs = true := by
  unfold unlikeN
  rw [h]
  simp
def spUnl (K : PySem.W.Frag) : Sp := fun vs H Q _ => ∃ (p c : Addr) (z : Int), vs = [.ref p, .int z] ∧ 0 ≤ z ∧ z ≤ 100 ∧ Pen H p c ∧
  ∀ (t : Addr) (xs : List Str) (H' : Hp), SqT K H' t (xs.map V.str) → (xs.length : Int) = z → (∀ x ∈ xs, Nm x) → dd [] xs = xs → Pen H' p c → Kp p H H' → Q (.ref t) H'
/-- how long the text of a drawn term is at most -/
def bX : Nat → Nat
  | 0 => 10
  | n + 1 => 7 * bX n + 500
theorem bX_ge : ∀ n, 10 ≤ bX n
  | 0 => Nat.le_refl _
  | n + 1 => by
    have := bX_ge n
    show 10 ≤ 7 * bX n + 500
    omega
def spAnyT (K : PySem.W.Frag) (j : Nat) : Sp := fun vs H Q _ => ∃ (p c : Addr) (z : Int), vs = [.ref p, .int z] ∧ z ≤ (j + 1 : Nat) ∧ -100 ≤ z ∧ j ≤ 20 ∧ Pen H p c ∧
  ∀ (v : V) (d : PyData) (tx : List Nat) (tk : List (List Nat)) (m : Nat) (H' : Hp), Da K All H' v d → TT (j + 1) d tx tk m → tx.length ≤ bX j → Pen H' p c → Kp p H H' → Q v H'
theorem any_case {n m : Nat} {c : Str} {xs : List Str} {u : PyData} {ux : List Nat} {uk : List (List Nat)} (hc : Nm c) (hl : xs.length ≤ 4) (hx : ∀ x ∈ xs, Nm x) (hd : dd [] xs = xs) (h : TT n u ux uk m) :
    TC n [.tuple [.str c, .tuple (xs.map strD), u]] (32 :: 40 :: (nmL c ++ (blN xs ++ 32 :: 58 :: 32 :: (ux ++ 41 :: [])))) ([40] :: nmL c :: (xs.map nmL ++ [58] :: (uk ++ [41] :: []))) (m + 0) :=
  .cons (nm_name hc) hl (fun x h => nm_name (hx x h)) (dd_unlike hd) h .nil
theorem TC.app : ∀ {n m m' : Nat} {cs ds : List PyData} {cx dx : List Nat} {ck dk : List (List Nat)}, TC n cs cx ck m → TC n ds dx dk m' → TC n (cs ++ ds) (cx ++ dx) (ck ++ dk) (m + m')
  | _, _, _, _, _, _, _, _, _, .nil, g => by
    rw [Nat.zero_add]
    exact g
  | _, _, _, _, _, _, dx, _, dk, .cons (c := c) (xs := xs) (ux := ux) (cx := cx) (uk := uk) (ck := ck) hc hl hx hu h r, g => by
    have z := TC.cons hc hl hx hu h (r.app g)
    rw [Nat.add_assoc]
    have e1 : (32 :: 40 :: (nmL c ++ (blN xs ++ 32 :: 58 :: 32 :: (ux ++ 41 :: cx)))) ++ dx = 32 :: 40 :: (nmL c ++ (blN xs ++ 32 :: 58 :: 32 :: (ux ++ 41 :: (cx ++ dx)))) := by simp
    have e2 : ([40] :: nmL c :: (xs.map nmL ++ [58] :: (uk ++ [41] :: ck))) ++ dk = [40] :: nmL c :: (xs.map nmL ++ [58] :: (uk ++ [41] :: (ck ++ dk))) := by simp
    rw [e1, e2]
    exact z
theorem TS.app : ∀ {n m m' : Nat} {cs ds : List PyData} {cx dx : List Nat} {ck dk : List (List Nat)}, TS n cs cx ck m → TS n ds dx dk m' → TS n (cs ++ ds) (cx ++ dx) (ck ++ dk) (m + m')
  | _, _, _, _, _, _, _, _, _, .nil, g => by
    rw [Nat.zero_add]
    exact g
  | _, _, _, _, _, _, dx, _, dk, .cons (tx := tx) (sx := sx) h r, g => by
    have z := TS.cons h (r.app g)
    rw [Nat.add_assoc, List.append_assoc]
    have e1 : (32 :: (tx ++ sx)) ++ dx = 32 :: (tx ++ (sx ++ dx)) := by simp
    rw [e1]
    exact z
theorem kt_le {j : Nat} (hj : j ≤ 3) {d : PyData} (h : kindW j d = true) : kindW 6 d = true ∧ ktL 6 d = ktL j d ∧ (ktL j d).length ≤ 104 := by
  have up : ∀ {j : Nat} {d : PyData}, kindW j d = true → kindW (j + 1) d = true ∧ ktL (j + 1) d = ktL j d := by
    intro j
    induction j with
    | zero => intro d h; cases h
    | succ j ih =>
      intro d h
      rcases kd_cases h with ⟨z, rfl, _⟩ | ⟨s, a, b, rfl, hs, hj, ha, hb⟩
      · exact ⟨h, rfl⟩
      · obtain ⟨a1, a2⟩ := ih ha
        obtain ⟨b1, b2⟩ := ih hb
        refine ⟨?_, ?_⟩
        · rw [kind_tup] at h ⊢
          rw [a1, b1]
          simp only [Bool.and_eq_true, decide_eq_true_eq] at h ⊢
          exact ⟨⟨⟨by omega, h.1.1.2⟩, trivial⟩, trivial⟩
        · rw [kt_tup, kt_tup, a2, b2]
  have l := kt_len h
  have l2 : (ktL j d).length ≤ 104 := by
    have : 2 ^ j ≤ 8 := Nat.le_trans (Nat.pow_le_pow_right (by decide) hj) (by decide)
    omega
  have : ∀ k, kindW (j + k) d = true ∧ ktL (j + k) d = ktL j d := by
    intro k
    induction k with
    | zero => exact ⟨h, rfl⟩
    | succ k ih =>
      obtain ⟨a, b⟩ := up ih.1
      exact ⟨a, b.trans ih.2⟩
  have t := this (6 - j)
  rw [show j + (6 - j) = 6 by omega] at t
  exact ⟨t.1, t.2, l2⟩
end Ow

namespace Ow
open PySem PySem.Spec PyProof.Rows L2
theorem iteIT {A B : Prop} {a b : Int} (h : a = b) (ha : A) : if decide (V.int a = V.int b) = true then A else B := by
  rw [decide_eq_true (by rw [h])]
  exact iteT ha
theorem iteIF {A B : Prop} {a b : Int} (h : a ≠ b) (hb : B) : if decide (V.int a = V.int b) = true then A else B := by
  rw [decide_eq_false (fun e => h (by injection e))]
  exact iteF hb
/-- the promise of the turn below -/
def spRec (K : PySem.W.Frag) : Nat → Sp
  | 0 => fun _ _ _ _ => False
  | j + 1 => spAnyT K j
theorem TS.one {n m : Nat} {t : PyData} {tx : List Nat} {tk : List (List Nat)} (h : TT n t tx tk m) : TS n [t] (32 :: tx) tk m := by
  have z := TS.cons h .nil
  rw [List.append_nil, List.append_nil] at z
  exact z
theorem TC.one {n m : Nat} {c : Str} {xs : List Str} {u : PyData} {ux : List Nat} {uk : List (List Nat)} (hc : isNameD (.str c) = true) (hl : xs.length ≤ 4) (hx : ∀ x ∈ xs, isNameD (.str x) = true) (hu : unlikeN xs = true) (h : TT n u ux uk m) :
    TC n [.tuple [.str c, .tuple (xs.map strD), u]] (32 :: 40 :: (nmL c ++ (blN xs ++ 32 :: 58 :: 32 :: (ux ++ [41])))) ([40] :: nmL c :: (xs.map nmL ++ [58] :: (uk ++ [[41]]))) m := .cons hc hl hx hu h .nil
theorem nm_len {x : Str} (h : Nm x) : (nmL x).length ≤ 8 := h.2.1
theorem bl_len9 : ∀ {xs : List Str}, (∀ x ∈ xs, Nm x) → (blN xs).length ≤ 9 * xs.length
  | [], _ => Nat.le_refl _
  | x :: xs, h => by
    have a := nm_len (h x (List.mem_cons_self ..))
    have b := bl_len9 (xs := xs) fun y hy => h y (List.mem_cons_of_mem _ hy)
    show (32 :: (nmL x) ++ blN xs).length ≤ _
    rw [List.length_append, List.length_cons, List.length_cons]
    omega
theorem two_of {xs : List Str} (h : (xs.length : Int) = 2) (hd : dd [] xs = xs) : ∃ x y, xs = [x, y] ∧ x ≠ y := by
  obtain ⟨x, y, rfl⟩ := len2 (show xs.length = 2 by omega)
  refine ⟨x, y, rfl, ?_⟩
  rintro rfl
  have e := congrArg List.length hd
  have : dd [] [x, x] = [x] := by
    show (if x ∈ [x] then [x] else [x] ++ [x]) = [x]
    rw [if_pos (by simp)]
  rw [this] at e
  cases e
end Ow
namespace Ow
open PySem PySem.Spec PyProof.Rows L2
theorem sgn_ne {s c : Nat} (h : s ≠ c) : (⟨#[s]⟩ : Str) ≠ ⟨#[c]⟩ := fun z => h (Option.some.inj (congrArg (fun q : Str => q.cps[0]?) z))
theorem brack_gen (t : Str) (ts : List Str) : (("(" : Str) ++ Txt.join " " (t :: ts)) ++ (")" : Str) = ⟨(40 :: (nmL t ++ (blN ts ++ [41]))).toArray⟩ := by
  refine str_ext ?_
  rw [app_list, app_list]
  have e : (Txt.join " " (t :: ts)).cps.toList = nmL t ++ blN ts := join_sp t ts
  rw [e]
  show [40] ++ (nmL t ++ blN ts) ++ [41] = 40 :: _
  simp
theorem join_len (t : Str) (ts : List Str) : (Txt.join " " (t :: ts)).length = (nmL t).length + (blN ts).length := by
  have e := congrArg List.length (join_sp t ts)
  rw [List.length_append] at e
  exact e
theorem app_len (x y : Str) : (x ++ y).length = x.length + y.length := by
  have := congrArg List.length (app_list x y)
  rw [List.length_append] at this
  exact this
theorem bl_app (xs ys : List Str) : blN (xs ++ ys) = blN xs ++ blN ys := by
  unfold blN
  rw [List.flatMap_append]
theorem bl_one (x : Str) : blN [x] = 32 :: nmL x := by
  show (32 :: nmL x) ++ [] = _
  simp
theorem bl_cons (x : Str) (xs : List Str) : blN (x :: xs) = 32 :: (nmL x ++ blN xs) := rfl
def spLText (K : PySem.W.Frag) (k : Nat) : Sp := fun vs H Q _ => ∃ (N : Addr → Prop) (v : V) (d : PyData) (tx : List Nat) (tk : List (List Nat)) (m : Nat), vs = [v] ∧ Da K N H v d ∧ TT k d tx tk m ∧ tx.length ≤ 1000000 ∧ ∀ H', Same H H' → Q (.str ⟨tx.toArray⟩) H'
end Ow

namespace Ow
open PySem PySem.Spec PyProof.Rows L2
def spTokensT (K : PySem.W.Frag) : Sp := fun vs H Q _ => ∃ (x : Str), vs = [.str x] ∧ x.length ≤ 1000000 ∧ ∀ (q : Addr) (H' : Hp), H' q = some (.lst ((x.cps.toList.foldl tstep ([], false)).1.map vW)) → Same H H' → Q (.ref q) H'
def spDressedT (K : PySem.W.Frag) : Sp := fun vs H Q _ => ∃ (p c : Addr) (tx : List Nat) (tk : List (List Nat)), vs = [.ref p, .str ⟨tx.toArray⟩] ∧ Pen H p c ∧ Tq false tx tk ∧ tk ≠ [] ∧ tx.length ≤ 300000 ∧
  ∀ (y : Str) (t : List Nat) (H' : Hp), Dr false tk y.cps.toList t → (∀ c ∈ t, bl c = true) → y.length ≤ 1000000 → Pen H' p c → Kp p H H' → Q (.str y) H'
/-- all words together are no longer than the signs -/
def sumL (ws : List (List Nat)) : Nat := (ws.map List.length).sum
theorem sumL_app (a b : List (List Nat)) : sumL (a ++ b) = sumL a + sumL b := by
  unfold sumL
  rw [List.map_append, List.sum_append]
theorem sumL_one (w : List Nat) : sumL [w] = w.length := by
  unfold sumL
  simp
theorem sumL_step (s : List (List Nat) × Bool) (c : Nat) (h : s.2 = true → ∃ ws u, s.1 = ws ++ [u]) : sumL (tstep s c).1 ≤ sumL s.1 + 1 := by
  obtain ⟨ws, q⟩ := s
  cases hq : (ltr c && q) with
  | true =>
    simp only [Bool.and_eq_true] at hq
    obtain ⟨hl, rfl⟩ := hq
    obtain ⟨us, u, e⟩ := h rfl
    dsimp only at e
    subst e
    rw [tstep_more hl]
    show sumL (us ++ [u ++ [c]]) ≤ sumL (us ++ [u]) + 1
    rw [sumL_app, sumL_app, sumL_one, sumL_one, List.length_append]
    show sumL us + (u.length + 1) ≤ _
    omega
  | false =>
    cases hb : bl c with
    | true =>
      rw [tstep_bl hb]
      exact Nat.le_succ _
    | false =>
      rw [tstep_new hq hb]
      show sumL (ws ++ [[c]]) ≤ sumL ws + 1
      rw [sumL_app, sumL_one]
      exact Nat.le_refl _
theorem sumL_fold : ∀ {l : List Nat} {s : List (List Nat) × Bool} {n : Nat}, TSt s n → sumL (l.foldl tstep s).1 ≤ sumL s.1 + l.length
  | [], s, n, h => Nat.le_refl _
  | c :: l, s, n, h => by
    have a := sumL_step s c h.op
    have b := sumL_fold (l := l) (h.step (c := c))
    rw [List.foldl_cons, List.length_cons]
    omega
theorem tq_sizes {tx : List Nat} {tk : List (List Nat)} (h : Tq false tx tk) : tk.length ≤ tx.length ∧ (∀ w ∈ tk, w.length ≤ tx.length) ∧ sumL tk ≤ tx.length ∧ (tx.foldl tstep ([], false)).1 = tk := by
  obtain ⟨q, e⟩ := h.fo []
  have z : TSt ([], false) 0 := ⟨(fun z => nomatch z), Nat.le_refl _, fun w hw => nomatch hw⟩
  have st := TSt.fold (l := tx) z
  have sm := sumL_fold (l := tx) z
  rw [e, List.nil_append] at st sm
  refine ⟨Nat.le_trans st.len (by omega), fun w hw => Nat.le_trans (st.wl w hw) (by omega), ?_, by rw [e, List.nil_append]⟩
  have e0 : sumL (([], false) : List (List Nat) × Bool).1 = 0 := rfl
  rw [e0] at sm
  have sm2 : sumL tk ≤ 0 + tx.length := sm
  omega
theorem sumL_take_succ {ws : List (List Nat)} {i : Nat} {u : List Nat} (h : ws[i]? = some u) : sumL (ws.take (i + 1)) = sumL (ws.take i) + u.length := by
  rw [List.take_add_one, h, sumL_app]
  show _ + sumL [u] = _
  rw [sumL_one]
theorem sumL_take (ws : List (List Nat)) (i : Nat) : sumL (ws.take i) ≤ sumL ws := by
  conv => rhs; rw [← List.take_append_drop i ws]
  rw [sumL_app]
  omega
theorem share {Y G : Prop} (h : Y → G) (y : Y) : G := h y
def spTall (K : PySem.W.Frag) : Sp := fun vs H Q _ => ∃ (p c : Addr), vs = [.ref p] ∧ Pen H p c ∧
  ∀ (v : V) (d : PyData) (tx : List Nat) (tk : List (List Nat)) (m : Nat) (H' : Hp), Da K All H' v d → TT 30 d tx tk m → tx.length ≤ 6000 → Pen H' p c → Kp p H H' → Q v H'
end Ow

namespace Ow
open PySem PySem.Spec PyProof.Rows L2
def spReadTerm (K : PySem.W.Frag) : Sp := fun vs H Q _ => ∃ (x : Str) (d : PyData) (tx : List Nat) (tk : List (List Nat)) (m : Nat) (t : List Nat), vs = [.str x] ∧ x.length ≤ 1000000 ∧ TT 30 d tx tk m ∧ m ≤ 200 ∧ tx.length ≤ 300000 ∧ Dr false tk x.cps.toList t ∧ (∀ c ∈ t, bl c = true) ∧
  ∀ (v : V) (H' : Hp), Da K All H' v d → Same H H' → Q v H'
def spReadWholeT (K : PySem.W.Frag) (fT fH : Addr) : Sp := fun vs H Q _ => ∃ (x : Str) (d : PyData) (tx : List Nat) (tk : List (List Nat)) (m : Nat) (t : List Nat), vs = [.str x, .ref fT, .ref fH] ∧ x.length ≤ 1000000 ∧ TT 30 d tx tk m ∧ m ≤ 200 ∧ tx.length ≤ 300000 ∧ Dr false tk x.cps.toList t ∧ (∀ c ∈ t, bl c = true) ∧
  ∀ (v : V) (H' : Hp), Da K All H' v d → Same H H' → Q v H'
theorem held_mono {P : Program} {w : World} {K : PySem.W.Frag} {mg : Str → Option Value} {base : Heap} {j k : Nat} {f : Addr} {sp : Sp} (h : Held P w K mg base j f sp) (hj : j ≤ k) : Held P w K mg base k f sp := by
  obtain ⟨fd, ps, F, r⟩ := h.ex
  exact ⟨fd, ps, F.mono hj, r⟩
theorem CallOk.held {P : Program} {w : World} {K : PySem.W.Frag} {mg : Str → Option Value} {base : Heap} {k : Nat} {x : Str} {ps : List Str} {sp : Sp} (C : CallOk P w K mg base k x ps sp) {f : Addr} (g : mg x = some (.ref f)) : Held P w K mg base k f sp := by
  obtain ⟨f', fd, F, hm, hk, hb⟩ := C.ex
  rw [hm] at g
  injection g with g
  injection g with g
  subst g
  exact ⟨fd, ps, F, hk, hb⟩
theorem TT.termM {n : Nat} {d : PyData} {tx : List Nat} {tk : List (List Nat)} {m : Nat} (h : TT n d tx tk m) (hn : n ≤ 30) (hk : m ≤ 200) : termD d = true := by
  show upTo 200 (sizedD 30 d) = true
  rw [(TT.up h hn).sized]
  exact decide_eq_true hk
theorem ts_zero {ts : List PyData} {tx : List Nat} {tk : List (List Nat)} {m : Nat} (h : TS 0 ts tx tk m) : m = 0 := by
  cases h with
  | nil => rfl
  | cons h r => cases h
theorem tt_leaf {d : PyData} {tx : List Nat} {tk : List (List Nat)} {m : Nat} (h : TT 1 d tx tk m) : m = 1 := by
  cases h with
  | name h => rfl
  | df h => rfl
  | lam _ _ h => cases h
  | two _ h _ => cases h
  | five _ _ _ _ h _ => cases h
  | mk _ _ h => rw [ts_zero h]
  | ch h _ _ _ => cases h
theorem ts_leaf : ∀ {ts : List PyData} {tx : List Nat} {tk : List (List Nat)} {m : Nat}, TS 1 ts tx tk m → m = ts.length
  | _, _, _, _, .nil => rfl
  | _, _, _, _, .cons h r => by
    rw [tt_leaf h, ts_leaf r, List.length_cons]
    omega
theorem tc_leaf : ∀ {ts : List PyData} {tx : List Nat} {tk : List (List Nat)} {m : Nat}, TC 1 ts tx tk m → m = ts.length
  | _, _, _, _, .nil => rfl
  | _, _, _, _, .cons _ _ _ _ h r => by
    rw [tt_leaf h, tc_leaf r, List.length_cons]
    omega
theorem tt_small {d : PyData} {tx : List Nat} {tk : List (List Nat)} {m : Nat} (h : TT 2 d tx tk m) : m ≤ 8 := by
  cases h with
  | name h => decide
  | df h => decide
  | lam _ _ h => rw [tt_leaf h]; decide
  | two _ h g => rw [tt_leaf h, tt_leaf g]; decide
  | five _ _ _ _ h g => rw [tt_leaf h, tt_leaf g]; decide
  | mk _ hl h => rw [ts_leaf h]; omega
  | ch h _ h6 g => rw [tt_leaf h, tc_leaf g]; omega
theorem Dr.blank1 {p q : Bool} {ws : List (List Nat)} {r t : List Nat} {c : Nat} (h : Dr p ws r t) (hc : bl c = true) (hne : ws ≠ []) : Dr q ws (c :: r) t := by
  cases h with
  | nil => exact absurd rfl hne
  | @cons _ w b r t ws hb hs h =>
    exact Dr.cons (b := c :: b) (fun d hd => by
      rcases List.mem_cons.mp hd with rfl | hd
      · exact hc
      · exact hb d hd) (fun _ _ => by simp) h
theorem tq_text {tx : List Nat} {tk : List (List Nat)} (h : Tq false tx tk) : Dr false tk tx [] := by
  have := h.dr [] [] [] fun q => .nil
  rw [List.append_nil, List.append_nil] at this
  exact this
theorem tq_text2 {tx : List Nat} {tk : List (List Nat)} (h : Tq false tx tk) (hne : tk ≠ []) : Dr false tk (10 :: (tx ++ [32])) [32] := by
  have := h.dr [] [32] [32] fun q => .nil
  rw [List.append_nil] at this
  exact this.blank1 (by decide +kernel) hne
theorem app3_list (x : List Nat) : nmL ((("\n" : Str) ++ (⟨x.toArray⟩ : Str)) ++ (" " : Str)) = 10 :: (x ++ [32]) := by
  show (((("\n" : Str) ++ (⟨x.toArray⟩ : Str)) ++ (" " : Str)).cps.toList) = _
  rw [app_list, app_list]
  simp
  rfl
end Ow

/-! Programs with their texts, row by row. -/
namespace Ow
open PySem PySem.Spec PyProof.Rows L2
structure DfW where
  f : Str
  k : PyData
  t : PyData
  tx : List Nat
  tk : List (List Nat)
  m : Nat
structure DfW.Ok (w : DfW) : Prop where
  nm : isNameD (.str w.f) = true
  kd : kindW 6 w.k = true
  tt : TT 30 w.t w.tx w.tk w.m
  few : w.m ≤ 200
def DfW.d (w : DfW) : PyData := dfD (w.f, w.k, w.t)
def mkTx (m : MkT) : List Nat := 40 :: (nmL m.1 ++ (blN m.2 ++ [41]))
def mkTk (m : MkT) : List (List Nat) := [40] :: nmL m.1 :: (m.2.map nmL ++ [[41]])
def dtTx (p : DtT) : List Nat := 40 :: 61 :: 32 :: (nmL p.1 ++ (p.2.flatMap (fun m => 32 :: mkTx m) ++ [41]))
def dtTk (p : DtT) : List (List Nat) := [40] :: [61] :: nmL p.1 :: (p.2.flatMap mkTk ++ [[41]])
def dfTx (w : DfW) : List Nat := 40 :: 64 :: 32 :: (nmL w.f ++ 32 :: (ktL 6 w.k ++ 32 :: (w.tx ++ [41])))
def dfTk (w : DfW) : List (List Nat) := [40] :: [64] :: nmL w.f :: (toks 6 w.k ++ (w.tk ++ [[41]]))
def joinL (s : List Nat) : List (List Nat) → List Nat
  | [] => []
  | r :: rs => r ++ rs.flatMap (fun x => s ++ x)
def rowsTx (ps : List DtT) (ws : List DfW) : List (List Nat) := ps.map dtTx ++ ws.map dfTx
def rowsTk (ps : List DtT) (ws : List DfW) : List (List Nat) := ps.flatMap dtTk ++ ws.flatMap dfTk
theorem s61 : ltr 61 = false ∧ bl 61 = false := by decide +kernel
theorem tq_mk {m : MkT} (h : MkOk m) (q : Bool) : Tq q (mkTx m) (mkTk m) := by
  refine Tq.sign s40.1 s40.2 ?_
  show Tq false (nmL m.1 ++ _) ([nmL m.1] ++ _)
  exact Tq.app (Tq.name h.nm) fun _ => Tq.app (tq_names h.all _) fun _ => Tq.one s41.1 s41.2
theorem tq_mks : ∀ {ms : List MkT}, (∀ m ∈ ms, MkOk m) → ∀ q, Tq q (ms.flatMap fun m => 32 :: mkTx m) (ms.flatMap mkTk)
  | [], _, q => Tq.nil
  | m :: ms, h, q => by
    rw [List.flatMap_cons, List.flatMap_cons]
    exact Tq.app (Tq.blank (tq_mk (h m (List.mem_cons_self ..)) _) (by simp [mkTk])) (tq_mks fun y hy => h y (List.mem_cons_of_mem _ hy))
theorem tq_dt {p : DtT} (h : DtOk p) (q : Bool) : Tq q (dtTx p) (dtTk p) := by
  refine Tq.sign s40.1 s40.2 (Tq.sign s61.1 s61.2 ?_)
  show Tq false ((32 :: nmL p.1) ++ _) ([nmL p.1] ++ _)
  exact Tq.app (Tq.blank (Tq.name h.nm) (by simp)) fun _ => Tq.app (tq_mks h.all _) fun _ => Tq.one s41.1 s41.2
theorem tq_df {w : DfW} (h : w.Ok) (q : Bool) : Tq q (dfTx w) (dfTk w) := by
  obtain ⟨h1, h2⟩ := h.tt.tq
  refine Tq.sign s40.1 s40.2 (Tq.sign s64.1 s64.2 ?_)
  show Tq false ((32 :: nmL w.f) ++ ((32 :: ktL 6 w.k) ++ _)) ([nmL w.f] ++ (toks 6 w.k ++ _))
  exact Tq.app (Tq.blank (Tq.name h.nm) (by simp)) fun _ => Tq.app (Tq.blank (Tq.kind h.kd) (toks_some h.kd)) fun _ => Tq.app (l := 32 :: _) (Tq.blank h1 h2) fun _ => Tq.one s41.1 s41.2
theorem Tq.blankC {p : Bool} {c : Nat} {l : List Nat} {ks : List (List Nat)} (hc : bl c = true) (h : Tq false l ks) (hne : ks ≠ []) : Tq p (c :: l) ks := by
  refine ⟨fun ws => ?_, fun ws r t k => ?_, h.ne⟩
  · obtain ⟨q, e⟩ := h.fo ws
    exact ⟨q, by rw [List.foldl_cons, tstep_bl hc, e]⟩
  · exact (h.dr ws r t k).blank1 hc (by simp [hne])
/-- what may stand between two rows -/
def Sep (s : List Nat) : Prop := s = [] ∨ ∃ c, s = [c] ∧ bl c = true
theorem tq_sep {s l : List Nat} {ks : List (List Nat)} (hs : Sep s) (h : ∀ q, Tq q l ks) (hne : ks ≠ []) (q : Bool) : Tq q (s ++ l) ks := by
  rcases hs with rfl | ⟨c, rfl, hc⟩
  · exact h q
  · exact Tq.blankC hc (h false) hne
theorem tq_rest {α : Type} {s : List Nat} (hs : Sep s) {f : α → List Nat} {g : α → List (List Nat)} : ∀ {xs : List α}, (∀ x ∈ xs, (∀ q, Tq q (f x) (g x)) ∧ g x ≠ []) → ∀ q, Tq q (xs.flatMap fun x => s ++ f x) (xs.flatMap g)
  | [], _, q => Tq.nil
  | x :: xs, h, q => by
    obtain ⟨h1, h2⟩ := h x (List.mem_cons_self ..)
    rw [List.flatMap_cons, List.flatMap_cons]
    exact Tq.app (tq_sep hs h1 h2 q) (tq_rest hs fun y hy => h y (List.mem_cons_of_mem _ hy))
theorem join_rows (s : List Nat) {p : DtT} {ps : List DtT} {ws : List DfW} : joinL s (rowsTx (p :: ps) ws) = dtTx p ++ (ps.flatMap (fun x => s ++ dtTx x) ++ ws.flatMap (fun x => s ++ dfTx x)) := by
  show dtTx p ++ ((ps.map dtTx ++ ws.map dfTx).flatMap fun x => s ++ x) = _
  rw [List.flatMap_append, List.flatMap_map, List.flatMap_map]
theorem tq_prog {s : List Nat} (hs : Sep s) {ps : List DtT} {ws : List DfW} (h1 : 1 ≤ ps.length) (hp : ∀ p ∈ ps, DtOk p) (hw : ∀ w ∈ ws, w.Ok) : Tq false (joinL s (rowsTx ps ws)) (rowsTk ps ws) := by
  cases ps with
  | nil => exact absurd h1 (by decide)
  | cons p ps =>
    rw [join_rows]
    show Tq false _ ((dtTk p ++ ps.flatMap dtTk) ++ _)
    rw [List.append_assoc]
    refine Tq.app (tq_dt (hp p (List.mem_cons_self ..)) _) fun _ => Tq.app (tq_rest hs (fun x hx => ⟨tq_dt (hp x (List.mem_cons_of_mem _ hx)), by simp [dtTk]⟩) _) fun _ => tq_rest hs (fun x hx => ⟨tq_df (hw x hx), by simp [dfTk]⟩) _
theorem rows_ne {ps : List DtT} {ws : List DfW} (h1 : 1 ≤ ps.length) : rowsTk ps ws ≠ [] := by
  cases ps with
  | nil => exact absurd h1 (by decide)
  | cons p ps => simp [rowsTk, dtTk]
/-! ### no line feed within a row -/
def NoN (l : List Nat) : Prop := ∀ c ∈ l, c ≠ 10
theorem NoN.nil : NoN [] := fun c h => nomatch h
theorem NoN.cons {c : Nat} {l : List Nat} (h : c ≠ 10) (g : NoN l) : NoN (c :: l) := fun d hd => by
  rcases List.mem_cons.mp hd with rfl | hd
  · exact h
  · exact g d hd
theorem NoN.app {a b : List Nat} (h : NoN a) (g : NoN b) : NoN (a ++ b) := fun c hc => (List.mem_append.mp hc).elim (h c) (g c)
theorem NoN.name {x : Str} (h : isNameD (.str x) = true) : NoN (nmL x) := fun c hc e => by
  have := (ltr_small ((nm_cases h).2.2 c hc)).1
  omega
theorem NoN.names : ∀ {xs : List Str}, (∀ x ∈ xs, isNameD (.str x) = true) → NoN (blN xs)
  | [], _ => .nil
  | x :: xs, h => by
    show NoN (32 :: (nmL x) ++ blN xs)
    exact (NoN.cons (by decide) (.name (h x (List.mem_cons_self ..)))).app (NoN.names fun y hy => h y (List.mem_cons_of_mem _ hy))
theorem NoN.kind : ∀ {j : Nat} {d : PyData}, kindW j d = true → NoN (ktL j d)
  | 0, _, h => by cases h
  | j + 1, d, h => by
    rcases kd_cases h with ⟨z, rfl, _⟩ | ⟨s, a, b, rfl, hs, _, ha, hb⟩
    · exact .name h
    · rw [kt_tup]
      show NoN (40 :: ([s] ++ 32 :: (ktL j a ++ 32 :: (ktL j b ++ [41]))))
      exact .cons (by decide) (.cons (by omega) (.cons (by decide) ((NoN.kind ha).app (.cons (by decide) ((NoN.kind hb).app (.cons (by decide) .nil))))))
theorem sT10 : ∀ s ∈ termS, s ≠ 10 := by decide
mutual
theorem TT.non : ∀ {n : Nat} {d : PyData} {tx : List Nat} {tk : List (List Nat)} {m : Nat}, TT n d tx tk m → NoN tx
  | _, _, _, _, _, .name h => .name h
  | _, _, _, _, _, .df h => .cons (by decide) (.name h)
  | _, _, _, _, _, .lam h hk ht => .cons (by decide) (.cons (by decide) (.cons (by decide) ((NoN.name h).app (.cons (by decide) ((NoN.kind hk).app (.cons (by decide) ((TT.non ht).app (.cons (by decide) .nil))))))))
  | _, _, _, _, _, .two hs ht hu => .cons (by decide) (.cons (sT10 _ (two_mem hs)) (.cons (by decide) ((TT.non ht).app (.cons (by decide) ((TT.non hu).app (.cons (by decide) .nil))))))
  | _, _, _, _, _, .five hs hx hy _ ht hu => .cons (by decide) (.cons (sT10 _ (five_mem hs)) (.cons (by decide) ((TT.non ht).app (.cons (by decide) ((NoN.name hx).app (.cons (by decide) ((NoN.name hy).app (.cons (by decide) ((TT.non hu).app (.cons (by decide) .nil))))))))))
  | _, _, _, _, _, .mk h _ ha => .cons (by decide) (.cons (by decide) (.cons (by decide) ((NoN.name h).app ((TS.non ha).app (.cons (by decide) .nil)))))
  | _, _, _, _, _, .ch ht _ _ ha => .cons (by decide) (.cons (by decide) (.cons (by decide) ((TT.non ht).app ((TC.non ha).app (.cons (by decide) .nil)))))
theorem TS.non : ∀ {n : Nat} {d : List PyData} {tx : List Nat} {tk : List (List Nat)} {m : Nat}, TS n d tx tk m → NoN tx
  | _, _, _, _, _, .nil => .nil
  | _, _, _, _, _, .cons h r => .cons (by decide) ((TT.non h).app (TS.non r))
theorem TC.non : ∀ {n : Nat} {d : List PyData} {tx : List Nat} {tk : List (List Nat)} {m : Nat}, TC n d tx tk m → NoN tx
  | _, _, _, _, _, .nil => .nil
  | _, _, _, _, _, .cons hc _ hx _ h r => .cons (by decide) (.cons (by decide) ((NoN.name hc).app ((NoN.names hx).app (.cons (by decide) (.cons (by decide) (.cons (by decide) ((TT.non h).app (.cons (by decide) (TC.non r)))))))))
end
theorem NoN.flat {α : Type} {f : α → List Nat} : ∀ {xs : List α}, (∀ x ∈ xs, NoN (f x)) → NoN (xs.flatMap f)
  | [], _ => .nil
  | x :: xs, h => by
    rw [List.flatMap_cons]
    exact (h x (List.mem_cons_self ..)).app (NoN.flat fun y hy => h y (List.mem_cons_of_mem _ hy))
theorem non_mk {m : MkT} (h : MkOk m) : NoN (mkTx m) := .cons (by decide) ((NoN.name h.nm).app ((NoN.names h.all).app (.cons (by decide) .nil)))
theorem non_dt {p : DtT} (h : DtOk p) : NoN (dtTx p) := .cons (by decide) (.cons (by decide) (.cons (by decide) ((NoN.name h.nm).app ((NoN.flat fun m hm => .cons (by decide) (non_mk (h.all m hm))).app (.cons (by decide) .nil)))))
theorem non_df {w : DfW} (h : w.Ok) : NoN (dfTx w) := .cons (by decide) (.cons (by decide) (.cons (by decide) ((NoN.name h.nm).app (.cons (by decide) ((NoN.kind h.kd).app (.cons (by decide) (h.tt.non.app (.cons (by decide) .nil))))))))
theorem non_rows {ps : List DtT} {ws : List DfW} (hp : ∀ p ∈ ps, DtOk p) (hw : ∀ w ∈ ws, w.Ok) : ∀ r ∈ rowsTx ps ws, NoN r := fun r hr => by
  rcases List.mem_append.mp hr with hr | hr
  · obtain ⟨p, h, rfl⟩ := List.mem_map.mp hr
    exact non_dt (hp p h)
  · obtain ⟨w, h, rfl⟩ := List.mem_map.mp hr
    exact non_df (hw w h)
def sp10 (c : Nat) : Nat := if c = 10 then 32 else c
theorem map_non {l : List Nat} (h : NoN l) : l.map sp10 = l := by
  conv => rhs; rw [← List.map_id l]
  refine List.map_congr_left fun c hc => ?_
  show (if c = 10 then 32 else c) = c
  rw [if_neg (h c hc)]
theorem filter_non {l : List Nat} (h : NoN l) : l.filter (· != 10) = l := List.filter_eq_self.mpr fun c hc => by simpa using h c hc
theorem sp_flat : ∀ {rs : List (List Nat)}, (∀ r ∈ rs, NoN r) → (rs.flatMap fun x => [10] ++ x).map sp10 = rs.flatMap fun x => [32] ++ x
  | [], _ => rfl
  | r :: rs, h => by
    rw [List.flatMap_cons, List.flatMap_cons, List.map_append, List.map_append, map_non (h r (List.mem_cons_self ..)), sp_flat fun y hy => h y (List.mem_cons_of_mem _ hy)]
    rfl
theorem filter_flat : ∀ {rs : List (List Nat)}, (∀ r ∈ rs, NoN r) → (rs.flatMap fun x => [10] ++ x).filter (· != 10) = rs.flatMap fun x => [] ++ x
  | [], _ => rfl
  | r :: rs, h => by
    rw [List.flatMap_cons, List.flatMap_cons, List.filter_append, List.filter_append, filter_non (h r (List.mem_cons_self ..)), filter_flat fun y hy => h y (List.mem_cons_of_mem _ hy)]
    rfl
theorem join_map {rs : List (List Nat)} (h : ∀ r ∈ rs, NoN r) : (joinL [10] rs).map sp10 = joinL [32] rs := by
  cases rs with
  | nil => rfl
  | cons r rs =>
    show (r ++ _).map sp10 = r ++ _
    rw [List.map_append, map_non (h r (List.mem_cons_self ..)), sp_flat fun y hy => h y (List.mem_cons_of_mem _ hy)]
theorem join_filter {rs : List (List Nat)} (h : ∀ r ∈ rs, NoN r) : (joinL [10] rs).filter (· != 10) = joinL [] rs := by
  cases rs with
  | nil => rfl
  | cons r rs =>
    show (r ++ _).filter _ = r ++ _
    rw [List.filter_append, filter_non (h r (List.mem_cons_self ..)), filter_flat fun y hy => h y (List.mem_cons_of_mem _ hy)]
/-- texts put together, sign by sign -/
theorem join_is (a : Str) (ts : List Str) : nmL (Txt.join a ts) = joinL (nmL a) (ts.map nmL) := by
  cases ts with
  | nil => rfl
  | cons t ts =>
    rw [join_gen, List.map_cons]
    show _ = nmL t ++ (ts.map nmL).flatMap fun x => nmL a ++ x
    rw [List.flatMap_map]
theorem split_parts (x : Str) : ∃ parts : List Str, Txt.split x "\n" = parts ∧ (∀ r ∈ parts.map nmL, NoN r) ∧ joinL [10] (parts.map nmL) = nmL x ∧ (parts.map (·.length)).sum + parts.length ≤ x.length + 1 := by
  refine ⟨_, rfl, fun r hr => ?_, ?_, split_weight x "\n" (by decide)⟩
  · obtain ⟨p, hp, rfl⟩ := List.mem_map.mp hr
    have := StrLaws.split_free x 10 p hp
    exact fun c hc e => this (e ▸ hc)
  · have e := StrLaws.join_split x "\n"
    rw [← StrLaws.glued_eq_join] at e
    have e2 := join_is "\n" (Txt.split x "\n")
    have e3 : Txt.join "\n" (Txt.split x "\n") = x := e
    rw [e3] at e2
    exact e2.symm
theorem join_split_sp {x : Str} {rs : List (List Nat)} (hx : nmL x = joinL [10] rs) (hr : ∀ r ∈ rs, NoN r) : nmL (Txt.join " " (Txt.split x "\n")) = joinL [32] rs := by
  obtain ⟨parts, e, hp, hj, _⟩ := split_parts x
  rw [e, join_is]
  show joinL [32] _ = _
  rw [← join_map hp, hj, hx, join_map hr]
theorem replace_none {x : Str} {rs : List (List Nat)} (hx : nmL x = joinL [10] rs) (hr : ∀ r ∈ rs, NoN r) : nmL (Txt.replace x "\n" "") = joinL [] rs := by
  have e : (Txt.replace x "\n" "").cps.toList = x.cps.toList.filter (· != 10) := replace_strikes x 10
  show (Txt.replace x "\n" "").cps.toList = _
  rw [e]
  have hx' : x.cps.toList = joinL [10] rs := hx
  rw [hx', join_filter hr]
end Ow

/-! What reads and writes programs promises; a text put together and one struck, side by side. -/
namespace Ow
open PySem PySem.Spec PyProof.Rows L2
def RMk : PyData → List (List Nat) → Prop := fun d tk => ∃ m : MkT, MkOk m ∧ d = mkD m ∧ tk = mkTk m
def RDt : PyData → List (List Nat) → Prop := fun d tk => ∃ p : DtT, DtOk p ∧ d = dtD p ∧ tk = nmL p.1 :: p.2.flatMap mkTk
def RDf : PyData → List (List Nat) → Prop := fun d tk => ∃ w : DfW, w.Ok ∧ d = w.d ∧ tk = nmL w.f :: (toks 6 w.k ++ w.tk)
theorem rs_mks : ∀ {ms : List MkT}, (∀ m ∈ ms, MkOk m) → RS RMk 41 (ms.map mkD) (ms.flatMap mkTk)
  | [], _ => .nil
  | m :: ms, h => by
    rw [List.map_cons, List.flatMap_cons]
    exact .cons ⟨m, h m (List.mem_cons_self ..), rfl, rfl⟩ ⟨40, [], _, rfl, by decide⟩ (rs_mks fun y hy => h y (List.mem_cons_of_mem _ hy))
/-- a program that holds -/
structure ProgW (ps : List DtT) (ws : List DfW) : Prop where
  p1 : 1 ≤ ps.length
  p6 : ps.length ≤ 6
  pok : ∀ p ∈ ps, DtOk p
  pun : unlikeN (ps.map (·.1)) = true
  mun : unlikeN ((mksOf ps).map (·.1)) = true
  fld : ∀ x ∈ fldsOf ps, x ∈ ps.map (·.1)
  w16 : ws.length ≤ 16
  wok : ∀ w ∈ ws, w.Ok
  wun : unlikeN (ws.map (·.f)) = true
def progT (ps : List DtT) (ws : List DfW) : PyData := .tuple [.tuple (ps.map dtD), .tuple (ws.map DfW.d)]
theorem ProgW.ok {ps : List DtT} {ws : List DfW} (h : ProgW ps ws) : progOk (progT ps ws) = true := by
  show (datasOk (.tuple (ps.map dtD)) && defsOk (.tuple (ws.map DfW.d))) = true
  have e1 : datasOk (.tuple (ps.map dtD)) = true := by
    rw [datas_eq, row_ok (by rw [List.length_map]; have := h.p1; omega) (by rw [List.length_map]; have := h.p6; omega), h.pun, h.mun]
    have e2 : (ps.map dtD).all dataOk = true := by
      rw [List.all_map, List.all_eq_true]
      intro p hp
      have g := h.pok p hp
      show (isNameD (.str p.1) && (isRowD (.tuple (p.2.map mkD)) 1 6 && (p.2.map mkD).all makerOk)) = true
      rw [g.nm, row_ok (by rw [List.length_map]; have := g.one; omega) (by rw [List.length_map]; have := g.len; omega)]
      have e3 : (p.2.map mkD).all makerOk = true := by
        rw [List.all_map, List.all_eq_true]
        intro m hm
        have gm := g.all m hm
        show (isNameD (.str m.1) && (isRowD (.tuple (m.2.map strD)) 0 4 && (m.2.map strD).all isNameD)) = true
        rw [gm.nm, row_ok (by omega) (by rw [List.length_map]; have := gm.len; omega), all_names gm.all]
        rfl
      rw [e3]
      rfl
    rw [e2]
    have e4 : ((fldsOf ps).all fun f => decide (f ∈ ps.map (·.1))) = true := by
      rw [List.all_eq_true]
      intro x hx
      exact decide_eq_true (h.fld x hx)
    rw [e4]
    rfl
  have e5 : defsOk (.tuple (ws.map DfW.d)) = true := by
    show (isRowD (.tuple (ws.map DfW.d)) 0 16 && ((ws.map DfW.d).all defOk && unlikeN ((ws.map DfW.d).map defName))) = true
    rw [row_ok (by omega) (by rw [List.length_map]; have := h.w16; omega)]
    have e6 : (ws.map DfW.d).all defOk = true := by
      rw [List.all_map, List.all_eq_true]
      intro w hw
      have g := h.wok w hw
      show (isNameD (.str w.f) && (kindW 6 w.k && termD w.t)) = true
      rw [g.nm, g.kd, g.tt.termM (Nat.le_refl _) g.few]
      rfl
    have e7 : (ws.map DfW.d).map defName = ws.map (·.f) := by
      rw [List.map_map]
      rfl
    rw [e6, e7, h.wun]
    rfl
  rw [e1, e5]
  rfl
theorem sumL_map {α : Type} (f : α → List Nat) (xs : List α) : sumL (xs.map f) = (xs.flatMap f).length := by
  induction xs with
  | nil => rfl
  | cons x xs ih =>
    rw [List.flatMap_cons, List.length_append, ← ih]
    unfold sumL
    rw [List.map_cons, List.map_cons, List.sum_cons]
theorem mk_fit {m : MkT} (h : MkOk m) : Fit (40 * (mkTx m).length) 2 (mkD m) := by
  refine (Fit.tup (m := 1) (.cons ((fit_name h.nm).le (Nat.le_refl _) (Nat.zero_le _)) (.cons (Fit.tup (fit_namesT h.all)) (FitAll.nil (n := 0))))).le ?_ (Nat.le_refl _)
  unfold mkTx
  simp only [List.length_cons, List.length_append, List.length_nil]
  omega
theorem mks_fit : ∀ {ms : List MkT}, (∀ m ∈ ms, MkOk m) → FitAll (40 * (ms.flatMap fun m => 32 :: mkTx m).length) 2 (ms.map mkD)
  | [], _ => FitAll.nil.le (Nat.zero_le _) (Nat.le_refl _)
  | m :: ms, h => by
    rw [List.map_cons, List.flatMap_cons]
    refine (FitAll.cons (mk_fit (h m (List.mem_cons_self ..))) (mks_fit fun y hy => h y (List.mem_cons_of_mem _ hy))).le ?_ (Nat.le_refl _)
    rw [List.length_append, List.length_cons]
    omega
theorem dt_fit {p : DtT} (h : DtOk p) : Fit (40 * (dtTx p).length) 4 (dtD p) := by
  refine (Fit.tup (m := 3) (.cons ((fit_name h.nm).le (Nat.le_refl _) (Nat.zero_le _)) (.cons (Fit.tup (mks_fit h.all)) (FitAll.nil (n := 0))))).le ?_ (Nat.le_refl _)
  unfold dtTx
  simp only [List.length_cons, List.length_append, List.length_nil]
  omega
theorem df_fitW {w : DfW} (h : w.Ok) : Fit (40 * (dfTx w).length) 97 w.d := by
  refine (Fit.tup (m := 96) (.cons ((fit_name h.nm).le (Nat.le_refl _) (Nat.zero_le _)) (.cons ((kind_fitT h.kd).le (Nat.le_refl _) (by decide)) (.cons h.tt.fit (FitAll.nil (n := 0)))))).le ?_ (Nat.le_refl _)
  unfold dfTx
  simp only [List.length_cons, List.length_append, List.length_nil]
  omega
theorem dts_fit : ∀ {ps : List DtT}, (∀ p ∈ ps, DtOk p) → FitAll (42 * sumL (ps.map dtTx)) 4 (ps.map dtD)
  | [], _ => FitAll.nil.le (Nat.zero_le _) (Nat.le_refl _)
  | p :: ps, h => by
    refine (FitAll.cons (dt_fit (h p (List.mem_cons_self ..))) (dts_fit fun y hy => h y (List.mem_cons_of_mem _ hy))).le ?_ (Nat.le_refl _)
    have e : sumL ((p :: ps).map dtTx) = (dtTx p).length + sumL (ps.map dtTx) := by
      unfold sumL
      rw [List.map_cons, List.map_cons, List.sum_cons]
    have : 1 ≤ (dtTx p).length := by unfold dtTx; simp
    rw [e]
    omega
theorem dfs_fit : ∀ {ws : List DfW}, (∀ w ∈ ws, w.Ok) → FitAll (42 * sumL (ws.map dfTx)) 97 (ws.map DfW.d)
  | [], _ => FitAll.nil.le (Nat.zero_le _) (Nat.le_refl _)
  | w :: ws, h => by
    refine (FitAll.cons (df_fitW (h w (List.mem_cons_self ..))) (dfs_fit fun y hy => h y (List.mem_cons_of_mem _ hy))).le ?_ (Nat.le_refl _)
    have e : sumL ((w :: ws).map dfTx) = (dfTx w).length + sumL (ws.map dfTx) := by
      unfold sumL
      rw [List.map_cons, List.map_cons, List.sum_cons]
    have : 1 ≤ (dfTx w).length := by unfold dfTx; simp
    rw [e]
    omega
theorem prog_fit {ps : List DtT} {ws : List DfW} (h : ProgW ps ws) : Fit (42 * sumL (rowsTx ps ws) + 20) 100 (progT ps ws) := by
  refine (Fit.tup (m := 98) (.cons ((Fit.tup (dts_fit h.pok)).le (Nat.le_refl _) (by decide)) (.cons (Fit.tup (dfs_fit h.wok)) (FitAll.nil (n := 0))))).le ?_ (by decide)
  unfold rowsTx
  rw [sumL_app]
  omega
theorem joinL_len (s : List Nat) : ∀ rs : List (List Nat), (joinL s rs).length ≤ sumL rs + rs.length * s.length
  | [] => Nat.zero_le _
  | r :: rs => by
    show (r ++ rs.flatMap fun x => s ++ x).length ≤ _
    have e : ∀ xs : List (List Nat), (xs.flatMap fun x => s ++ x).length = sumL xs + xs.length * s.length := by
      intro xs
      induction xs with
      | nil => simp [sumL]
      | cons x xs ih =>
        rw [List.flatMap_cons, List.length_append, List.length_append, ih, List.length_cons, Nat.succ_mul]
        have : sumL (x :: xs) = x.length + sumL xs := by
          unfold sumL
          rw [List.map_cons, List.sum_cons]
        omega
    have e2 : sumL (r :: rs) = r.length + sumL rs := by
      unfold sumL
      rw [List.map_cons, List.sum_cons]
    rw [List.length_append, e, e2, List.length_cons, Nat.succ_mul]
    omega
/-! ### promises -/
def spBrackN : Sp := fun vs H Q _ => ∃ (p : Addr) (a : Str) (bs : List Str), vs = [.ref p] ∧ H p = some (.lst ((a :: bs).map V.str)) ∧ a.length + (blN bs).length ≤ 1000000 ∧ Q (.str ⟨(40 :: (nmL a ++ (blN bs ++ [41]))).toArray⟩) H
theorem brackN : ∀ vs H Q E, spBracketed vs H Q E → spBrackN vs H Q E := fun vs H Q E ⟨p, a, b, c, e, hp, ha, hb, hc, k⟩ => by
  refine ⟨p, a, [b, c], e, hp, ?_, ?_⟩
  · rw [bl_len]
    show a.length + (b.length + (c.length + 0) + 2) ≤ 1000000
    omega
  · have e2 : (40 :: (nmL a ++ (blN [b, c] ++ [41]))) = 40 :: (a.cps.toList ++ 32 :: (b.cps.toList ++ 32 :: (c.cps.toList ++ [41]))) := by
      rw [bl_cons, bl_one]
      simp
    rw [e2]
    exact k
def spPText (K : PySem.W.Frag) : Sp := fun vs H Q _ => ∃ (N : Addr → Prop) (v : V) (ps : List DtT) (ws : List DfW), vs = [v] ∧ Da K N H v (progT ps ws) ∧ ProgW ps ws ∧ sumL (rowsTx ps ws) ≤ 200000 ∧ ∀ H', Same H H' → Q (.str ⟨(joinL [10] (rowsTx ps ws)).toArray⟩) H'
def spReadProg (K : PySem.W.Frag) : Sp := fun vs H Q _ => ∃ (x : Str) (ps : List DtT) (ws : List DfW) (t : List Nat), vs = [.str x] ∧ x.length ≤ 1000000 ∧ ProgW ps ws ∧ sumL (rowsTx ps ws) ≤ 200000 ∧ Dr false (rowsTk ps ws) x.cps.toList t ∧ (∀ c ∈ t, bl c = true) ∧
  ∀ (v : V) (H' : Hp), Da K All H' v (progT ps ws) → Same H H' → Q v H'
def spReadWholeP (K : PySem.W.Frag) (fS fH : Addr) : Sp := fun vs H Q _ => ∃ (x : Str) (ps : List DtT) (ws : List DfW) (t : List Nat), vs = [.str x, .ref fS, .ref fH] ∧ x.length ≤ 1000000 ∧ ProgW ps ws ∧ sumL (rowsTx ps ws) ≤ 200000 ∧ Dr false (rowsTk ps ws) x.cps.toList t ∧ (∀ c ∈ t, bl c = true) ∧
  ∀ (v : V) (H' : Hp), Da K All H' v (progT ps ws) → Same H H' → Q v H'
def spRowsR (K : PySem.W.Frag) (C : Addr) : Sp := fun vs H Q _ => ∃ (r : Addr) (x : Str) (n : Nat) (ps : List DtT) (ws : List DfW), vs = [.ref r, .str "="] ∧ RdAt C H r x n ∧ x.length ≤ 1000000 ∧ 1 ≤ ps.length ∧ ps.length ≤ 100 ∧ ws.length ≤ 100 ∧ (∀ p ∈ ps, DtOk p) ∧ (∀ w ∈ ws, w.Ok) ∧ At x n (rowsTk ps ws) ∧
  ∀ (v : V) (n' : Nat) (H' : Hp), Da K All H' v (progT ps ws) → RdAt C H' r x n' → At x n' [] → Kp r H H' → Q v H'
def spProgR (K : PySem.W.Frag) (C : Addr) : Sp := fun vs H Q _ => ∃ (r : Addr) (x : Str) (n : Nat) (ps : List DtT) (ws : List DfW), vs = [.ref r] ∧ RdAt C H r x n ∧ x.length ≤ 1000000 ∧ 1 ≤ ps.length ∧ ps.length ≤ 100 ∧ ws.length ≤ 100 ∧ (∀ p ∈ ps, DtOk p) ∧ (∀ w ∈ ws, w.Ok) ∧ At x n (rowsTk ps ws) ∧
  ∀ (v : V) (n' : Nat) (H' : Hp), Da K All H' v (progT ps ws) → RdAt C H' r x n' → At x n' [] → Kp r H H' → Q v H'
def spAnyProg (K : PySem.W.Frag) : Sp := fun vs H Q _ => ∃ (p c : Addr), vs = [.ref p] ∧ Pen H p c ∧
  ∀ (v : V) (ps : List DtT) (ws : List DfW) (H' : Hp), Da K All H' v (progT ps ws) → ProgW ps ws → sumL (rowsTx ps ws) ≤ 60000 → Pen H' p c → Kp p H H' → Q v H'
/-! ### behind a written text a token is out: its replacement by another text -/
def PEG (X : Cx) (e : Expr) (t : TE) : Prop :=
  ∀ (pins : List (Addr × Obj)) (s : Shared) (σ : L2.St) (H : Hp) (Q : VK), Inv X pins σ H s → t σ H Q → wpAny (model X.prog X.w) X.A (eval e X.env) (fun v s' => 1 ≤ s'.toks ∧ EP X pins σ Q v s') X.xe s
section
variable {X : Cx} {e : Expr} {te : TE} {es : List Expr} {ta : TA}
theorem pa_grow (ha : PEG X e te) (hr : PAT X es ta) (hs : starEach (e :: es) X.env = (false, eval e X.env) :: starEach es X.env := by rfl) : PA X (e :: es) (tCons te ta) := by
  refine ⟨fun pos pins s σ H Q I h => ?_⟩
  rw [hs]
  show wpAny _ _ (spliced ((false, eval e X.env) :: backTo pos (starEach es X.env))) _ _ s
  refine Calls.spliced_cons (thn (ha pins s σ H _ I h) fun v s1 q => ?_)
  obtain ⟨h1, x, H1, I1, r1, q1⟩ := q
  exact thn (hr pos pins s1 σ H1 _ h1 I1 q1) fun us s2 ⟨xs, H2, I2, r2, q2⟩ => ⟨x :: xs, H2, I2, .cons r1 r2, q2⟩
theorem peg_join {a : Str} {j : Nat} {c0 apos pos : Pos} (he : PE X e te) (hs : starEach [e] X.env = [(false, eval e X.env)] := by rfl)
    (hbase : attributeBase (.Constant (.str a) j c0) "join" X.env (eval (.Constant (.str a) j c0) X.env) = eval (.Constant (.str a) j c0) X.env := by rfl) (hline : (apos.endLine == pos.line) = true := by rfl) :
    PEG X (.Call (.Attribute (.Constant (.str a) j c0) "join" apos) [e] [] pos) (tM1 (fun x xs H Q => ∃ a p, ∃ ys : List Str, x = .str a ∧ xs = [.ref p] ∧ (SqL X.K H p (ys.map V.str) ∨ SqT X.K H p (ys.map V.str)) ∧
      (ys.map (·.length)).sum + ys.length * a.length ≤ 16777216 ∧ Q (.str (Txt.join a ys)) H) (tC (.str a)) te) := by
  intro pins s σ H Q I h
  obtain ⟨_, h⟩ := h
  refine PySem.Call_method1 hbase hs hline (Calls.Constant_str ?_)
  refine ⟨"str", _, F.plainAttrs_str, F.slot_str_join, F.type_str_join, typeIs_str _ _ _, (fun _ e => nomatch e), Calls.callWith_builtin rfl (Calls.evalArgs_plain (Calls.spliced_cons ?_))⟩
  refine wpAny_mono (PySem.wpAny_toks (he.run pins { s with toks := s.toks + 1 } σ H _ (I.tok _) h)) (fun u s2 q => ?_) fun _ _ z => z.2
  obtain ⟨hk, y, H2, I2, r2, q2⟩ := q
  have h1 : 1 ≤ s2.toks := Nat.le_trans (Nat.le_add_left 1 s.toks) hk
  exact Calls.spliced_nil (wpAny_mono (PySem.wpAny_toks_of h1 (mt_join pins s2 σ H2 _ [y] _ [u] Q I2 (show RelV (V.str a) (Value.str a s.toks) from ⟨s.toks, rfl⟩) (.cons r2 .nil) q2)) (fun _ _ z => z) fun _ _ z => z.2)
end
end Ow
namespace Ow
open PySem PySem.Spec PyProof.Rows L2
/-- what the next row may begin with -/
def signZ : Nat → Nat → Str
  | _, _ + 1 => Str.ofString "@"
  | 0, 0 => Str.ofString "="
  | _ + 1, 0 => Str.ofString "=@"
theorem signZ_eq {p w : Nat} (h : w = 0) : 61 ∈ (signZ p w).cps.toList := by
  subst h
  cases p with
  | zero => show 61 ∈ (Str.ofString "=").cps.toList; decide +kernel
  | succ p => show 61 ∈ (Str.ofString "=@").cps.toList; decide +kernel
theorem signZ_at {p w : Nat} (h : 1 ≤ p) : 64 ∈ (signZ p w).cps.toList := by
  obtain ⟨p, rfl⟩ : ∃ q, p = q + 1 := ⟨p - 1, by omega⟩
  cases w with
  | zero => show 64 ∈ (Str.ofString "=@").cps.toList; decide +kernel
  | succ w => show 64 ∈ (Str.ofString "@").cps.toList; decide +kernel
def RowI (K : PySem.W.Frag) (C : Addr) (x : Str) (ps : List DtT) (ws : List DfW) (r D E : Addr) (H : Hp) (extra : List (List Nat)) (m : Nat) (σ : L2.St) (H' : Hp) : Prop :=
  ∃ (us vs : List V) (n : Nat) (ps1 ps2 : List DtT) (ws1 ws2 : List DfW), ps = ps1 ++ ps2 ∧ ws = ws1 ++ ws2 ∧ (ws1 ≠ [] → ps2 = []) ∧ m = ps2.length + ws2.length ∧ σ = [some (.ref r), some (.str (signZ ps1.length ws1.length)), some (.ref D), some (.ref E)] ∧
    H' D = some (.lst us) ∧ H' E = some (.lst vs) ∧ DaAll K All H' us (ps1.map dtD) ∧ DaAll K All H' vs (ws1.map DfW.d) ∧ RdAt C H' r x n ∧ At x n (extra ++ (ps2.flatMap dtTk ++ ws2.flatMap dfTk)) ∧ Kp r H H'
theorem shareT (A : Nat → Hp → Prop) {B : Hp → Prop} {G : Prop} (h : (∀ n H, A n H → B H) → G) (y : ∀ n H, A n H → B H) : G := h y
theorem heads_ne {ps : List DtT} {ws : List DfW} (h : 1 ≤ ps.length + ws.length) : (!decide (V.str (headS (ps.flatMap dtTk ++ ws.flatMap dfTk)) = V.str (Str.ofString ""))) = true := by
  cases ps with
  | cons p ps => exact (by decide : (!decide (V.str ⟨#[40]⟩ = V.str (Str.ofString ""))) = true)
  | nil =>
    cases ws with
    | cons w ws => exact (by decide : (!decide (V.str ⟨#[40]⟩ = V.str (Str.ofString ""))) = true)
    | nil => exact absurd h (by decide)
end Ow

namespace Ow
open PySem PySem.Spec PyProof.Rows L2
section
variable {X : Cx} {K : PySem.W.Frag} {e o : Expr} {es : List Expr} {te to : TE} {t : TA} {p apos pos : Pos}
theorem pa_starK (h : X.K = K) (he : PE X e te) (hr : PA X es t) (hs : starEach (.Starred e p :: es) X.env = (true, eval e X.env) :: starEach es X.env := by rfl) : PA X (.Starred e p :: es) (StX.tStar K te t) := h ▸ StX.pa_star he hr hs
theorem pe_joinK (h : X.K = K) (ho : PE X o to) (he : PE X e te) (hs : starEach [e] X.env = [(false, eval e X.env)] := by rfl) (hbase : attributeBase o "join" X.env (eval o X.env) = eval o X.env := by rfl) (hline : (apos.endLine == pos.line) = true := by rfl) :
    PE X (.Call (.Attribute o "join" apos) [e] [] pos) (tM1 (fun x xs H Q => ∃ a p, ∃ ys : List Str, x = .str a ∧ xs = [.ref p] ∧ (SqL K H p (ys.map V.str) ∨ SqT K H p (ys.map V.str)) ∧
      (ys.map (·.length)).sum + ys.length * a.length ≤ 16777216 ∧ Q (.str (Txt.join a ys)) H) to te) := h ▸ pe_join ho he hs hbase hline
end
def spDText (K : PySem.W.Frag) : Sp := fun vs H Q _ => ∃ (N : Addr → Prop) (d : Str) (t : Addr) (us : List V) (ms : List MkT), vs = [.str d, .ref t] ∧ SqT K H t us ∧ DaAll K N H us (ms.map mkD) ∧ (∀ m ∈ ms, MkOk m) ∧ ms.length ≤ 6 ∧ isNameD (.str d) = true ∧
  ∀ H', Same H H' → Q (.str ⟨(dtTx (d, ms)).toArray⟩) H'
theorem bl_names8 : ∀ {xs : List Str}, (∀ x ∈ xs, isNameD (.str x) = true) → (blN xs).length ≤ 9 * xs.length
  | [], _ => Nat.le_refl _
  | x :: xs, h => by
    have a := (nm_cases (h x (List.mem_cons_self ..))).2.1
    have e : (nmL x).length = x.length := rfl
    have b := bl_names8 (xs := xs) fun y hy => h y (List.mem_cons_of_mem _ hy)
    show (32 :: (nmL x) ++ blN xs).length ≤ _
    rw [List.length_append, List.length_cons, List.length_cons]
    omega
theorem mkTx_len {m : MkT} (h : MkOk m) : (mkTx m).length ≤ 46 := by
  have a := (nm_cases h.nm).2.1
  have e : (nmL m.1).length = m.1.length := rfl
  have b := bl_names8 h.all
  have c := h.len
  unfold mkTx
  simp only [List.length_cons, List.length_append, List.length_nil]
  omega
theorem mksTx_len : ∀ {ms : List MkT}, (∀ m ∈ ms, MkOk m) → (ms.flatMap fun m => 32 :: mkTx m).length ≤ 47 * ms.length
  | [], _ => Nat.le_refl _
  | m :: ms, h => by
    have a := mkTx_len (h m (List.mem_cons_self ..))
    have b := mksTx_len (ms := ms) fun y hy => h y (List.mem_cons_of_mem _ hy)
    rw [List.flatMap_cons, List.length_append, List.length_cons, List.length_cons]
    omega
theorem dtTx_len {p : DtT} (h : DtOk p) : (dtTx p).length ≤ 300 := by
  have a := (nm_cases h.nm).2.1
  have e : (nmL p.1).length = p.1.length := rfl
  have b := mksTx_len h.all
  have c := h.len
  unfold dtTx
  simp only [List.length_cons, List.length_append, List.length_nil]
  omega
theorem bl_flat : ∀ ms : List MkT, blN (ms.map fun m => (⟨(mkTx m).toArray⟩ : Str)) = ms.flatMap fun m => 32 :: mkTx m
  | [] => rfl
  | m :: ms => by
    rw [List.map_cons, bl_cons, str_mk, bl_flat ms, List.flatMap_cons]
    rfl
theorem dtTx_bl (d : Str) (ms : List MkT) : dtTx (d, ms) = 40 :: (nmL (Str.ofString "=") ++ (blN (d :: ms.map fun m => (⟨(mkTx m).toArray⟩ : Str)) ++ [41])) := by
  rw [bl_cons, bl_flat]
  have : nmL (Str.ofString "=") = [61] := rfl
  rw [this]
  unfold dtTx
  simp
theorem mkTx_bl (m : MkT) : mkTx m = 40 :: (nmL m.1 ++ (blN m.2 ++ [41])) := rfl
theorem dfTx_bl (w : DfW) : dfTx w = 40 :: (nmL (Str.ofString "@") ++ (blN [w.f, ⟨(ktL 6 w.k).toArray⟩, ⟨w.tx.toArray⟩] ++ [41])) := by
  have e1 : nmL (⟨(ktL 6 w.k).toArray⟩ : Str) = ktL 6 w.k := str_mk _
  have e2 : nmL (⟨w.tx.toArray⟩ : Str) = w.tx := str_mk _
  have e3 : nmL (Str.ofString "@") = [64] := rfl
  rw [bl_cons, bl_cons, bl_one, e1, e2, e3]
  unfold dfTx
  simp
theorem sumL_cons (w : List Nat) (ws : List (List Nat)) : sumL (w :: ws) = w.length + sumL ws := by
  unfold sumL
  rw [List.map_cons, List.sum_cons]
theorem sumL_mem : ∀ {ws : List (List Nat)} {w : List Nat}, w ∈ ws → w.length ≤ sumL ws
  | x :: ws, w, h => by
    rw [sumL_cons]
    rcases List.mem_cons.mp h with rfl | h
    · omega
    · have := sumL_mem h
      omega
/-- texts as strings -/
def txts (ls : List (List Nat)) : List Str := ls.map fun l => ⟨l.toArray⟩
theorem txts_nm (ls : List (List Nat)) : (txts ls).map nmL = ls := by
  unfold txts
  rw [List.map_map]
  conv => rhs; rw [← List.map_id ls]
  refine List.map_congr_left fun l _ => ?_
  exact str_mk l
theorem txts_sum (ls : List (List Nat)) : ((txts ls).map (·.length)).sum = sumL ls := by
  unfold txts sumL
  rw [List.map_map]
  have e : ls.map ((fun x : Str => x.length) ∘ fun l => (⟨l.toArray⟩ : Str)) = ls.map List.length := List.map_congr_left fun l _ => len_mk l
  rw [e]
theorem txts_app (a b : List (List Nat)) : txts (a ++ b) = txts a ++ txts b := by
  unfold txts
  rw [List.map_append]
theorem txts_len (a : List (List Nat)) : (txts a).length = a.length := by
  unfold txts
  rw [List.length_map]
theorem join_txts (ls : List (List Nat)) : Txt.join "\n" (txts ls) = ⟨(joinL [10] ls).toArray⟩ := by
  refine str_ext ?_
  have e := join_is "\n" (txts ls)
  rw [txts_nm] at e
  exact e.trans (str_mk _).symm
theorem sum_le_len : ∀ {ls : List (List Nat)}, (∀ l ∈ ls, 1 ≤ l.length) → ls.length ≤ sumL ls
  | [], _ => Nat.le_refl _
  | l :: ls, h => by
    have a := h l (List.mem_cons_self ..)
    have b := sum_le_len (ls := ls) fun y hy => h y (List.mem_cons_of_mem _ hy)
    rw [sumL_cons, List.length_cons]
    omega
end Ow

namespace Ow
open PySem PySem.Spec PyProof.Rows L2
theorem unlike_front {a b : List Str} (h : dd [] (a ++ b) = a ++ b) : unlikeN a = true := by
  have e := congrArg List.length h
  rw [dd_app, List.length_append] at e
  have l1 := dd_len b (dd [] a)
  have l2 := dd_len a []
  unfold unlikeN
  refine decide_eq_true ?_
  have : ([] : List Str).length = 0 := rfl
  omega
theorem take_succ_app {α : Type} {xs : List α} {i : Nat} {x : α} (h : xs[i]? = some x) : xs.take (i + 1) = xs.take i ++ [x] := by
  rw [List.take_add_one, h]
  rfl
theorem mksOf_app (ps : List DtT) (d : DtT) : mksOf (ps ++ [d]) = mksOf ps ++ d.2 := by
  unfold mksOf
  rw [List.flatMap_append]
  simp
theorem fldsOf_app (ps : List DtT) (d : DtT) : fldsOf (ps ++ [d]) = fldsOf ps ++ d.2.flatMap (·.2) := by
  unfold fldsOf
  rw [mksOf_app, List.flatMap_append]
theorem sumL_dts : ∀ {ps : List DtT}, (∀ p ∈ ps, DtOk p) → sumL (ps.map dtTx) ≤ 300 * ps.length
  | [], _ => Nat.le_refl _
  | p :: ps, h => by
    have a := dtTx_len (h p (List.mem_cons_self ..))
    have b := sumL_dts (ps := ps) fun y hy => h y (List.mem_cons_of_mem _ hy)
    rw [List.map_cons, sumL_cons, List.length_cons]
    omega
theorem sumL_dfs : ∀ {ws : List DfW}, (∀ w ∈ ws, (dfTx w).length ≤ 800) → sumL (ws.map dfTx) ≤ 800 * ws.length
  | [], _ => Nat.le_refl _
  | w :: ws, h => by
    have a := h w (List.mem_cons_self ..)
    have b := sumL_dfs (ws := ws) fun y hy => h y (List.mem_cons_of_mem _ hy)
    rw [List.map_cons, sumL_cons, List.length_cons]
    omega
end Ow

namespace Ow
open PySem PySem.Spec PyProof.Rows L2
def top (i : Nat) : Stmt := PySem.Challenge.pw_oncewire_k09_programs_written_and_read.main.body.getD i (.Pass ⟨0, 0, 0, 0⟩)
abbrev s_is_row : Stmt := top 15
abbrev sl_is_row : List Str := ["thing", "least", "most"]
theorem sc_is_row : FnScope sl_is_row ["thing", "least", "most"] (defScope s_is_row) := ⟨rfl, rfl, rfl, by decide +kernel, rfl, by decide +kernel, by decide +kernel⟩
abbrev s_are_unlike : Stmt := top 16
abbrev sl_are_unlike : List Str := ["names"]
theorem sc_are_unlike : FnScope sl_are_unlike ["names"] (defScope s_are_unlike) := ⟨rfl, rfl, rfl, by decide +kernel, rfl, by decide +kernel, by decide +kernel⟩
abbrev s_is_name : Stmt := top 17
abbrev sl_is_name : List Str := ["thing", "letter"]
theorem sc_is_name : FnScope sl_is_name ["thing"] (defScope s_is_name) := ⟨rfl, rfl, rfl, by decide +kernel, rfl, by decide +kernel, by decide +kernel⟩
abbrev s_is_kind : Stmt := top 18
abbrev sl_is_kind : List Str := ["thing"]
theorem sc_is_kind : FnScope sl_is_kind ["thing"] (defScope s_is_kind) := ⟨rfl, rfl, rfl, by decide +kernel, rfl, by decide +kernel, by decide +kernel⟩
abbrev s_is_kind_within : Stmt := top 19
abbrev sl_is_kind_within : List Str := ["thing", "most"]
theorem sc_is_kind_within : FnScope sl_is_kind_within ["thing", "most"] (defScope s_is_kind_within) := ⟨rfl, rfl, rfl, by decide +kernel, rfl, by decide +kernel, by decide +kernel⟩
abbrev s_is_term : Stmt := top 20
abbrev sl_is_term : List Str := ["thing", "rows", "many", "one", "within", "_", "inner"]
theorem sc_is_term : FnScope sl_is_term ["thing"] (defScope s_is_term) := ⟨rfl, rfl, rfl, by decide +kernel, rfl, by decide +kernel, by decide +kernel⟩
abbrev s_is_formed : Stmt := top 21
abbrev sl_is_formed : List Str := ["thing", "slots", "slot", "item"]
theorem sc_is_formed : FnScope sl_is_formed ["thing"] (defScope s_is_formed) := ⟨rfl, rfl, rfl, by decide +kernel, rfl, by decide +kernel, by decide +kernel⟩
abbrev s_fits_slot : Stmt := top 22
abbrev sl_fits_slot : List Str := ["slot", "thing", "row"]
theorem sc_fits_slot : FnScope sl_fits_slot ["slot", "thing"] (defScope s_fits_slot) := ⟨rfl, rfl, rfl, by decide +kernel, rfl, by decide +kernel, by decide +kernel⟩
abbrev s_is_case : Stmt := top 23
abbrev sl_is_case : List Str := ["thing", "maker", "names", "_", "name"]
theorem sc_is_case : FnScope sl_is_case ["thing"] (defScope s_is_case) := ⟨rfl, rfl, rfl, by decide +kernel, rfl, by decide +kernel, by decide +kernel⟩
abbrev s_below : Stmt := top 24
abbrev sl_below : List Str := ["term", "inner", "_", "names"]
theorem sc_below : FnScope sl_below ["term"] (defScope s_below) := ⟨rfl, rfl, rfl, by decide +kernel, rfl, by decide +kernel, by decide +kernel⟩
abbrev s_is_program : Stmt := top 25
abbrev sl_is_program : List Str := ["thing"]
theorem sc_is_program : FnScope sl_is_program ["thing"] (defScope s_is_program) := ⟨rfl, rfl, rfl, by decide +kernel, rfl, by decide +kernel, by decide +kernel⟩
abbrev s_are_datas : Stmt := top 26
abbrev sl_are_datas : List Str := ["thing", "row", "datas", "name", "_", "makers", "rows", "maker", "fields", "field"]
theorem sc_are_datas : FnScope sl_are_datas ["thing"] (defScope s_are_datas) := ⟨rfl, rfl, rfl, by decide +kernel, rfl, by decide +kernel, by decide +kernel⟩
abbrev s_is_data : Stmt := top 27
abbrev sl_is_data : List Str := ["thing", "row"]
theorem sc_is_data : FnScope sl_is_data ["thing"] (defScope s_is_data) := ⟨rfl, rfl, rfl, by decide +kernel, rfl, by decide +kernel, by decide +kernel⟩
abbrev s_is_maker : Stmt := top 28
abbrev sl_is_maker : List Str := ["thing", "field"]
theorem sc_is_maker : FnScope sl_is_maker ["thing"] (defScope s_is_maker) := ⟨rfl, rfl, rfl, by decide +kernel, rfl, by decide +kernel, by decide +kernel⟩
abbrev s_are_defs : Stmt := top 29
abbrev sl_are_defs : List Str := ["thing", "row", "name", "_"]
theorem sc_are_defs : FnScope sl_are_defs ["thing"] (defScope s_are_defs) := ⟨rfl, rfl, rfl, by decide +kernel, rfl, by decide +kernel, by decide +kernel⟩
abbrev s_is_def : Stmt := top 30
abbrev sl_is_def : List Str := ["thing"]
theorem sc_is_def : FnScope sl_is_def ["thing"] (defScope s_is_def) := ⟨rfl, rfl, rfl, by decide +kernel, rfl, by decide +kernel, by decide +kernel⟩
abbrev s_Reader_init : Stmt := inClass (top 35) 0
abbrev sl_Reader_init : List Str := ["self", "text"]
theorem sc_Reader_init : FnScope sl_Reader_init ["self", "text"] (defScope s_Reader_init) := ⟨rfl, rfl, rfl, by decide +kernel, rfl, by decide +kernel, by decide +kernel⟩
abbrev s_Reader_peek : Stmt := inClass (top 35) 1
abbrev sl_Reader_peek : List Str := ["self"]
theorem sc_Reader_peek : FnScope sl_Reader_peek ["self"] (defScope s_Reader_peek) := ⟨rfl, rfl, rfl, by decide +kernel, rfl, by decide +kernel, by decide +kernel⟩
abbrev s_Reader_take : Stmt := inClass (top 35) 2
abbrev sl_Reader_take : List Str := ["self", "signs", "sign"]
theorem sc_Reader_take : FnScope sl_Reader_take ["self", "signs"] (defScope s_Reader_take) := ⟨rfl, rfl, rfl, by decide +kernel, rfl, by decide +kernel, by decide +kernel⟩
abbrev s_Reader_take_name : Stmt := inClass (top 35) 3
abbrev sl_Reader_take_name : List Str := ["self", "start"]
theorem sc_Reader_take_name : FnScope sl_Reader_take_name ["self"] (defScope s_Reader_take_name) := ⟨rfl, rfl, rfl, by decide +kernel, rfl, by decide +kernel, by decide +kernel⟩
abbrev s_Reader_finish : Stmt := inClass (top 35) 4
abbrev sl_Reader_finish : List Str := ["self"]
theorem sc_Reader_finish : FnScope sl_Reader_finish ["self"] (defScope s_Reader_finish) := ⟨rfl, rfl, rfl, by decide +kernel, rfl, by decide +kernel, by decide +kernel⟩
abbrev s_read_name : Stmt := top 36
abbrev sl_read_name : List Str := ["reader"]
theorem sc_read_name : FnScope sl_read_name ["reader"] (defScope s_read_name) := ⟨rfl, rfl, rfl, by decide +kernel, rfl, by decide +kernel, by decide +kernel⟩
abbrev s_read_until : Stmt := top 37
abbrev sl_read_until : List Str := ["reader", "read", "sign", "told"]
theorem sc_read_until : FnScope sl_read_until ["reader", "read", "sign"] (defScope s_read_until) := ⟨rfl, rfl, rfl, by decide +kernel, rfl, by decide +kernel, by decide +kernel⟩
abbrev s_signs_of_kind : Stmt := top 38
abbrev sl_signs_of_kind : List Str := ["reader", "sign", "one", "other"]
theorem sc_signs_of_kind : FnScope sl_signs_of_kind ["reader"] (defScope s_signs_of_kind) := ⟨rfl, rfl, rfl, by decide +kernel, rfl, by decide +kernel, by decide +kernel⟩
abbrev s_signs_of_term : Stmt := top 39
abbrev sl_signs_of_term : List Str := ["reader", "told", "slot", "action"]
theorem sc_signs_of_term : FnScope sl_signs_of_term ["reader"] (defScope s_signs_of_term) := ⟨rfl, rfl, rfl, by decide +kernel, rfl, by decide +kernel, by decide +kernel⟩
abbrev s_signs_of_terms : Stmt := top 40
abbrev sl_signs_of_terms : List Str := ["reader"]
theorem sc_signs_of_terms : FnScope sl_signs_of_terms ["reader"] (defScope s_signs_of_terms) := ⟨rfl, rfl, rfl, by decide +kernel, rfl, by decide +kernel, by decide +kernel⟩
abbrev s_signs_of_cases : Stmt := top 41
abbrev sl_signs_of_cases : List Str := ["reader", "first"]
theorem sc_signs_of_cases : FnScope sl_signs_of_cases ["reader"] (defScope s_signs_of_cases) := ⟨rfl, rfl, rfl, by decide +kernel, rfl, by decide +kernel, by decide +kernel⟩
abbrev s_signs_of_case : Stmt := top 42
abbrev sl_signs_of_case : List Str := ["reader", "maker", "names", "term"]
theorem sc_signs_of_case : FnScope sl_signs_of_case ["reader"] (defScope s_signs_of_case) := ⟨rfl, rfl, rfl, by decide +kernel, rfl, by decide +kernel, by decide +kernel⟩
abbrev s_signs_of_program : Stmt := top 44
abbrev sl_signs_of_program : List Str := ["reader"]
theorem sc_signs_of_program : FnScope sl_signs_of_program ["reader"] (defScope s_signs_of_program) := ⟨rfl, rfl, rfl, by decide +kernel, rfl, by decide +kernel, by decide +kernel⟩
abbrev s_signs_of_rows : Stmt := top 45
abbrev sl_signs_of_rows : List Str := ["reader", "signs", "datas", "defs"]
theorem sc_signs_of_rows : FnScope sl_signs_of_rows ["reader", "signs"] (defScope s_signs_of_rows) := ⟨rfl, rfl, rfl, by decide +kernel, rfl, by decide +kernel, by decide +kernel⟩
abbrev s_signs_of_data : Stmt := top 46
abbrev sl_signs_of_data : List Str := ["reader", "name", "first"]
theorem sc_signs_of_data : FnScope sl_signs_of_data ["reader"] (defScope s_signs_of_data) := ⟨rfl, rfl, rfl, by decide +kernel, rfl, by decide +kernel, by decide +kernel⟩
abbrev s_signs_of_maker : Stmt := top 47
abbrev sl_signs_of_maker : List Str := ["reader", "name", "fields"]
theorem sc_signs_of_maker : FnScope sl_signs_of_maker ["reader"] (defScope s_signs_of_maker) := ⟨rfl, rfl, rfl, by decide +kernel, rfl, by decide +kernel, by decide +kernel⟩
abbrev s_signs_of_def : Stmt := top 48
abbrev sl_signs_of_def : List Str := ["reader", "name", "kind"]
theorem sc_signs_of_def : FnScope sl_signs_of_def ["reader"] (defScope s_signs_of_def) := ⟨rfl, rfl, rfl, by decide +kernel, rfl, by decide +kernel, by decide +kernel⟩
abbrev s_kind_text : Stmt := top 50
abbrev sl_kind_text : List Str := ["kind"]
theorem sc_kind_text : FnScope sl_kind_text ["kind"] (defScope s_kind_text) := ⟨rfl, rfl, rfl, by decide +kernel, rfl, by decide +kernel, by decide +kernel⟩
abbrev s_term_text : Stmt := top 51
abbrev sl_term_text : List Str := ["term"]
theorem sc_term_text : FnScope sl_term_text ["term"] (defScope s_term_text) := ⟨rfl, rfl, rfl, by decide +kernel, rfl, by decide +kernel, by decide +kernel⟩
abbrev s_text_with : Stmt := top 52
abbrev sl_text_with : List Str := ["term", "unshown", "told", "rows", "one"]
theorem sc_text_with : FnScope sl_text_with ["term", "unshown"] (defScope s_text_with) := ⟨rfl, rfl, rfl, by decide +kernel, rfl, by decide +kernel, by decide +kernel⟩
abbrev s_spelled : Stmt := top 53
abbrev sl_spelled : List Str := ["term", "told", "slot", "item", "inner", "maker", "names"]
theorem sc_spelled : FnScope sl_spelled ["term"] (defScope s_spelled) := ⟨rfl, rfl, rfl, by decide +kernel, rfl, by decide +kernel, by decide +kernel⟩
abbrev s_program_text : Stmt := top 54
abbrev sl_program_text : List Str := ["program", "datas", "defs", "rows", "name", "makers", "kind", "term"]
theorem sc_program_text : FnScope sl_program_text ["program"] (defScope s_program_text) := ⟨rfl, rfl, rfl, by decide +kernel, rfl, by decide +kernel, by decide +kernel⟩
abbrev s_data_text : Stmt := top 55
abbrev sl_data_text : List Str := ["name", "makers", "maker", "fields"]
theorem sc_data_text : FnScope sl_data_text ["name", "makers"] (defScope s_data_text) := ⟨rfl, rfl, rfl, by decide +kernel, rfl, by decide +kernel, by decide +kernel⟩
abbrev s_bracketed : Stmt := top 56
abbrev sl_bracketed : List Str := ["words"]
theorem sc_bracketed : FnScope sl_bracketed ["words"] (defScope s_bracketed) := ⟨rfl, rfl, rfl, by decide +kernel, rfl, by decide +kernel, by decide +kernel⟩
abbrev s_read_program : Stmt := top 57
abbrev sl_read_program : List Str := ["text"]
theorem sc_read_program : FnScope sl_read_program ["text"] (defScope s_read_program) := ⟨rfl, rfl, rfl, by decide +kernel, rfl, by decide +kernel, by decide +kernel⟩
abbrev s_read_whole : Stmt := top 58
abbrev sl_read_whole : List Str := ["text", "read", "holds", "reader", "thing"]
theorem sc_read_whole : FnScope sl_read_whole ["text", "read", "holds"] (defScope s_read_whole) := ⟨rfl, rfl, rfl, by decide +kernel, rfl, by decide +kernel, by decide +kernel⟩
abbrev s_law_pen : Stmt := top 60
abbrev sl_law_pen : List Str := ["_law_script"]
theorem sc_law_pen : FnScope sl_law_pen ["_law_script"] (defScope s_law_pen) := ⟨rfl, rfl, rfl, by decide +kernel, rfl, by decide +kernel, by decide +kernel⟩
abbrev s_law_fresh : Stmt := top 61
abbrev sl_law_fresh : List Str := ["_law_pen_here", "_law_spot", "_law_cell", "_law_one", "_law_two", "_law_three"]
theorem sc_law_fresh : FnScope sl_law_fresh ["_law_pen_here"] (defScope s_law_fresh) := ⟨rfl, rfl, rfl, by decide +kernel, rfl, by decide +kernel, by decide +kernel⟩
abbrev s_law_draw : Stmt := top 62
abbrev sl_law_draw : List Str := ["_law_pen_here", "_law_below", "_law_found"]
theorem sc_law_draw : FnScope sl_law_draw ["_law_pen_here", "_law_below"] (defScope s_law_draw) := ⟨rfl, rfl, rfl, by decide +kernel, rfl, by decide +kernel, by decide +kernel⟩
abbrev s_law_name : Stmt := top 63
abbrev sl_law_name : List Str := ["_law_pen_here", "_law_gone", "_law_letters", "_law_found", "_law_turn", "_law_front", "_law_k"]
theorem sc_law_name : FnScope sl_law_name ["_law_pen_here", "_law_gone"] (defScope s_law_name) := ⟨rfl, rfl, rfl, by decide +kernel, rfl, by decide +kernel, by decide +kernel⟩
abbrev s_law_any_kind : Stmt := top 64
abbrev sl_law_any_kind : List Str := ["_law_pen_here", "_law_deep"]
theorem sc_law_any_kind : FnScope sl_law_any_kind ["_law_pen_here", "_law_deep"] (defScope s_law_any_kind) := ⟨rfl, rfl, rfl, by decide +kernel, rfl, by decide +kernel, by decide +kernel⟩
abbrev s_law_unlike : Stmt := top 65
abbrev sl_law_unlike : List Str := ["_law_pen_here", "_law_often", "_law_found", "_law_turn"]
theorem sc_law_unlike : FnScope sl_law_unlike ["_law_pen_here", "_law_often"] (defScope s_law_unlike) := ⟨rfl, rfl, rfl, by decide +kernel, rfl, by decide +kernel, by decide +kernel⟩
abbrev s_law_any : Stmt := top 66
abbrev sl_law_any : List Str := ["_law_pen_here", "_law_deep", "_law_road", "_law_some", "_law_k", "_law_first", "_law_cases", "_law_turn", "_law_names", "_law_x", "_law_y"]
theorem sc_law_any : FnScope sl_law_any ["_law_pen_here", "_law_deep"] (defScope s_law_any) := ⟨rfl, rfl, rfl, by decide +kernel, rfl, by decide +kernel, by decide +kernel⟩
abbrev s_law_kind_text : Stmt := top 67
abbrev sl_law_kind_text : List Str := ["_law_kind"]
theorem sc_law_kind_text : FnScope sl_law_kind_text ["_law_kind"] (defScope s_law_kind_text) := ⟨rfl, rfl, rfl, by decide +kernel, rfl, by decide +kernel, by decide +kernel⟩
abbrev s_law_term_text : Stmt := top 68
abbrev sl_law_term_text : List Str := ["_law_term", "_law_bits", "_law_one", "_law_maker", "_law_names"]
theorem sc_law_term_text : FnScope sl_law_term_text ["_law_term"] (defScope s_law_term_text) := ⟨rfl, rfl, rfl, by decide +kernel, rfl, by decide +kernel, by decide +kernel⟩
abbrev s_law_tokens : Stmt := top 69
abbrev sl_law_tokens : List Str := ["_law_text", "_law_found", "_law_inside", "_law_sign", "_law_letter"]
theorem sc_law_tokens : FnScope sl_law_tokens ["_law_text"] (defScope s_law_tokens) := ⟨rfl, rfl, rfl, by decide +kernel, rfl, by decide +kernel, by decide +kernel⟩
abbrev s_law_dressed : Stmt := top 70
abbrev sl_law_dressed : List Str := ["_law_pen_here", "_law_text", "_law_found", "_law_last", "_law_one", "_law_least", "_law_often", "_law_k"]
theorem sc_law_dressed : FnScope sl_law_dressed ["_law_pen_here", "_law_text"] (defScope s_law_dressed) := ⟨rfl, rfl, rfl, by decide +kernel, rfl, by decide +kernel, by decide +kernel⟩
abbrev s_law_any_program : Stmt := top 71
abbrev sl_law_any_program : List Str := ["_law_pen_here", "_law_sorts", "_law_makers", "_law_datas", "_law_spot", "_law_often", "_law_own", "_law_maker", "_law_fields", "_law_k", "_law_defs", "_law_f"]
theorem sc_law_any_program : FnScope sl_law_any_program ["_law_pen_here"] (defScope s_law_any_program) := ⟨rfl, rfl, rfl, by decide +kernel, rfl, by decide +kernel, by decide +kernel⟩
abbrev s_law_program_text : Stmt := top 72
abbrev sl_law_program_text : List Str := ["_law_program", "_law_found", "_law_kind", "_law_makers", "_law_bits", "_law_maker", "_law_fields", "_law_f", "_law_term"]
theorem sc_law_program_text : FnScope sl_law_program_text ["_law_program"] (defScope s_law_program_text) := ⟨rfl, rfl, rfl, by decide +kernel, rfl, by decide +kernel, by decide +kernel⟩
abbrev s_law : Stmt := top 73
abbrev sl_law : List Str := ["_law_script", "_law_pen_here", "_law_turn", "_law_program", "_law_seen", "_law_text", "_law_other"]
theorem sc_law : FnScope sl_law ["_law_script"] (defScope s_law) := ⟨rfl, rfl, rfl, by decide +kernel, rfl, by decide +kernel, by decide +kernel⟩
section
variable {P : Program} {w : World} {K : PySem.W.Frag} {mg : Str → Option Value} {base : Heap}
theorem ok_pen (D : DefAt K mg "_law_pen" s_law_pen ["_law_script"]) (T : Bl mg) : CallOk P w K mg base 1 "_law_pen" ["_law_script"] (spPen K) := by
  refine D.ok sc_law_pen (fun vs H Q E h => ?_) (fun f cdv A outer s H vs Q E hr h => ?_)
  · obtain ⟨a, ns, rfl, _⟩ := h
    rfl
  · obtain ⟨a, ns, rfl, hS, hl, k⟩ := h
    refine ⟨_, (pss_one (ps_ret (pe_lst (pa_cons (pe_callTy call_list_of (by rfl) T.list_ (by decide +kernel) (pa_cons (pe_slice sl_list (pv 0) po_none (po_some pe_int)) pa_nil)) (pa_cons pe_int (pa_cons pe_int pa_nil)))))), ?_⟩
    refine ⟨_, rfl, 60, rfl, a, ns.map V.int, rfl, hS, fun q hq => ?_⟩
    refine ⟨q, _, rfl, .inl (SqL.of upd_same), fun r hr2 => ?_⟩
    refine ⟨le_line (by show 3 ≤ 16000000; decide), fun p hp => ?_⟩
    have n1 : r ≠ p := ne_of_none upd_same hp
    have s1 : Same H (upd (upd (upd H q (.lst (cutV (ns.map V.int) none (some 60)))) r (.lst (cutV (ns.map V.int) none (some 60)))) p (.lst [.ref r, .int 0, .int 0])) := Same.lay (Same.lay (same_new hq) hr2) hp
    refine k p r _ ⟨⟨0, 0, upd_same⟩, ns.take (min 60 ns.length), ?_, ?_⟩ s1 ?_ ?_
    · rw [upd_ne n1, upd_same, show ((60 : Int)) = ((60 : Nat) : Int) from rfl, cut_front]
    · rw [List.length_take]
      omega
    · exact (Same.lay (same_new hq) hr2).free hp
    · exact (same_new hq).free hr2
theorem ok_fresh (D : DefAt K mg "_law_fresh" s_law_fresh ["_law_pen_here"]) (T : Bl mg) : CallOk P w K mg base 1 "_law_fresh" ["_law_pen_here"] spFresh := by
  refine D.ok sc_law_fresh (fun vs H Q E h => ?_) (fun f cdv A outer s H vs Q E hr h => ?_)
  · obtain ⟨p, c, rfl, _⟩ := h
    rfl
  · obtain ⟨p, c, rfl, hP, k⟩ := h
    refine ⟨_, (pss_cons (ps_set (i := 1) sc_law_fresh.nd rfl (Or.inl rfl) (pe_ix ix_list (pv 0) pe_int (fun _ _ => rfl)))
        (pss_cons (ps_asg (pe_op opAdd (pv 1) pe_int) (pg_sub (pv 0) pe_int set_list))
        (pss_cons (ps_set (i := 2) sc_law_fresh.nd rfl (Or.inl rfl) (pe_op op_mul (pv 1) pe_int))
        (Evl.pss_cut (ps_if (pt_cmpR (op_neD hr.units) (pe_ix ix_list (pv 0) pe_int (fun _ _ => rfl)) (pe_lst pa_nil) (nomark _)) (pss_one (ps_set (i := 2) sc_law_fresh.nd rfl (Or.inl rfl) (pe_ix ix_list (pe_ix ix_list (pv 0) pe_int (fun _ _ => rfl)) (pe_op op_mod (pv 1) (pe_callB call_len_seq (by rfl) T.len_ (by decide +kernel) (pa_cons (pe_ix ix_list (pv 0) pe_int (fun _ _ => rfl)) pa_nil))) (fun _ _ => rfl)))) pss_nil)
        (pss_cons (ps_if (PW.pt (pw_and (pt_cmpR op_lt (pv 1) (pe_callB call_len_seq (by rfl) T.len_ (by decide +kernel) (pa_cons (pe_ix ix_list (pv 0) pe_int (fun _ _ => rfl)) pa_nil)) (nomark _)) (pw_and1 (pt_cmpR op_ge (pv 2) (pe_op op_pow pe_int pe_int) (nomark _))))) (pss_one (ps_ret (pv 2))) pss_nil)
        (pss_cons (ps_set (i := 3) sc_law_fresh.nd rfl (Or.inl rfl) (pe_op op_mod (pe_op opAdd (pe_op opAdd (pe_op op_mod (pv 2) pe_int) (pe_op op_mul (pv 1) pe_int)) pe_int) pe_int))
        (pss_cons (ps_set (i := 4) sc_law_fresh.nd rfl (Or.inl rfl) (pe_op op_mod (pe_op opAdd (pe_op opAdd (pe_op op_mul (pv 3) (pv 3)) (pe_op op_mul (pv 1) pe_int)) pe_int) pe_int))
        (pss_cons (ps_set (i := 5) sc_law_fresh.nd rfl (Or.inl rfl) (pe_op op_mod (pe_op opAdd (pe_op op_mul (pv 4) (pv 4)) (pe_op op_mul (pv 3) (pe_op opAdd (pv 1) pe_int))) pe_int))
        (pss_one (ps_ret (pe_op opAdd (pe_op op_mul (pe_op opAdd (pe_op op_mul (pv 5) pe_int) (pv 4)) pe_int) (pv 3)))))))))))), ?_⟩
    obtain ⟨⟨z, r, h1⟩, _⟩ := id hP
    -- spot, and the next one's
    refine ⟨_, rfl, p, _, 1, _, rfl, rfl, SqL.of h1, rfl, ?_⟩
    refine ⟨_, rfl, .inl ⟨_, _, rfl, rfl, ?_⟩⟩
    refine ⟨_, rfl, p, _, 1, 1, rfl, rfl, h1, rfl, ?_⟩
    have hP1 : Pen (upd H p (.lst [.ref c, .int (z + 1), .int r])) p c := hP.put
    have k1 : Kp p H (upd H p (.lst [.ref c, .int (z + 1), .int r])) := Kp.self
    show tSeq _ _ _ _ (upd H p (.lst [.ref c, .int (z + 1), .int r]))
    generalize upd H p (.lst [.ref c, .int (z + 1), .int r]) = H1 at hP1 k1
    obtain ⟨⟨z1, r1, h1'⟩, cs, h2, hl⟩ := id hP1
    refine ⟨_, rfl, _, _, rfl, rfl, .inr ⟨by decide, by decide⟩, ?_⟩
    -- the cell, where there are any
    refine ⟨fun σ H2 => ∃ v : Int, σ = [some (.ref p), some (.int z), some (.int v), none, none, none] ∧ Pen H2 p c ∧ Kp p H H2, ?_, ?_⟩
    · refine ⟨_, rfl, p, _, 0, _, rfl, rfl, SqL.of h1', rfl, Nat.zero_le _, fun q hq => ?_⟩
      have h1q : upd H1 q (.lst []) p = some (.lst [.ref c, .int z1, .int r1]) := by
        rw [upd_ne (hP1.neP hq).symm]
        exact h1'
      have h2q : upd H1 q (.lst []) c = some (.lst (cs.map V.int)) := by
        rw [upd_ne (hP1.neC hq).symm]
        exact h2
      have hPq : Pen (upd H1 q (.lst [])) p c := hP1.new hq
      have kq : Kp p H (upd H1 q (.lst [])) := k1.lay hq
      refine ⟨_, _, .lst (SqL.of h2q) (dp_ints _ _ cs), .lst (SqL.of upd_same) .nil, shaped_ints cs, shaped_nil, _, rfl, ?_⟩
      rw [eqv_nil]
      cases he : cs with
      | nil =>
        refine iteF ?_
        exact ⟨_, rfl, hPq, kq⟩
      | cons a t =>
        refine iteT ?_
        obtain ⟨v, hv⟩ := at_mod cs z (by rw [he]; exact Nat.succ_pos _)
        refine ⟨_, rfl, p, _, 0, _, rfl, rfl, SqL.of h1q, rfl, _, rfl, _, rfl, p, _, 0, _, rfl, rfl, SqL.of h1q, rfl, c, _, rfl, .inl (SqL.of h2q), _, _, rfl, rfl, ?_, c, cs.map V.int, _, .int v, rfl, rfl, SqL.of h2q, ?_, ?_⟩
        · show (0 : Int) < ((cs.map V.int).length : Int)
          rw [he, List.length_map, List.length_cons]
          omega
        · rw [List.length_map]
          exact hv
        · exact ⟨v, rfl, hPq, kq⟩
    · rintro σ H2 ⟨v, rfl, hP2, k2⟩
      obtain ⟨⟨z2, r2, h3⟩, cs2, h4, hl2⟩ := id hP2
      -- a great cell
      refine ⟨_, rfl, _, rfl, p, _, 0, _, rfl, rfl, SqL.of h3, rfl, c, _, rfl, .inl (SqL.of h4), _, _, rfl, rfl, _, rfl, ?_⟩
      refine ite2 (fun _ => ?a) (fun _ => iteF ?b)
      case' a =>
        refine ⟨_, rfl, _, _, rfl, rfl, ⟨by decide, by decide, by decide⟩, _, _, rfl, rfl, _, rfl, ?_⟩
        refine ite2 (fun _ => ⟨_, rfl, k _ _ hP2 k2⟩) (fun _ => ?_)
      all_goals
        refine ⟨_, rfl, _, _, rfl, rfl, (by show (0 : Int) < 2147483629; decide), _, rfl, _, _, rfl, rfl, .inr ⟨by decide, by decide⟩, .inl ⟨_, _, rfl, rfl, .inl ⟨_, _, rfl, rfl, _, _, rfl, rfl, (by show (0 : Int) < 2147483629; decide), ?_⟩⟩⟩
        have b1 := Int.emod_nonneg (v % 2147483629 + z * 40503 + 17) (show (2147483629 : Int) ≠ 0 by decide)
        have b2 := Int.emod_lt_of_pos (v % 2147483629 + z * 40503 + 17) (show (0 : Int) < 2147483629 by decide)
        generalize (v % 2147483629 + z * 40503 + 17) % 2147483629 = one at b1 b2 ⊢
        refine ⟨_, rfl, _, rfl, _, _, rfl, rfl, .inl ⟨by omega, by omega⟩, _, rfl, _, _, rfl, rfl, .inr ⟨by decide, by decide⟩, .inl ⟨_, _, rfl, rfl, .inl ⟨_, _, rfl, rfl, _, _, rfl, rfl, (by show (0 : Int) < 2147483587; decide), ?_⟩⟩⟩
        have b3 := Int.emod_nonneg (one * one + z * 69069 + 3) (show (2147483587 : Int) ≠ 0 by decide)
        have b4 := Int.emod_lt_of_pos (one * one + z * 69069 + 3) (show (0 : Int) < 2147483587 by decide)
        generalize (one * one + z * 69069 + 3) % 2147483587 = two at b3 b4 ⊢
        refine ⟨_, rfl, _, rfl, _, _, rfl, rfl, .inl ⟨by omega, by omega⟩, _, rfl, _, rfl, .inl ⟨_, _, rfl, rfl, _, _, rfl, rfl, .inl ⟨by omega, by omega⟩, .inl ⟨_, _, rfl, rfl, _, _, rfl, rfl, (by show (0 : Int) < 2147483579; decide), ?_⟩⟩⟩
        generalize (two * two + one * (z + 5)) % 2147483579 = three
        exact ⟨_, rfl, _, _, rfl, rfl, .inr ⟨by decide, by decide⟩, _, rfl, .inl ⟨_, _, rfl, rfl, _, _, rfl, rfl, .inr ⟨by decide, by decide⟩, _, rfl, .inl ⟨_, _, rfl, rfl, k _ _ hP2 k2⟩⟩⟩
theorem ok_draw (D : DefAt K mg "_law_draw" s_law_draw ["_law_pen_here", "_law_below"]) (T : Bl mg) (C_law_fresh : CallOk P w K mg base 1 "_law_fresh" ["_law_pen_here"] spFresh) :
    CallOk P w K mg base 2 "_law_draw" ["_law_pen_here", "_law_below"] spDraw := by
  refine D.ok sc_law_draw (fun vs H Q E h => ?_) (fun f cdv A outer s H vs Q E hr h => ?_)
  · obtain ⟨p, c, b, rfl, _⟩ := h
    rfl
  · obtain ⟨p, c, b, rfl, hP, hb1, hb2, k⟩ := h
    refine ⟨_, (Evl.pss_cut (ps_if (pt_cmpR op_lt (pe_ix ix_list (pv 0) pe_int (fun _ _ => rfl)) (pv 1) (nomark _)) (pss_one (ps_asg (pe_callOk C_law_fresh hr (by omega) (by rfl) (pa_cons (pv 0) pa_nil)) (pg_sub (pv 0) pe_int set_list))) pss_nil)
        (pss_cons (ps_set (i := 2) sc_law_draw.nd rfl (Or.inl rfl) (pe_op op_mod (pe_ix ix_list (pv 0) pe_int (fun _ _ => rfl)) (pv 1)))
        (pss_cons (ps_asg (pe_op op_fdiv (pe_ix ix_list (pv 0) pe_int (fun _ _ => rfl)) (pv 1)) (pg_sub (pv 0) pe_int set_list))
        (pss_one (ps_ret (pv 2)))))), ?_⟩
    obtain ⟨⟨z, r, h1⟩, _⟩ := id hP
    refine ⟨fun σ H2 => σ = [some (.ref p), some (.int b), none] ∧ Pen H2 p c ∧ Kp p H H2, ?_, ?_⟩
    · refine ⟨_, rfl, p, _, 2, _, rfl, rfl, SqL.of h1, rfl, _, rfl, _, _, rfl, rfl, _, rfl, ?_⟩
      refine ite2 (fun _ => ?_) (fun _ => ⟨rfl, hP, Kp.refl⟩)
      refine ⟨_, rfl, p, c, rfl, hP, fun n H2 hP2 k2 => ?_⟩
      obtain ⟨⟨z2, r2, h2⟩, _⟩ := id hP2
      exact ⟨_, rfl, p, _, 2, 2, rfl, rfl, h2, rfl, rfl, hP2.put, k2.put⟩
    · rintro σ H2 ⟨rfl, hP2, k2⟩
      obtain ⟨⟨z2, r2, h2⟩, _⟩ := id hP2
      refine ⟨_, rfl, p, _, 2, _, rfl, rfl, SqL.of h2, rfl, _, rfl, _, _, rfl, rfl, hb1, ?_⟩
      refine ⟨_, rfl, p, _, 2, _, rfl, rfl, SqL.of h2, rfl, _, rfl, _, _, rfl, rfl, ⟨hb1, hb2⟩, _, rfl, p, _, 2, 2, rfl, rfl, h2, rfl, ?_⟩
      exact ⟨_, rfl, k _ _ (Int.emod_nonneg _ (by omega)) (Int.emod_lt_of_pos _ hb1) hP2.put k2.put⟩
end

section
variable {P : Program} {w : World} {K : PySem.W.Frag} {mg : Str → Option Value} {base : Heap}
theorem ok_nameU (D : DefAt K mg "_law_name" s_law_name ["_law_pen_here", "_law_gone"]) (T : Bl mg) (C_law_draw : CallOk P w K mg base 2 "_law_draw" ["_law_pen_here", "_law_below"] spDraw) :
    CallOk P w K mg base 3 "_law_name" ["_law_pen_here", "_law_gone"] spNameU := by
  refine D.ok sc_law_name (fun vs H Q E h => ?_) (fun f cdv A outer s H vs Q E hr h => ?_)
  · obtain ⟨p, c, g, gs, rfl, _⟩ := h
    rfl
  · obtain ⟨p, c, g, gs, rfl, hP, hG, hgp, hgl, k⟩ := h
    refine ⟨_, (pss_cons (ps_set (i := 2) sc_law_name.nd rfl (Or.inl rfl) pe_str)
        (pss_cons (ps_set (i := 3) sc_law_name.nd rfl (Or.inl rfl) pe_str)
        (pss_cons (ps_for PassesOwn.never rfl (pi_range1 (by rfl) T.range_ (pa_cons (pe_op opAdd pe_int (pe_callOk C_law_draw hr (by omega) (by rfl) (pa_cons (pv 0) (pa_cons (pe_ix ix_list (pe_lst (pa_cons pe_int (pa_cons pe_int (pa_cons pe_int pa_nil)))) (pe_callOk C_law_draw hr (by omega) (by rfl) (pa_cons (pv 0) (pa_cons pe_int pa_nil))) (fun _ _ => rfl)) pa_nil)))) pa_nil)) (pg_name (i := 4) sc_law_name.nd rfl (Or.inl rfl) (by first | exact .inl rfl | exact .inr rfl)) (pss_one (ps_set (i := 3) sc_law_name.nd rfl (Or.inl rfl) (pe_op opAdd (pv 3) (pe_ix ix_str (pv 2) (pe_callOk C_law_draw hr (by omega) (by rfl) (pa_cons (pv 0) (pa_cons pe_int pa_nil))) (fun _ _ => rfl))))))
        (pss_cons (ps_set (i := 5) sc_law_name.nd rfl (Or.inl rfl) (pe_slice sl_str (pv 3) po_none (po_some pe_int)))
        (pss_cons (ps_for PassesOwn.never rfl (pi_range1 (by rfl) T.range_ (pa_cons (pe_op opAdd (pe_callB call_len_seq (by rfl) T.len_ (by decide +kernel) (pa_cons (pv 1) pa_nil)) pe_int) pa_nil)) (pg_name (i := 6) sc_law_name.nd rfl (Or.inl rfl) (by first | exact .inl rfl | exact .inr rfl)) (pss_one (ps_if (pt_cmpR op_in_seq (pv 3) (pv 1) (by rfl)) (pss_one (ps_set (i := 3) sc_law_name.nd rfl (Or.inl rfl) (pe_op opAdd (pe_op opAdd (pv 5) (pe_ix ix_str (pv 2) (pe_op op_mod (pe_op op_fdiv (pv 6) pe_int) pe_int) (fun _ _ => rfl))) (pe_ix ix_str (pv 2) (pe_op op_mod (pv 6) pe_int) (fun _ _ => rfl))))) pss_nil)))
        (pss_one (ps_ret (pv 3)))))))), ?_⟩
    refine ⟨_, rfl, le_line (by show 3 ≤ 16000000; decide), fun q hq => ?_⟩
    have hPq : Pen (upd H q (.lst [.int 1, .int 2, .int 8])) p c := hP.new hq
    have nqp : q ≠ p := hP.neP hq
    refine ⟨_, rfl, p, c, 3, rfl, hPq, by decide, by decide, fun m H1 m0 m1 hP1 k1 => ?_⟩
    have q1 : H1 q = some (.lst [.int 1, .int 2, .int 8]) := k1 _ _ upd_same nqp
    have kq : Kp p H H1 := (Kp.new hq).trans k1
    have hm : ∃ b : Int, atI [V.int 1, .int 2, .int 8] m = some (.int b) ∧ 0 < b ∧ b ≤ 8 := by
      have : m = 0 ∨ m = 1 ∨ m = 2 := by omega
      rcases this with rfl | rfl | rfl
      · exact ⟨1, rfl, by decide, by decide⟩
      · exact ⟨2, rfl, by decide, by decide⟩
      · exact ⟨8, rfl, by decide, by decide⟩
    obtain ⟨b, hb, b0, b8⟩ := hm
    refine ⟨q, _, m, .int b, rfl, rfl, SqL.of q1, hb, p, c, b, rfl, hP1, b0, by omega, fun n H2 n0 n1 hP2 k2 => ?_⟩
    have kp2 : Kp p H H2 := kq.trans k2
    refine .inl ⟨_, _, rfl, rfl, ?_⟩
    refine ⟨1 + n, rfl, by omega, by omega, for_range (lo := 0) (n := (1 + n).toNat) (fun i σ H' => ∃ x v4, σ = [some (.ref p), some (.ref g), some (.str abc), some (.str x), v4, none, none] ∧ Lt x i ∧ Pen H' p c ∧ Kp p H H')
      ⟨_, none, rfl, lt_nil, hP2, kp2⟩ ?_ ?_⟩
    · -- a letter more
      rintro i σ H' hi ⟨x, v4, rfl, hx, hP3, k3⟩
      refine ⟨_, rfl, _, rfl, _, rfl, p, c, 26, rfl, hP3, by decide, by decide, fun l H4 l0 l1 hP4 k4 => ?_⟩
      obtain ⟨ch, hc, c1, c2⟩ := abc_at l0 l1
      refine ⟨abc, l, ch, rfl, rfl, abc_len, hc, .inr (.inl ⟨x, _, rfl, rfl, ?_, ?_⟩)⟩
      · rw [hx.len, (lt_one c1 c2).len]
        exact le_line (by omega)
      · exact ⟨_, _, rfl, hx.app (lt_one c1 c2), hP4, k3.trans k4⟩
    · rintro σ H' ⟨x, v4, rfl, hx, hP3, k3⟩
      have hx8 : (1 + n).toNat ≤ 8 := by omega
      have hx0 : 0 < (1 + n).toNat := by omega
      refine ⟨_, rfl, 6, rfl, x, rfl, ?_, ?_⟩
      · rw [hx.len]
        exact le_line (by omega)
      obtain ⟨m6, h6, hf⟩ := hx.front 6
      generalize cutS x none (some ((6 : Nat) : Int)) = front at hf
      have hG' : SqL K H' g (gs.map V.str) := SqL.of (k3 _ _ hG hgp)
      refine ⟨_, rfl, g, gs.map V.str, rfl, .inl hG', .inl ⟨_, _, rfl, rfl, ?_⟩⟩
      refine ⟨((gs.map V.str).length : Int) + 1, rfl, ?_, ?_, for_range (lo := 0) (n := (((gs.map V.str).length : Int) + 1).toNat) (fun i σ H' => ∃ x v6 m, σ = [some (.ref p), some (.ref g), some (.str abc), some (.str x), v4, some (.str front), v6] ∧ Lt x m ∧ 0 < m ∧ m ≤ 8 ∧ Pen H' p c ∧ Kp p H H' ∧ UnI gs front i x)
        ⟨_, none, _, rfl, hx, hx0, hx8, hP3, k3, .inr ⟨fun j hj => absurd hj (by omega), fun j hj => absurd hj (by omega)⟩⟩ ?_ ?_⟩
      · omega
      · rw [List.length_map]
        omega
      · rintro i σ H4 hi ⟨y, v6, m, rfl, hy, m0, m8, hP4, k4, hU⟩
        have hi2 : i < 676 := by
          rw [List.length_map] at hi
          omega
        refine ⟨_, rfl, _, rfl, g, gs.map V.str, rfl, .inl (SqL.of (k4 _ _ hG hgp)), rfl, ?_, _, rfl, ?_⟩
        · simp [flatV]
        rw [in_strs]
        by_cases hin : y ∈ gs
        case neg => exact iteFx (decide_eq_false hin) ⟨_, _, _, rfl, hy, m0, m8, hP4, k4, .inl hin⟩
        refine iteTx (decide_eq_true hin) ?_
        have ha : atI abc.cps.toList ((0 + (i : Int)) / 26 % 26) = some (97 + i / 26 % 26) := by
          rw [show (0 + (i : Int)) / 26 % 26 = ((i / 26 % 26 : Nat) : Int) by omega]
          exact abc_atN (by omega)
        have hb : atI abc.cps.toList ((0 + (i : Int)) % 26) = some (97 + i % 26) := by
          rw [show (0 + (i : Int)) % 26 = ((i % 26 : Nat) : Int) by omega]
          exact abc_atN (by omega)
        have a1 : 97 ≤ 97 + i / 26 % 26 := by omega
        have a2 : 97 + i / 26 % 26 ≤ 122 := by omega
        have b1 : 97 ≤ 97 + i % 26 := by omega
        have b2 : 97 + i % 26 ≤ 122 := by omega
        refine ⟨_, rfl, _, rfl, _, rfl, _, _, rfl, rfl, ⟨by decide, by decide⟩, _, _, rfl, rfl, (by show (0 : Int) < 26; decide), abc, _, _, rfl, rfl, abc_len, ha, .inr (.inl ⟨front, _, rfl, rfl, ?_, _, rfl, _, rfl, _, _, rfl, rfl, (by show (0 : Int) < 26; decide), abc, _, _, rfl, rfl, abc_len, hb, .inr (.inl ⟨_, _, rfl, rfl, ?_, ?_⟩)⟩)⟩
        · rw [hf.len, (lt_one a1 a2).len]
          exact le_line (by omega)
        · rw [(hf.app (lt_one a1 a2)).len, (lt_one b1 b2).len]
          exact le_line (by omega)
        · exact ⟨_, _, _, rfl, (hf.app (lt_one a1 a2)).app (lt_one b1 b2), by omega, by omega, hP4, k4, hU.step hin⟩
      · rintro σ H4 ⟨y, v6, m, rfl, hy, m0, m8, hP4, k4, hU⟩
        have e9 : (((gs.map V.str).length : Int) + 1).toNat = gs.length + 1 := by
          rw [List.length_map]
          omega
        rw [e9] at hU
        exact ⟨_, rfl, k y H4 (hy.nm m0 m8) (hU.fin hgl) hP4 k4⟩
end

section
variable {P : Program} {w : World} {K : PySem.W.Frag} {mg : Str → Option Value} {base : Heap}
theorem ok_is_row (D : DefAt K mg "is_row" s_is_row ["thing", "least", "most"]) (T : Bl mg) : CallOk P w K mg base 1 "is_row" ["thing", "least", "most"] (spIsRow K) := by
  refine D.ok sc_is_row (fun vs H Q E h => ?_) (fun f cdv A outer s H vs Q E hr h => ?_)
  · obtain ⟨p, v, d, a, b, rfl, _⟩ := h
    rfl
  · obtain ⟨p, v, d, a, b, rfl, hd, k⟩ := h
    refine ⟨_, (pss_one (ps_ret (pe_and (pe_callB call_isD (by rfl) T.isinstance_ (by decide +kernel) (pa_cons (pv 0) (pa_cons (pe_bltn (v := .ty "tuple") (by rfl) T.tuple_ (by decide +kernel) rfl) pa_nil))) (pe_one (pe_chain op_le op_le (pv 1) (pe_callB call_len (by rfl) T.len_ (by decide +kernel) (pa_cons (pv 0) pa_nil)) (pv 2)))))), ?_⟩
    refine ⟨_, rfl, p, v, d, "tuple", rfl, hd, .inr (.inl rfl), _, rfl, ?_⟩
    by_cases ht : tyD d = "tuple"
    · obtain ⟨ds, rfl⟩ := ty_tup ht
      obtain ⟨t, xs, rfl, h1, h2⟩ := hd.tupInv
      refine iteT ?_
      refine ⟨_, rfl, _, rfl, _, _, rfl, .inr ⟨_, h1, rfl⟩, _, _, rfl, rfl, _, rfl, ?_⟩
      rw [h2.length]
      by_cases c : a ≤ (ds.length : Int)
      · rw [decide_eq_true c]
        refine iteT ⟨_, rfl, _, _, rfl, rfl, ?_⟩
        have e : isRowD (.tuple ds) a b = decide ((ds.length : Int) ≤ b) := by
          show (decide (a ≤ (ds.length : Int)) && _) = _
          rw [decide_eq_true c, Bool.true_and]
        rw [e] at k
        exact k
      · rw [decide_eq_false c]
        refine iteF ?_
        have e : isRowD (.tuple ds) a b = false := by
          show (decide (a ≤ (ds.length : Int)) && _) = _
          rw [decide_eq_false c, Bool.false_and]
        rw [← e]
        exact k
    · rw [decide_eq_false ht]
      refine iteF ?_
      have e : isRowD d a b = false := by
        cases d <;> simp [isRowD, tyD] at ht ⊢
      rw [← e]
      exact k
theorem ok_is_name (D : DefAt K mg "is_name" s_is_name ["thing"]) (T : Bl mg) (G_LETTERS : GV mg "LETTERS" (.str abc)) (G_MOST_LETTERS : GV mg "MOST_LETTERS" (.int 8)) : CallOk P w K mg base 1 "is_name" ["thing"] (spIsName K) := by
  refine D.ok sc_is_name (fun vs H Q E h => ?_) (fun f cdv A outer s H vs Q E hr h => ?_)
  · obtain ⟨p, v, d, n, m, rfl, _⟩ := h
    rfl
  · obtain ⟨p, v, d, n, m, rfl, hd, hf, hn, k⟩ := h
    refine ⟨_, (pss_cons (ps_if (PW.pt (pw_or (pt_not (pt_val (pe_callB call_isD (by rfl) T.isinstance_ (by decide +kernel) (pa_cons (pv 0) (pa_cons (pe_bltn (v := .ty "str") (by rfl) T.str_ (by decide +kernel) rfl) pa_nil))))) (pw_or1 (pt_not (pt_chain op_le op_le pe_int (pe_callB call_len (by rfl) T.len_ (by decide +kernel) (pa_cons (pv 0) pa_nil)) (pe_gv G_MOST_LETTERS rfl)))))) (pss_one (ps_ret pe_bl)) pss_nil)
        (pss_one (ps_ret (pe_callB (cr_all rfl) (by rfl) T.all_ (by decide +kernel) (pa_cons (pe_lc (own := [("letter", 1)]) (g := gName 1) (tt := tYes) rfl sc_is_name.nd (pi_str (pv 0)) (blkOk_by (N := sl_is_name) (sc := defScope s_is_name) (by decide +kernel)) (fun _ _ _ _ _ => pg_name (i := 1) sc_is_name.nd rfl (Or.inl rfl)) (fun _ _ _ _ _ => pts_nil) (fun _ _ _ _ _ => (pe_cmpR op_in_sign (pv 1) (pe_gv G_LETTERS rfl) (by rfl)))) pa_nil))))), ?_⟩
    refine ⟨_, rfl, p, v, d, "str", rfl, hd, .inl rfl, _, rfl, ?_⟩
    by_cases ht : tyD d = "str"
    · obtain ⟨x, rfl⟩ := ty_str ht
      cases hd.strInv
      have hx := fit_str_len hf
      refine iteF ?_
      refine ⟨_, rfl, _, _, rfl, ⟨le_line (by omega), rfl⟩, _, _, rfl, rfl, _, rfl, ?_⟩
      have e : isNameD (.str x) = (decide (1 ≤ x.length) && decide (x.length ≤ 8) && (x.cps.toList.map fun c => decide (c ∈ abc.cps.toList)).all id) := by
        show (_ && _ && _) = _
        rw [List.all_map]
        rfl
      rw [e] at k
      by_cases c1 : 1 ≤ x.length
      · rw [show decide ((1 : Int) ≤ (x.length : Int)) = true from decide_eq_true (by omega)]
        refine iteT ⟨_, _, rfl, rfl, _, rfl, ?_⟩
        by_cases c2 : x.length ≤ 8
        · rw [show decide ((x.length : Int) ≤ 8) = true from decide_eq_true (by omega)]
          refine iteF ?_
          refine ⟨_, rfl, x, rfl, fun D hD => ?_⟩
          refine lc_str_map (fun c => .bl (decide (c ∈ abc.cps.toList))) (lt_line (by have : x.cps.size = x.length := rfl; omega)) (fun _ => rfl) (fun c _ H2 Q2 q => ⟨_, rfl, c, abc, rfl, rfl, q⟩) ?_
          refine ⟨D, x.cps.toList.map fun c => decide (c ∈ abc.cps.toList), rfl, SqL.of ?_, ?_⟩
          · rw [upd_same, List.map_map]
            rfl
          · have z := k (upd H D (.lst (x.cps.toList.map fun c => .bl (decide (c ∈ abc.cps.toList))))) (same_new hD)
            rw [decide_eq_true c1, decide_eq_true c2] at z
            exact z
        · rw [show decide ((x.length : Int) ≤ 8) = false from decide_eq_false (by omega)]
          refine iteT ?_
          have z := k H (Same.refl H)
          rw [decide_eq_false c2, Bool.and_false, Bool.false_and] at z
          exact z
      · rw [show decide ((1 : Int) ≤ (x.length : Int)) = false from decide_eq_false (by omega)]
        refine iteF ⟨_, rfl, iteT ?_⟩
        have z := k H (Same.refl H)
        rw [decide_eq_false c1, Bool.false_and, Bool.false_and] at z
        exact z
    · rw [decide_eq_false ht]
      refine iteT ?_
      have e : isNameD d = false := by
        cases d <;> simp [isNameD, tyD] at ht ⊢
      have z := k H (Same.refl H)
      rw [e] at z
      exact z
end

section
variable {P : Program} {w : World} {K : PySem.W.Frag} {mg : Str → Option Value} {base : Heap}
theorem ok_is_kind_within (D : DefAt K mg "is_kind_within" s_is_kind_within ["thing", "most"]) (T : Bl mg) (C_is_row : CallOk P w K mg base 1 "is_row" ["thing", "least", "most"] (spIsRow K)) (C_is_name : CallOk P w K mg base 1 "is_name" ["thing"] (spIsName K)) :
    ∀ n : Nat, CallOk P w K mg base (n + 1) "is_kind_within" ["thing", "most"] (spKindW K n)
  | 0 => (D.none sc_is_kind_within).imp fun vs H Q E h => by
    obtain ⟨p, v, d, n, m, z, _, _, h0, _⟩ := h
    omega
  | n + 1 => by
    have C_is_kind_within := ok_is_kind_within D T C_is_row C_is_name n
    refine D.ok sc_is_kind_within (fun vs H Q E h => ?_) (fun f cdv A outer s H vs Q E hr h => ?_)
    · obtain ⟨p, v, d, a, b, z, rfl, _⟩ := h
      rfl
    · obtain ⟨p, v, d, a, b, z, rfl, hz, _, hd, hf, hn, k⟩ := h
      refine ⟨_, (pss_cons (ps_if (pt_val (pe_callB call_isD (by rfl) T.isinstance_ (by decide +kernel) (pa_cons (pv 0) (pa_cons (pe_bltn (v := .ty "str") (by rfl) T.str_ (by decide +kernel) rfl) pa_nil)))) (pss_one (ps_ret (pe_callOk C_is_name hr (by omega) (by rfl) (pa_cons (pv 0) pa_nil)))) pss_nil)
        (pss_cons (ps_if (PW.pt (pw_or (pt_cmpR op_eq (pv 1) pe_int (nomark _)) (pw_or (pt_not (pt_val (pe_callOk C_is_row hr (by omega) (by rfl) (pa_cons (pv 0) (pa_cons pe_int (pa_cons pe_int pa_nil)))))) (pw_or1 (pt_cmpR (op_notInT hr.units) (pe_ix ix_tup (pv 0) pe_int (fun _ _ => rfl)) (pe_tup (pa_cons pe_str (pa_cons pe_str pa_nil))) (by rfl)))))) (pss_one (ps_ret pe_bl)) pss_nil)
        (pss_one (ps_ret (pe_and (pe_callOk C_is_kind_within hr (by omega) (by rfl) (pa_cons (pe_ix ix_tup (pv 0) pe_int (fun _ _ => rfl)) (pa_cons (pe_op op_sub (pv 1) pe_int) pa_nil))) (pe_one (pe_callOk C_is_kind_within hr (by omega) (by rfl) (pa_cons (pe_ix ix_tup (pv 0) pe_int (fun _ _ => rfl)) (pa_cons (pe_op op_sub (pv 1) pe_int) pa_nil))))))))), ?_⟩
      refine ⟨_, rfl, p, v, d, "str", rfl, hd, .inl rfl, _, rfl, ?_⟩
      by_cases ht : tyD d = "str"
      · obtain ⟨x, rfl⟩ := ty_str ht
        refine iteT ⟨_, rfl, p, v, _, a, b, rfl, hd, hf, hn, k⟩
      · rw [decide_eq_false ht]
        refine iteF ?_
        refine ⟨_, rfl, rfl, _, rfl, ?_⟩
        by_cases h1 : n = 0
        · subst h1
          rw [decide_eq_true (show V.int z = V.int 1 from by rw [hz]; rfl)]
          refine iteT ?_
          refine iteT ?_
          have z := k H (Same.refl H)
          rw [kind_no ht (.inl rfl)] at z
          exact z
        · rw [decide_eq_false (show ¬ V.int z = V.int 1 from fun e => by injection e with e; omega)]
          refine iteF ?_
          refine ⟨_, rfl, p, v, d, 3, 3, rfl, hd, _, rfl, ?_⟩
          cases hrow : isRowD d 3 3 with
          | false =>
            refine iteT ?_
            refine iteT ?_
            have z := k H (Same.refl H)
            rw [kind_no ht (.inr hrow)] at z
            exact z
          | true =>
            refine iteF ?_
            obtain ⟨sg, x, y, rfl⟩ := row3 hrow
            obtain ⟨t, vs, vx, vy, rfl, hT, ds, dx, dy⟩ := hd.tup3
            obtain ⟨fs, fx, fy⟩ := fit3 hf
            refine ⟨_, rfl, t, _, 0, vs, rfl, rfl, hT, rfl, le_line (by show 2 ≤ 16000000; decide), fun q hq => ?_⟩
            have s1 : Same H (upd H q (.tup [V.str ">", V.str "*"])) := same_new hq
            refine ⟨p, q, signs2, sg, rfl, SqT.of upd_same, ds.same s1, _, rfl, ?_⟩
            cases hm : memD sg signs2 with
            | false =>
              refine iteT ?_
              have z := k _ s1
              rw [kind_tup, hm, Bool.and_false, Bool.false_and, Bool.false_and] at z
              exact z
            | true =>
              refine iteF ?_
              have e : kindW (n + 1) (.tuple [sg, x, y]) = (kindW n x && kindW n y) := by
                rw [kind_tup, hm, decide_eq_true h1]
                rfl
              rw [e] at k
              refine ⟨_, rfl, t, _, 1, vx, rfl, rfl, sqT_same s1 hT, rfl, _, rfl, _, _, rfl, rfl, p, vx, x, a, b, _, rfl, by omega, by omega, dx.same s1, fx, hn, fun H2 s2 => ⟨_, rfl, ?_⟩⟩
              cases hx : kindW n x with
              | false =>
                refine iteF ?_
                have z := k _ (s1.trans s2)
                rw [hx, Bool.false_and] at z
                exact z
              | true =>
                refine iteT ?_
                refine ⟨_, rfl, t, _, 2, vy, rfl, rfl, sqT_same s2 (sqT_same s1 hT), rfl, _, rfl, _, _, rfl, rfl, p, vy, y, a, b, _, rfl, by omega, by omega, (dy.same s1).same s2, fy, hn, fun H3 s3 => ?_⟩
                have z := k _ ((s1.trans s2).trans s3)
                rw [hx, Bool.true_and] at z
                exact z
theorem ok_is_kind (D : DefAt K mg "is_kind" s_is_kind ["thing"]) (T : Bl mg) (G_MOST_KINDS_WITHIN : GV mg "MOST_KINDS_WITHIN" (.int 6)) (C_is_kind_within : CallOk P w K mg base 7 "is_kind_within" ["thing", "most"] (spKindW K 6)) :
    CallOk P w K mg base 8 "is_kind" ["thing"] (spKind K) := by
  refine D.ok sc_is_kind (fun vs H Q E h => ?_) (fun f cdv A outer s H vs Q E hr h => ?_)
  · obtain ⟨p, v, d, n, m, rfl, _⟩ := h
    rfl
  · obtain ⟨p, v, d, n, m, rfl, hd, hf, hn, k⟩ := h
    refine ⟨_, (pss_one (ps_ret (pe_callOk C_is_kind_within hr (by omega) (by rfl) (pa_cons (pv 0) (pa_cons (pe_gv G_MOST_KINDS_WITHIN rfl) pa_nil))))), ?_⟩
    exact ⟨_, rfl, p, v, d, n, m, 6, rfl, rfl, by decide, hd, hf, hn, k⟩
end

section
variable {P : Program} {w : World} {K : PySem.W.Frag} {mg : Str → Option Value} {base : Heap}
theorem ok_unlike (D : DefAt K mg "are_unlike" s_are_unlike ["names"]) (T : Bl mg) : CallOk P w K mg base 1 "are_unlike" ["names"] (spUnlike K) := by
  refine D.ok sc_are_unlike (fun vs H Q E h => ?_) (fun f cdv A outer s H vs Q E hr h => ?_)
  · obtain ⟨t, xs, rfl, _⟩ := h
    rfl
  · obtain ⟨t, xs, rfl, hT, hl, k⟩ := h
    refine ⟨_, (pss_one (ps_ret (pe_cmpR op_eq (pe_lenSetT rfl (by rfl) T.len_ (by rfl) T.set_ (pv 0)) (pe_callB call_len_seq (by rfl) T.len_ (by decide +kernel) (pa_cons (pv 0) pa_nil)) (nomark _)))), ?_⟩
    refine ⟨_, rfl, t, xs, rfl, hT, hl, _, rfl, t, _, rfl, hT.symm, rfl, ?_⟩
    rw [List.length_map]
    have e : decide (V.int ((dd [] xs).length : Int) = V.int (xs.length : Int)) = unlikeN xs := decide_eq_decide.mpr ⟨fun z => by
      injection z with z
      exact Int.ofNat.inj z, fun z => by rw [z]⟩
    rw [e]
    exact k
end

section
variable {P : Program} {w : World} {K : PySem.W.Frag} {mg : Str → Option Value} {base : Heap}
theorem ok_case (D : DefAt K mg "is_case" s_is_case ["thing"]) (T : Bl mg) (G_MOST_FIELDS : GV mg "MOST_FIELDS" (.int 4)) (C_is_row : CallOk P w K mg base 1 "is_row" ["thing", "least", "most"] (spIsRow K)) (C_is_name : CallOk P w K mg base 1 "is_name" ["thing"] (spIsName K))
    (C_are_unlike : CallOk P w K mg base 1 "are_unlike" ["names"] (spUnlike K)) : CallOk P w K mg base 2 "is_case" ["thing"] (spOf K caseOk) := by
  refine D.ok sc_is_case (fun vs H Q E h => ?_) (fun f cdv A outer s H vs Q E hr h => ?_)
  · obtain ⟨N, v, d, n, m, rfl, _⟩ := h
    rfl
  · obtain ⟨N, v, d, n, m, rfl, hd, hf, hn, k⟩ := h
    refine ⟨_, (pss_cons (ps_if (pt_not (pt_val (pe_callOk C_is_row hr (by omega) (by rfl) (pa_cons (pv 0) (pa_cons pe_int (pa_cons pe_int pa_nil)))))) (pss_one (ps_ret pe_bl)) pss_nil)
        (pss_cons (ps_asg (pv 0) (pg_tup rfl (pgs_cons (pg_name (i := 1) sc_is_case.nd rfl (Or.inl rfl) (by first | exact .inl rfl | exact .inr rfl)) (pgs_cons (pg_name (i := 2) sc_is_case.nd rfl (Or.inl rfl) (by first | exact .inl rfl | exact .inr rfl)) (pgs_cons (pg_name (i := 3) sc_is_case.nd rfl (Or.inl rfl) (by first | exact .inl rfl | exact .inr rfl)) pgs_nil)))))
        (pss_cons (ps_if (PW.pt (pw_or (pt_not (pt_val (pe_callOk C_is_name hr (by omega) (by rfl) (pa_cons (pv 1) pa_nil)))) (pw_or1 (pt_not (pt_val (pe_callOk C_is_row hr (by omega) (by rfl) (pa_cons (pv 2) (pa_cons pe_int (pa_cons (pe_gv G_MOST_FIELDS rfl) pa_nil))))))))) (pss_one (ps_ret pe_bl)) pss_nil)
        (pss_one (ps_ret (pe_and (pe_callB (cr_all rfl) (by rfl) T.all_ (by decide +kernel) (pa_cons (pe_lc (own := [("name", 4)]) (g := gName 4) (tt := tYes) rfl sc_is_case.nd (pi_tup (pv 2)) (blkOk_by (N := sl_is_case) (sc := defScope s_is_case) (by decide +kernel)) (fun _ _ _ _ _ => pg_name (i := 4) sc_is_case.nd rfl (Or.inl rfl)) (fun _ _ _ _ _ => pts_nil) (fun _ _ _ _ _ => (pe_callOk C_is_name hr (by omega) (by rfl) (pa_cons (pv 4) pa_nil)))) pa_nil)) (pe_one (pe_callOk C_are_unlike hr (by omega) (by rfl) (pa_cons (pv 2) pa_nil))))))))), ?_⟩
    refine ⟨_, rfl, N, v, d, 3, 3, rfl, hd, ?_⟩
    cases hrow : isRowD d 3 3 with
    | false =>
      refine ⟨_, rfl, iteT ?_⟩
      rw [case_no hrow] at k
      exact k H (Same.refl H)
    | true =>
      refine ⟨_, rfl, iteF ?_⟩
      obtain ⟨a, b, c, rfl⟩ := row3 hrow
      obtain ⟨t, x, y, z, rfl, hT, ha, hb, hc⟩ := hd.tup3
      obtain ⟨fa, fb⟩ : Fit n m a ∧ Fit n m b := ⟨(fit3 hf).1, (fit3 hf).2.1⟩
      refine ⟨_, rfl, t, _, rfl, hT, rfl, x, _, rfl, y, _, rfl, z, _, rfl, rfl, ?_⟩
      refine ⟨_, rfl, N, x, a, n, m, rfl, ha, fa, hn, fun H1 s1 => ?_⟩
      rw [case_yes] at k
      cases hna : isNameD a with
      | false =>
        refine ⟨_, rfl, iteT (iteT ?_)⟩
        rw [hna] at k
        exact k H1 s1
      | true =>
        refine ⟨_, rfl, iteF ?_⟩
        rw [hna, Bool.true_and] at k
        refine ⟨_, rfl, N, y, b, 0, 4, rfl, hb.same s1, ?_⟩
        cases hrb : isRowD b 0 4 with
        | false =>
          refine ⟨_, rfl, iteT ?_⟩
          rw [hrb] at k
          exact k H1 s1
        | true =>
          refine ⟨_, rfl, iteF ?_⟩
          rw [hrb, Bool.true_and] at k
          obtain ⟨ns, rfl, _, h4⟩ := row_tup hrb
          obtain ⟨t2, us, rfl, hT2, hA⟩ := (hb.same s1).tupInv
          have hlu := hA.length
          have fns := fb.inner
          refine ⟨_, rfl, t2, rfl, ⟨_, hT2⟩, fun L hL => ?_⟩
          refine lc_tup (K := K) (xs := us) (fun i H' => H' L = some (.lst (((ns.take i).map isNameD).map V.bl)) ∧ Same H1 H') ⟨upd_same, same_new hL⟩ (fun i H' _ p => sqT_same p.2 hT2) ?_ ?_
          · rintro i u H2 hu ⟨e2, s2⟩
            obtain ⟨dx, hdx, hxd⟩ := hA.get hu
            have hi : i < us.length := (List.getElem?_eq_some_iff.mp hu).1
            refine ⟨rfl, ?_⟩
            simp only [tYes, if_true]
            refine ⟨_, rfl, N, u, dx, n, m, rfl, hxd.same s2, fns.mem (List.mem_of_getElem? hdx), hn, fun H3 s3 => ⟨_, s3 _ _ e2, ?_, ?_, Same.mut (s2.trans s3) hL⟩⟩
            · rw [List.length_map, List.length_map, List.length_take]
              exact lt_line (by omega)
            · rw [upd_same, List.take_add_one, hdx, List.map_append, List.map_append]
              rfl
          · rintro H2 ⟨e2, s2⟩
            rw [List.take_of_length_le (by omega)] at e2
            have eall : (ns.map isNameD).all id = ns.all isNameD := by
              rw [List.all_map]
              rfl
            refine ⟨L, ns.map isNameD, rfl, SqL.of e2, ?_⟩
            rw [eall]
            cases hal : ns.all isNameD with
            | false =>
              refine ⟨_, rfl, iteF ?_⟩
              rw [show (itD (.tuple ns)).all isNameD = false from hal] at k
              exact k H2 (s1.trans s2)
            | true =>
              refine ⟨_, rfl, iteT ?_⟩
              rw [show (itD (.tuple ns)).all isNameD = true from hal, Bool.true_and] at k
              obtain ⟨xs, rfl, _⟩ := names_of hal
              rw [List.length_map] at h4
              rw [show (itD (.tuple (xs.map strD))).map nmD = xs from nm_map xs] at k
              refine ⟨_, rfl, t2, xs, rfl, .inl ?_, by omega, k H2 (s1.trans s2)⟩
              rw [← da_strs hA]
              exact sqT_same s2 hT2
end

section
variable {P : Program} {w : World} {K : PySem.W.Frag} {mg : Str → Option Value} {base : Heap}
theorem ok_slot (D : DefAt K mg "fits_slot" s_fits_slot ["slot", "thing"]) (T : Bl mg) (G_MOST_FIELDS : GV mg "MOST_FIELDS" (.int 4)) (G_MOST_CASES : GV mg "MOST_CASES" (.int 6)) (C_is_row : CallOk P w K mg base 1 "is_row" ["thing", "least", "most"] (spIsRow K))
    (C_is_name : CallOk P w K mg base 1 "is_name" ["thing"] (spIsName K)) (C_is_kind : CallOk P w K mg base 8 "is_kind" ["thing"] (spKind K)) (C_is_case : CallOk P w K mg base 2 "is_case" ["thing"] (spOf K caseOk)) :
    CallOk P w K mg base 9 "fits_slot" ["slot", "thing"] (spSlot K) := by
  refine D.ok sc_fits_slot (fun vs H Q E h => ?_) (fun f cdv A outer s H vs Q E hr h => ?_)
  · obtain ⟨N, z, v, d, n, m, rfl, _⟩ := h
    rfl
  · obtain ⟨N, z, v, d, n, m, rfl, hd, hf, hn, k⟩ := h
    refine ⟨_, (pss_cons (ps_if (pt_cmpR op_eq (pv 0) pe_str (nomark _)) (pss_one (ps_ret (pe_callOk C_is_name hr (by omega) (by rfl) (pa_cons (pv 1) pa_nil)))) pss_nil)
        (pss_cons (ps_if (pt_cmpR op_eq (pv 0) pe_str (nomark _)) (pss_one (ps_ret (pe_callOk C_is_kind hr (by omega) (by rfl) (pa_cons (pv 1) pa_nil)))) pss_nil)
        (pss_cons (ps_if (pt_cmpR op_eq (pv 0) pe_str (nomark _)) (pss_one (ps_ret (pe_callOk C_is_row hr (by omega) (by rfl) (pa_cons (pv 1) (pa_cons pe_int (pa_cons (pe_gv G_MOST_FIELDS rfl) pa_nil)))))) pss_nil)
        (pss_cons (ps_if (pt_cmpR op_eq (pv 0) pe_str (nomark _)) (pss_one (ps_ret (pe_and (pe_callOk C_is_row hr (by omega) (by rfl) (pa_cons (pv 1) (pa_cons pe_int (pa_cons (pe_gv G_MOST_CASES rfl) pa_nil)))) (pe_one (pe_callB (cr_all rfl) (by rfl) T.all_ (by decide +kernel) (pa_cons (pe_lc (own := [("row", 2)]) (g := gName 2) (tt := tYes) rfl sc_fits_slot.nd (pi_tup (pv 1)) (blkOk_by (N := sl_fits_slot) (sc := defScope s_fits_slot) (by decide +kernel)) (fun _ _ _ _ _ => pg_name (i := 2) sc_fits_slot.nd rfl (Or.inl rfl)) (fun _ _ _ _ _ => pts_nil) (fun _ _ _ _ _ => (pe_callOk C_is_case hr (by omega) (by rfl) (pa_cons (pv 2) pa_nil)))) pa_nil)))))) pss_nil)
        (pss_one (ps_ret pe_bl)))))), ?_⟩
    unfold slotOk at k
    refine ⟨_, rfl, rfl, _, rfl, ?_⟩
    by_cases h1 : z = Str.ofString "name"
    · rw [if_pos h1] at k
      refine iteST h1 ?_
      exact ⟨_, rfl, N, v, d, n, m, rfl, hd, hf, hn, k⟩
    rw [if_neg h1] at k
    refine iteSF h1 ?_
    refine ⟨_, rfl, rfl, _, rfl, ?_⟩
    by_cases h2 : z = Str.ofString "kind"
    · rw [if_pos h2] at k
      refine iteST h2 ?_
      exact ⟨_, rfl, N, v, d, n, m, rfl, hd, hf, hn, k⟩
    rw [if_neg h2] at k
    refine iteSF h2 ?_
    refine ⟨_, rfl, rfl, _, rfl, ?_⟩
    by_cases h3 : z = Str.ofString "terms"
    · rw [if_pos h3] at k
      refine iteST h3 ?_
      exact ⟨_, rfl, N, v, d, 0, 4, rfl, hd, k H (Same.refl H)⟩
    rw [if_neg h3] at k
    refine iteSF h3 ?_
    refine ⟨_, rfl, rfl, _, rfl, ?_⟩
    by_cases h4 : z = Str.ofString "cases"
    · rw [if_pos h4] at k
      refine iteST h4 ?_
      refine ⟨_, rfl, N, v, d, 1, 6, rfl, hd, ?_⟩
      cases hrb : isRowD d 1 6 with
      | false =>
        refine ⟨_, rfl, iteF ?_⟩
        rw [hrb] at k
        exact k H (Same.refl H)
      | true =>
        refine ⟨_, rfl, iteT ?_⟩
        rw [hrb, Bool.true_and] at k
        obtain ⟨ns, rfl, _, h6⟩ := row_tup hrb
        obtain ⟨t2, us, rfl, hT2, hA⟩ := hd.tupInv
        have hlu := hA.length
        have fns := hf.inner
        refine ⟨_, rfl, t2, rfl, ⟨_, hT2⟩, fun L hL => ?_⟩
        refine lc_tup (K := K) (xs := us) (fun i H' => H' L = some (.lst (((ns.take i).map caseOk).map V.bl)) ∧ Same H H') ⟨upd_same, same_new hL⟩ (fun i H' _ p => sqT_same p.2 hT2) ?_ ?_
        · rintro i u H2 hu ⟨e2, s2⟩
          obtain ⟨dx, hdx, hxd⟩ := hA.get hu
          have hi : i < us.length := (List.getElem?_eq_some_iff.mp hu).1
          refine ⟨rfl, ?_⟩
          simp only [tYes, if_true]
          refine ⟨_, rfl, N, u, dx, n, m, rfl, hxd.same s2, fns.mem (List.mem_of_getElem? hdx), hn, fun H3 s3 => ⟨_, s3 _ _ e2, ?_, ?_, Same.mut (s2.trans s3) hL⟩⟩
          · rw [List.length_map, List.length_map, List.length_take]
            exact lt_line (by omega)
          · rw [upd_same, List.take_add_one, hdx, List.map_append, List.map_append]
            rfl
        · rintro H2 ⟨e2, s2⟩
          rw [List.take_of_length_le (by omega)] at e2
          refine ⟨L, ns.map caseOk, rfl, SqL.of e2, ?_⟩
          have eall : (ns.map caseOk).all id = (itD (.tuple ns)).all caseOk := by
            rw [List.all_map]
            rfl
          rw [eall]
          exact k H2 s2
    rw [if_neg h4] at k
    exact iteSF h4 (k H (Same.refl H))
end

section
variable {P : Program} {w : World} {K : PySem.W.Frag} {mg : Str → Option Value} {base : Heap}
theorem ok_formed {dF : Addr} (D : DefAt K mg "is_formed" s_is_formed ["thing"]) (T : Bl mg) (G_FORMS : GV mg "FORMS" (.ref dF)) (FT : Forms K w dF) (C_is_name : CallOk P w K mg base 1 "is_name" ["thing"] (spIsName K))
    (C_fits_slot : CallOk P w K mg base 9 "fits_slot" ["slot", "thing"] (spSlot K)) : CallOk P w K mg base 10 "is_formed" ["thing"] (spOf K formedD) := by
  refine D.ok sc_is_formed (fun vs H Q E h => ?_) (fun f cdv A outer s H vs Q E hr h => ?_)
  · obtain ⟨N, v, d, n, m, rfl, _⟩ := h
    rfl
  · obtain ⟨N, v, d, n, m, rfl, hd, hf, hn, k⟩ := h
    obtain ⟨es, en, D_FORMS⟩ := FT.dict
    refine ⟨_, (pss_cons (ps_if (pt_val (pe_callB call_isD (by rfl) T.isinstance_ (by decide +kernel) (pa_cons (pv 0) (pa_cons (pe_bltn (v := .ty "str") (by rfl) T.str_ (by decide +kernel) rfl) pa_nil)))) (pss_one (ps_ret (pe_callOk C_is_name hr (by omega) (by rfl) (pa_cons (pv 0) pa_nil)))) pss_nil)
        (pss_cons (ps_if (PW.pt (pw_or (pt_not (pt_val (pe_callB call_isD (by rfl) T.isinstance_ (by decide +kernel) (pa_cons (pv 0) (pa_cons (pe_bltn (v := .ty "tuple") (by rfl) T.tuple_ (by decide +kernel) rfl) pa_nil))))) (pw_or1 (pt_cmpR op_eq (pe_callB call_len_seq (by rfl) T.len_ (by decide +kernel) (pa_cons (pv 0) pa_nil)) pe_int (nomark _))))) (pss_one (ps_ret pe_bl)) pss_nil)
        (pss_cons (ps_if (PW.pt (pw_or (pt_not (pt_val (pe_callB call_isD (by rfl) T.isinstance_ (by decide +kernel) (pa_cons (pe_ix ix_tup (pv 0) pe_int (fun _ _ => rfl)) (pa_cons (pe_bltn (v := .ty "str") (by rfl) T.str_ (by decide +kernel) rfl) pa_nil))))) (pw_or1 (pt_cmpR (op_notIn_kd D_FORMS) (pe_ix ix_tup (pv 0) pe_int (fun _ _ => rfl)) (pe_gv G_FORMS rfl) (by rfl))))) (pss_one (ps_ret pe_bl)) pss_nil)
        (pss_cons (ps_set (i := 1) sc_is_formed.nd rfl (Or.inl rfl) (pe_ix ix_kdict (pe_gv G_FORMS rfl) (pe_ix ix_tup (pv 0) pe_int (fun _ _ => rfl)) (fun _ _ => rfl)))
        (pss_cons (ps_if (pt_cmpR op_ne (pe_callB call_len_seq (by rfl) T.len_ (by decide +kernel) (pa_cons (pv 0) pa_nil)) (pe_op opAdd pe_int (pe_callB call_len_seq (by rfl) T.len_ (by decide +kernel) (pa_cons (pv 1) pa_nil))) (nomark _)) (pss_one (ps_ret pe_bl)) pss_nil)
        (pss_cons (ps_if (pt_not (pt_val (pe_callB (cr_all rfl) (by rfl) T.all_ (by decide +kernel) (pa_cons (pe_lc (own := [("slot", 2), ("item", 3)]) (g := (gTup K 2 (gCons (gName 2) (gCons (gName 3) gNil)))) (tt := tYes) rfl sc_is_formed.nd (RZ.pi_zipA (by rfl) T.zip_ (pa_cons (pv 1) (pa_cons (pe_slice sl_tupA (pv 0) (po_some pe_int) po_none) pa_nil))) (blkOk_by (N := sl_is_formed) (sc := defScope s_is_formed) (by decide +kernel)) (fun _ _ _ _ _ => (pg_tup rfl (pgs_cons (pg_name (i := 2) sc_is_formed.nd rfl (Or.inl rfl) (by first | exact .inl rfl | exact .inr rfl)) (pgs_cons (pg_name (i := 3) sc_is_formed.nd rfl (Or.inl rfl) (by first | exact .inl rfl | exact .inr rfl)) pgs_nil)))) (fun _ _ _ _ _ => pts_nil) (fun _ _ _ _ _ => (pe_callOk C_fits_slot hr (by omega) (by rfl) (pa_cons (pv 2) (pa_cons (pv 3) pa_nil))))) pa_nil)))) (pss_one (ps_ret pe_bl)) pss_nil)
        (pss_one (ps_ret (pe_or (pe_cmpR op_notIn_seq (pe_ix ix_tup (pv 0) pe_int (fun _ _ => rfl)) (pe_tup (pa_cons pe_str (pa_cons pe_str pa_nil))) (by rfl)) (pe_one (pe_cmpR op_ne (pe_ix ix_tup (pv 0) pe_int (fun _ _ => rfl)) (pe_ix ix_tup (pv 0) pe_int (fun _ _ => rfl)) (nomark _)))))))))))), ?_⟩
    refine ⟨_, rfl, N, v, d, "str", rfl, hd, .inl rfl, _, rfl, ?_⟩
    by_cases hs : tyD d = "str"
    · obtain ⟨x, rfl⟩ := ty_str hs
      rw [decide_eq_true hs]
      exact iteT ⟨_, rfl, N, v, _, n, m, rfl, hd, hf, hn, k⟩
    rw [decide_eq_false hs]
    refine iteF ?_
    refine ⟨_, rfl, N, v, d, "tuple", rfl, hd, .inr (.inl rfl), _, rfl, ?_⟩
    by_cases htu : tyD d = "tuple"
    · obtain ⟨ds, rfl⟩ := ty_tup htu
      obtain ⟨t, xs, rfl, hT, hA⟩ := hd.tupInv
      refine iteF ?_
      refine ⟨_, rfl, t, xs, rfl, .inr hT, rfl, _, rfl, ?_⟩
      cases ds with
      | nil =>
        obtain rfl := hA.un0
        exact iteT (k H (Same.refl H))
      | cons d0 r =>
        obtain ⟨x0, ys, rfl, h0, hB⟩ := hA.unc
        have hlr := hB.length
        rw [show decide (V.int (((x0 :: ys).length : Nat) : Int) = V.int 0) = false from decide_eq_false (fun e => by
          injection e with e
          rw [List.length_cons] at e
          omega)]
        refine iteF ?_
        refine ⟨_, rfl, t, _, 0, _, rfl, rfl, hT, at_zero, N, x0, d0, "str", rfl, h0, .inl rfl, _, rfl, ?_⟩
        by_cases hs0 : tyD d0 = "str"
        · obtain ⟨z, rfl⟩ := ty_str hs0
          obtain rfl := h0.strInv
          refine iteF ?_
          refine ⟨_, rfl, t, _, 0, _, rfl, rfl, hT, at_zero, ?_⟩
          cases hfo : formOf z with
          | none =>
            refine ⟨z, none, rfl, rfl, FT.no z hfo, _, rfl, iteT ?_⟩
            rw [formed_none hfo] at k
            exact k H (Same.refl H)
          | some sl =>
            obtain ⟨a, hns, hS⟩ := FT.yes z sl hfo
            have h4 := form_len hfo
            refine ⟨z, _, rfl, rfl, hns, _, rfl, iteF ?_⟩
            refine ⟨_, rfl, t, _, 0, _, rfl, rfl, hT, at_zero, dF, z, .ref a, rfl, rfl, ⟨es, en, .ref a, D_FORMS.at_, D_FORMS.lit, hns, rfl⟩, ?_⟩
            refine ⟨_, rfl, t, _, rfl, .inr hT, _, rfl, a, _, rfl, .inr (hS H), .inl ⟨1, _, rfl, rfl, rfl, _, rfl, ?_⟩⟩
            rw [formed_some hfo] at k
            by_cases hl : r.length = sl.length
            · refine iteNS (by
                show V.int ((ys.length + 1 : Nat) : Int) = V.int (1 + (((sl.map V.str).length : Nat) : Int))
                rw [List.length_map]
                congr 1
                omega) ?_
              rw [decide_eq_true hl, Bool.true_and] at k
              refine ⟨_, rfl, _, rfl, 1, rfl, ?_⟩
              dsimp only [tNoPart]
              refine cut_any hT fun t1 H1 s1 hT1 => ?_
              rw [cut_one] at hT1
              have hB1 := hB.same s1
              have fr := hf.inner
              refine ⟨a, t1, sl.map V.str, ys, rfl, .inr ⟨hS H1, hT1, fun L hL => ?_⟩⟩
              have hll : (sl.map V.str).length = ys.length := by
                rw [List.length_map]
                omega
              refine lc_zip2 (K := K) (xs := sl.map V.str) (ys := ys) hll (fun i H' => H' L = some (.lst ((((sl.zip r).take i).map fun p => slotOk p.1 p.2).map V.bl)) ∧ Same H1 H') ⟨upd_same, same_new hL⟩ (fun i H' p => ⟨hS H', sqT_same p.2 hT1⟩) ?_ ?_
              · rintro i x y q H2 hx hy ⟨e2, s2⟩ hq
                rw [List.getElem?_map] at hx
                obtain ⟨c, hc, rfl⟩ := Option.map_eq_some_iff.mp hx
                obtain ⟨dx, hdx, hxd⟩ := hB1.get hy
                have sq : Same H2 (upd H2 q (.tup [V.str c, y])) := same_new hq
                have hz : (sl.zip r)[i]? = some (c, dx) := by
                  rw [List.getElem?_zip_eq_some]
                  exact ⟨hc, hdx⟩
                refine ⟨q, _, rfl, SqT.of upd_same, rfl, .str c, _, rfl, y, _, rfl, rfl, rfl, ?_⟩
                simp only [tYes, if_true]
                refine ⟨_, rfl, _, rfl, N, c, y, dx, n, m, rfl, (hxd.same s2).same sq, fr.mem (List.mem_cons_of_mem _ (List.mem_of_getElem? hdx)), hn, fun H3 s3 => ⟨_, s3 _ _ (sq _ _ e2), ?_, ?_, Same.mut ((s2.trans sq).trans s3) hL⟩⟩
                · rw [List.length_map, List.length_map, List.length_take, List.length_zip]
                  exact lt_line (by omega)
                · rw [upd_same, List.take_add_one, hz, List.map_append, List.map_append]
                  rfl
              · rintro H2 ⟨e2, s2⟩
                rw [List.take_of_length_le (by rw [List.length_zip, List.length_map]; omega)] at e2
                have s02 := s1.trans s2
                refine ⟨L, _, rfl, SqL.of e2, ?_⟩
                rw [all_zip]
                cases hal : (sl.zip r).all fun p => slotOk p.1 p.2 with
                | false =>
                  refine ⟨_, rfl, iteT ?_⟩
                  rw [hal] at k
                  exact k H2 s02
                | true =>
                  refine ⟨_, rfl, iteF ?_⟩
                  rw [hal, Bool.true_and] at k
                  have hT2 := sqT_same s02 hT
                  refine ⟨_, rfl, t, _, 0, _, rfl, rfl, hT2, at_zero, le_line (by show 2 ≤ 16000000; decide), fun q hq => ⟨q, m2.map V.str, rfl, .inr (SqT.of upd_same), rfl, rfl, ?_⟩⟩
                  have sq : Same H2 (upd H2 q (.tup (m2.map V.str))) := same_new hq
                  rw [if_pos rfl, in_strs]
                  by_cases hm : z ∈ m2
                  · rw [decide_eq_true hm] at k ⊢
                    refine ⟨_, rfl, iteF ?_⟩
                    obtain rfl := form_m2 hfo hm
                    obtain ⟨a0, b0, c0, e0, rfl⟩ := len4 hl
                    simp only [List.zip_cons_cons, List.zip_nil_left, List.all_cons, List.all_nil, slot_name, slot_term, Bool.and_true, Bool.true_and, Bool.and_eq_true] at hal
                    obtain ⟨x, rfl⟩ := name_str hal.1
                    obtain ⟨y, rfl⟩ := name_str hal.2
                    obtain ⟨tt, x1, x2, x3, x4, x5, e1, hTa, g1, g2, g3, g4, g5⟩ := hd.tup5
                    obtain rfl := g3.strInv
                    obtain rfl := g4.strInv
                    cases e1
                    have hTb := sqT_same (s02.trans sq) hTa
                    rw [same_str (e := e0)] at k
                    refine ⟨_, rfl, t, _, 2, _, rfl, rfl, hTb, rfl, _, rfl, t, _, 3, _, rfl, rfl, hTb, rfl, rfl, ?_⟩
                    have e3 : decide (V.str x = V.str y) = decide (x = y) := decide_eq_decide.mpr ⟨fun z => by injection z, fun z => by rw [z]⟩
                    rw [e3]
                    exact k _ (s02.trans sq)
                  · rw [decide_eq_false hm] at k ⊢
                    exact ⟨_, rfl, iteT (k _ (s02.trans sq))⟩
            · refine iteNF (fun e => hl (by
                have e : V.int ((ys.length + 1 : Nat) : Int) = V.int (1 + (((sl.map V.str).length : Nat) : Int)) := e
                injection e with e
                rw [List.length_map] at e
                omega)) ?_
              rw [decide_eq_false hl] at k
              exact k H (Same.refl H)
        · rw [decide_eq_false hs0]
          refine iteT (iteT ?_)
          rw [formed_nos hs0] at k
          exact k H (Same.refl H)
    · rw [decide_eq_false htu]
      refine iteT (iteT ?_)
      rw [formed_no hs htu] at k
      exact k H (Same.refl H)
end

section
variable {P : Program} {w : World} {K : PySem.W.Frag} {mg : Str → Option Value} {base : Heap}
theorem ok_below (D : DefAt K mg "below" s_below ["term"]) (T : Bl mg) : CallOk P w K mg base 1 "below" ["term"] (spKidsS K) := by
  refine D.ok sc_below (fun vs H Q E h => ?_) (fun f cdv A outer s H vs Q E hr h => ?_)
  · obtain ⟨N, H0, v, d, rfl, _⟩ := h
    rfl
  · obtain ⟨N, H0, v, d, rfl, z0, hd, ht, k⟩ := h
    refine ⟨_, (pss_cons (ps_if (PW.pt (pw_or (pt_val (pe_callB call_isD (by rfl) T.isinstance_ (by decide +kernel) (pa_cons (pv 0) (pa_cons (pe_bltn (v := .ty "str") (by rfl) T.str_ (by decide +kernel) rfl) pa_nil)))) (pw_or1 (pt_cmpR op_eq (pe_ix ix_tup (pv 0) pe_int (fun _ _ => rfl)) pe_str (nomark _))))) (pss_one (ps_ret (pe_lst pa_nil))) pss_nil)
        (pss_cons (ps_if (pt_cmpR op_eq (pe_ix ix_tup (pv 0) pe_int (fun _ _ => rfl)) pe_str (nomark _)) (pss_one (ps_ret (pe_lst (pa_cons (pe_tup (pa_cons (pe_tup (pa_cons (pe_ix ix_tup (pv 0) pe_int (fun _ _ => rfl)) pa_nil)) (pa_cons (pe_ix ix_tup (pv 0) pe_int (fun _ _ => rfl)) pa_nil))) pa_nil)))) pss_nil)
        (pss_cons (ps_if (pt_cmpR op_in_seq (pe_ix ix_tup (pv 0) pe_int (fun _ _ => rfl)) (pe_tup (pa_cons pe_str (pa_cons pe_str pa_nil))) (by rfl)) (pss_one (ps_ret (pe_lst (pa_cons (pe_tup (pa_cons (pe_tup pa_nil) (pa_cons (pe_ix ix_tup (pv 0) pe_int (fun _ _ => rfl)) pa_nil))) (pa_cons (pe_tup (pa_cons (pe_tup (pa_cons (pe_ix ix_tup (pv 0) pe_int (fun _ _ => rfl)) (pa_cons (pe_ix ix_tup (pv 0) pe_int (fun _ _ => rfl)) pa_nil))) (pa_cons (pe_ix ix_tup (pv 0) pe_int (fun _ _ => rfl)) pa_nil))) pa_nil))))) pss_nil)
        (pss_cons (ps_if (pt_cmpR op_eq (pe_ix ix_tup (pv 0) pe_int (fun _ _ => rfl)) pe_str (nomark _)) (pss_one (ps_ret (pe_lc (own := [("inner", 1)]) (g := gName 1) (tt := tYes) rfl sc_below.nd (pi_tup (pe_ix ix_tup (pv 0) pe_int (fun _ _ => rfl))) (blkOk_by (N := sl_below) (sc := defScope s_below) (by decide +kernel)) (fun _ _ _ _ _ => pg_name (i := 1) sc_below.nd rfl (Or.inl rfl)) (fun _ _ _ _ _ => pts_nil) (fun _ _ _ _ _ => (pe_tup (pa_cons (pe_tup pa_nil) (pa_cons (pv 1) pa_nil))))))) pss_nil)
        (pss_cons (ps_if (pt_cmpR op_eq (pe_ix ix_tup (pv 0) pe_int (fun _ _ => rfl)) pe_str (nomark _)) (pss_one (ps_ret (pe_op opAdd (pe_lst (pa_cons (pe_tup (pa_cons (pe_tup pa_nil) (pa_cons (pe_ix ix_tup (pv 0) pe_int (fun _ _ => rfl)) pa_nil))) pa_nil)) (pe_lc (own := [("_", 2), ("names", 3), ("inner", 1)]) (g := (gTup K 3 (gCons (gName 2) (gCons (gName 3) (gCons (gName 1) gNil))))) (tt := tYes) rfl sc_below.nd (pi_tup (pe_ix ix_tup (pv 0) pe_int (fun _ _ => rfl))) (blkOk_by (N := sl_below) (sc := defScope s_below) (by decide +kernel)) (fun _ _ _ _ _ => (pg_tup rfl (pgs_cons (pg_name (i := 2) sc_below.nd rfl (Or.inl rfl) (by first | exact .inl rfl | exact .inr rfl)) (pgs_cons (pg_name (i := 3) sc_below.nd rfl (Or.inl rfl) (by first | exact .inl rfl | exact .inr rfl)) (pgs_cons (pg_name (i := 1) sc_below.nd rfl (Or.inl rfl) (by first | exact .inl rfl | exact .inr rfl)) pgs_nil))))) (fun _ _ _ _ _ => pts_nil) (fun _ _ _ _ _ => (pe_tup (pa_cons (pv 3) (pa_cons (pv 1) pa_nil)))))))) pss_nil)
        (pss_one (ps_ret (pe_lst (pa_cons (pe_tup (pa_cons (pe_tup pa_nil) (pa_cons (pe_ix ix_tup (pv 0) pe_int (fun _ _ => rfl)) pa_nil))) (pa_cons (pe_tup (pa_cons (pe_tup pa_nil) (pa_cons (pe_ix ix_tup (pv 0) pe_int (fun _ _ => rfl)) pa_nil))) pa_nil)))))))))), ?_⟩
    refine ⟨_, rfl, N, v, d, "str", rfl, hd.same z0, .inl rfl, _, rfl, ?_⟩
    have hkl := kidsS_len ht
    cases ht with
    | name x hx =>
      refine iteT (iteT ?_)
      refine ⟨Nat.zero_le _, fun L hL => k L [] _ (same_new hL) hL upd_same .nil⟩
    | «at» x hx =>
      refine iteF ?_
      obtain ⟨t, x0, x1, rfl, hT0, h0, h1⟩ := hd.tup2
      have hT := sqT_same z0 hT0
      obtain rfl := h0.strInv
      refine ⟨_, rfl, t, _, 0, _, rfl, rfl, hT, rfl, rfl, _, rfl, ?_⟩
      refine iteST rfl ?_
      refine ⟨Nat.zero_le _, fun L hL => k L [] _ (same_new hL) hL upd_same .nil⟩
    | lam x kk tt hx hk =>
      refine iteF ?_
      obtain ⟨t, x0, x1, x2, x3, rfl, hT0, h0, h1, h2, h3⟩ := hd.tup4
      have hT := sqT_same z0 hT0
      obtain rfl := h0.strInv
      obtain rfl := h1.strInv
      refine ⟨_, rfl, t, _, 0, _, rfl, rfl, hT, rfl, rfl, _, rfl, ?_⟩
      refine iteSF (by decide +kernel) ?_
      refine ⟨_, rfl, t, _, 0, _, rfl, rfl, hT, rfl, rfl, _, rfl, ?_⟩
      refine iteST rfl ?_
      refine ⟨_, rfl, t, _, 1, _, rfl, rfl, hT, rfl, le_line (by show 1 ≤ 16000000; decide), fun a ha => ?_⟩
      have s1 : Same _ _ := same_new (o := .tup [V.str x]) ha
      refine ⟨_, rfl, t, _, 3, _, rfl, rfl, sqT_same s1 hT, rfl, le_line (by show 2 ≤ 16000000; decide), fun b hb => ?_⟩
      have s2 : Same _ _ := same_new (o := .tup [V.ref a, x3]) hb
      refine ⟨le_line (by show 1 ≤ 16000000; decide), fun L hL => ?_⟩
      have s3 : Same _ _ := same_new (o := .lst [V.ref b]) hL
      refine k L [.ref b] _ ((s1.trans s2).trans s3) (none_same (s1.trans s2) hL) upd_same (.cons ?_ .nil)
      exact krow (xs := [x]) (sqT_same s3 (SqT.of upd_same)) (sqT_same (s2.trans s3) (SqT.of upd_same)) h3
    | five sgn x y tt uu hs hx hy hxy =>
      refine iteF ?_
      obtain ⟨t, x0, x1, x2, x3, x4, rfl, hT0, h0, h1, h2, h3, h4⟩ := hd.tup5
      have hT := sqT_same z0 hT0
      obtain rfl := h0.strInv
      obtain rfl := h2.strInv
      obtain rfl := h3.strInv
      refine ⟨_, rfl, t, _, 0, _, rfl, rfl, hT, rfl, rfl, _, rfl, ?_⟩
      refine iteSF (ne_mem hs (by decide +kernel)) ?_
      refine ⟨_, rfl, t, _, 0, _, rfl, rfl, hT, rfl, rfl, _, rfl, ?_⟩
      refine iteSF (ne_mem hs (by decide +kernel)) ?_
      refine ⟨_, rfl, t, _, 0, _, rfl, rfl, hT, rfl, le_line (by show 2 ≤ 16000000; decide), fun q hq => ⟨q, m2.map V.str, rfl, .inr (SqT.of upd_same), rfl, rfl, _, rfl, ?_⟩⟩
      have sq : Same H (upd H q (.tup (m2.map V.str))) := same_new hq
      have hTq := sqT_same sq hT
      refine iteInT hs ?_
      refine ⟨Nat.zero_le _, fun a ha => ?_⟩
      have s1 := Same.lay (o := .tup []) sq ha
      refine ⟨_, rfl, t, _, 1, _, rfl, rfl, sqT_same s1 hT, rfl, le_line (by show 2 ≤ 16000000; decide), fun b hb => ?_⟩
      have s2 := Same.lay (o := .tup [V.ref a, x1]) s1 hb
      refine ⟨_, rfl, t, _, 2, _, rfl, rfl, sqT_same s2 hT, rfl, _, rfl, t, _, 3, _, rfl, rfl, sqT_same s2 hT, rfl, le_line (by show 2 ≤ 16000000; decide), fun c hc => ?_⟩
      have s3 := Same.lay (o := .tup [V.str x, V.str y]) s2 hc
      refine ⟨_, rfl, t, _, 4, _, rfl, rfl, sqT_same s3 hT, rfl, le_line (by show 2 ≤ 16000000; decide), fun e he => ?_⟩
      have s4 := Same.lay (o := .tup [V.ref c, x4]) s3 he
      refine ⟨le_line (by show 2 ≤ 16000000; decide), fun L hL => ?_⟩
      have s5 := Same.lay (o := .lst [V.ref b, V.ref e]) s4 hL
      have r5 : Same _ _ := same_new (o := .lst [V.ref b, V.ref e]) hL
      have r4 := (same_new (o := .tup [V.ref c, x4]) he).trans r5
      have r3 := (same_new (o := .tup [V.str x, V.str y]) hc).trans r4
      have r2 := (same_new (o := .tup [V.ref a, x1]) hb).trans r3
      rw [kids_five] at k
      refine k L [.ref b, .ref e] _ s5 (none_same s4 hL) upd_same (.cons ?_ (.cons ?_ .nil))
      · exact krow (xs := []) (sqT_same r3 (SqT.of upd_same)) (sqT_same r2 (SqT.of upd_same)) h1
      · exact krow (xs := [x, y]) (sqT_same r5 (SqT.of upd_same)) (sqT_same r4 (SqT.of upd_same)) h4
    | mk c ts hc h4 =>
      refine iteF ?_
      obtain ⟨t, x0, x1, x2, rfl, hT0, h0, h1, h2⟩ := hd.tup3
      have hT := sqT_same z0 hT0
      obtain rfl := h0.strInv
      obtain ⟨t2, xs, rfl, hT20, hA⟩ := h2.tupInv
      have hT2 := sqT_same z0 hT20
      rw [kids_mk] at k hkl
      rw [List.length_map] at hkl
      have hlx := hA.length
      refine ⟨_, rfl, t, _, 0, _, rfl, rfl, hT, rfl, rfl, _, rfl, ?_⟩
      refine iteSF (by decide +kernel) ?_
      refine ⟨_, rfl, t, _, 0, _, rfl, rfl, hT, rfl, rfl, _, rfl, ?_⟩
      refine iteSF (by decide +kernel) ?_
      refine ⟨_, rfl, t, _, 0, _, rfl, rfl, hT, rfl, le_line (by show 2 ≤ 16000000; decide), fun q hq => ⟨q, m2.map V.str, rfl, .inr (SqT.of upd_same), rfl, rfl, _, rfl, ?_⟩⟩
      have sq : Same H (upd H q (.tup (m2.map V.str))) := same_new hq
      have hTq := sqT_same sq hT
      refine iteInF (by decide +kernel) ?_
      refine ⟨_, rfl, t, _, 0, _, rfl, rfl, hTq, rfl, rfl, _, rfl, ?_⟩
      refine iteST rfl ?_
      refine ⟨_, rfl, t, _, 2, _, rfl, rfl, hTq, rfl, t2, rfl, ⟨_, sqT_same sq hT2⟩, fun L hL => ?_⟩
      have hLn := none_same sq hL
      refine lc_tup (K := K) (xs := xs) (fun i H' => ∃ us, H' L = some (.lst us) ∧ AP (KRow K N H0 H') us ((ts.take i).map fun t => ([], t)) ∧ Same H H') ⟨[], upd_same, .nil, Same.lay sq hL⟩ (fun i H' _ p => sqT_same p.choose_spec.2.2 hT2) ?_ ?_
      · rintro i x H1 hx ⟨us, e1, g1, s1⟩
        obtain ⟨dx, hdx, hxd⟩ := hA.get hx
        have hi : i < xs.length := (List.getElem?_eq_some_iff.mp hx).1
        refine ⟨rfl, ?_⟩
        simp only [tYes, if_true]
        refine ⟨Nat.zero_le _, fun a ha => ?_⟩
        have s2 : Same _ _ := same_new (o := .tup []) ha
        refine ⟨_, rfl, le_line (by show 2 ≤ 16000000; decide), fun b hb => ?_⟩
        have s3 : Same _ _ := same_new (o := .tup [V.ref a, x]) hb
        have e2 := (s2.trans s3) _ _ e1
        refine ⟨us, e2, ?_, us ++ [.ref b], upd_same, ?_, Same.mut (s1.trans (s2.trans s3)) hLn⟩
        · rw [g1.length, List.length_map, List.length_take]
          exact lt_line (by omega)
        · rw [List.take_add_one, hdx, List.map_append]
          exact acc_ap e2 (g1.same (s2.trans s3)) (krow (xs := []) (SqT.of upd_same) (sqT_same s3 (SqT.of upd_same)) hxd)
      · rintro H1 ⟨us, e1, g1, s1⟩
        rw [List.take_of_length_le (by omega)] at g1
        exact k L us H1 s1 hLn e1 g1
    | ch tt cs hc1 hc6 hcs =>
      refine iteF ?_
      obtain ⟨t, x0, x1, x2, rfl, hT0, h0, h1, h2⟩ := hd.tup3
      have hT := sqT_same z0 hT0
      obtain rfl := h0.strInv
      obtain ⟨t2, xs, rfl, hT20, hA⟩ := h2.tupInv
      have hT2 := sqT_same z0 hT20
      rw [kids_ch] at k hkl
      rw [List.length_cons, List.length_map] at hkl
      have hlx := hA.length
      rw [List.length_map] at hlx
      refine ⟨_, rfl, t, _, 0, _, rfl, rfl, hT, rfl, rfl, _, rfl, ?_⟩
      refine iteSF (by decide +kernel) ?_
      refine ⟨_, rfl, t, _, 0, _, rfl, rfl, hT, rfl, rfl, _, rfl, ?_⟩
      refine iteSF (by decide +kernel) ?_
      refine ⟨_, rfl, t, _, 0, _, rfl, rfl, hT, rfl, le_line (by show 2 ≤ 16000000; decide), fun q hq => ⟨q, m2.map V.str, rfl, .inr (SqT.of upd_same), rfl, rfl, _, rfl, ?_⟩⟩
      have sq : Same H (upd H q (.tup (m2.map V.str))) := same_new hq
      have hTq := sqT_same sq hT
      refine iteInF (by decide +kernel) ?_
      refine ⟨_, rfl, t, _, 0, _, rfl, rfl, hTq, rfl, rfl, _, rfl, ?_⟩
      refine iteSF (by decide +kernel) ?_
      refine ⟨_, rfl, t, _, 0, _, rfl, rfl, hTq, rfl, rfl, _, rfl, ?_⟩
      refine iteST rfl ?_
      refine ⟨Nat.zero_le _, fun a ha => ?_⟩
      have s1 := Same.lay (o := .tup []) sq ha
      refine ⟨_, rfl, t, _, 1, _, rfl, rfl, sqT_same s1 hT, rfl, le_line (by show 2 ≤ 16000000; decide), fun b hb => ?_⟩
      have s2 := Same.lay (o := .tup [V.ref a, x1]) s1 hb
      have hrow : KRow K N H0 _ (.ref b) ([], tt) := krow (xs := []) (SqT.of upd_same) (sqT_same (same_new hb) (SqT.of upd_same)) h1
      refine ⟨le_line (by show 1 ≤ 16000000; decide), fun L1 hL1 => ?_⟩
      have s3 := Same.lay (o := .lst [V.ref b]) s2 hL1
      refine ⟨_, rfl, t, _, 2, _, rfl, rfl, sqT_same s3 hT, rfl, t2, rfl, ⟨_, sqT_same s3 hT2⟩, fun L hL => ?_⟩
      have hLn := none_same s3 hL
      have hrow3 := hrow.same (same_new (o := .lst [V.ref b]) hL1)
      refine lc_tup (K := K) (xs := xs) (fun i H' => ∃ us, H' L = some (.lst us) ∧ AP (KRow K N H0 H') us ((cs.take i).map (·.2)) ∧ Same (upd _ L1 (HO.lst [V.ref b])) H') ⟨[], upd_same, .nil, same_new hL⟩ (fun i H' _ p => sqT_same (s3.trans p.choose_spec.2.2) hT2) ?_ ?_
      · rintro i x H1 hx ⟨us, e1, g1, s4⟩
        obtain ⟨dx, hdx, hxd⟩ := hA.get hx
        have hi : i < xs.length := (List.getElem?_eq_some_iff.mp hx).1
        obtain ⟨c, hc, rfl⟩ : ∃ c, cs[i]? = some c ∧ PyData.tuple [.str c.1, .tuple (c.2.1.map strD), c.2.2] = dx := by
          rw [List.getElem?_map] at hdx
          obtain ⟨c, hc, e⟩ := Option.map_eq_some_iff.mp hdx
          exact ⟨c, hc, e⟩
        obtain ⟨tc, y0, y1, y2, rfl, hTc0, g0, gn, g2⟩ := hxd.tup3
        obtain ⟨tn, rfl, hTn0⟩ := gn.names
        have hTc := sqT_same (s3.trans s4) (sqT_same z0 hTc0)
        have hTn := sqT_same (s3.trans s4) (sqT_same z0 hTn0)
        refine ⟨tc, _, rfl, hTc, rfl, y0, _, rfl, V.ref tn, _, rfl, y2, _, rfl, rfl, ?_⟩
        refine ⟨rfl, ?_⟩
        simp only [tYes, if_true]
        refine ⟨_, rfl, _, rfl, le_line (by show 2 ≤ 16000000; decide), fun z hz => ?_⟩
        have s5 : Same _ _ := same_new (o := .tup [V.ref tn, y2]) hz
        have e2 := s5 _ _ e1
        refine ⟨us, e2, ?_, us ++ [.ref z], upd_same, ?_, Same.mut (s4.trans s5) hL⟩
        · rw [g1.length, List.length_map, List.length_take]
          exact lt_line (by omega)
        · rw [List.take_add_one, hc, List.map_append]
          exact acc_ap e2 (g1.same s5) (krow (xs := c.2.1) (SqT.of upd_same) (sqT_same s5 hTn) g2)
      · rintro H1 ⟨us, e1, g1, s4⟩
        rw [List.take_of_length_le (by omega)] at g1
        refine .inr (.inr (.inr ⟨L1, L, [.ref b], us, rfl, rfl, s4 _ _ upd_same, e1, ?_, fun F hF => ?_⟩))
        · have := g1.length
          rw [List.length_map] at this
          rw [List.length_cons, List.length_nil]
          exact le_line (by omega)
        · have s6 : Same _ _ := same_new (o := .lst ([V.ref b] ++ us)) hF
          refine k F (.ref b :: us) _ ((s3.trans s4).trans s6) (none_same (s3.trans s4) hF) upd_same ?_
          exact .cons (hrow3.same (s4.trans s6)) (g1.same s6)
    | two sgn tt uu hs =>
      refine iteF ?_
      obtain ⟨t, x0, x1, x2, rfl, hT0, h0, h1, h2⟩ := hd.tup3
      have hT := sqT_same z0 hT0
      obtain rfl := h0.strInv
      rw [kids_two _ _ hs] at k
      refine ⟨_, rfl, t, _, 0, _, rfl, rfl, hT, rfl, rfl, _, rfl, ?_⟩
      refine iteSF (ne_mem hs (by decide +kernel)) ?_
      refine ⟨_, rfl, t, _, 0, _, rfl, rfl, hT, rfl, rfl, _, rfl, ?_⟩
      refine iteSF (ne_mem hs (by decide +kernel)) ?_
      refine ⟨_, rfl, t, _, 0, _, rfl, rfl, hT, rfl, le_line (by show 2 ≤ 16000000; decide), fun q hq => ⟨q, m2.map V.str, rfl, .inr (SqT.of upd_same), rfl, rfl, _, rfl, ?_⟩⟩
      have sq : Same H (upd H q (.tup (m2.map V.str))) := same_new hq
      have hTq := sqT_same sq hT
      refine iteInF (fun bad => by have q := ne_mem (z := sgn) hs; revert hs bad; intro hs bad; simp only [List.mem_cons, List.not_mem_nil, or_false] at bad; rcases bad with rfl | rfl <;> exact absurd hs (by decide +kernel)) ?_
      refine ⟨_, rfl, t, _, 0, _, rfl, rfl, hTq, rfl, rfl, _, rfl, ?_⟩
      refine iteSF (ne_mem hs (by decide +kernel)) ?_
      refine ⟨_, rfl, t, _, 0, _, rfl, rfl, hTq, rfl, rfl, _, rfl, ?_⟩
      refine iteSF (ne_mem hs (by decide +kernel)) ?_
      refine ⟨Nat.zero_le _, fun a ha => ?_⟩
      have s1 := Same.lay (o := .tup []) sq ha
      refine ⟨_, rfl, t, _, 1, _, rfl, rfl, sqT_same s1 hT, rfl, le_line (by show 2 ≤ 16000000; decide), fun b hb => ?_⟩
      have s2 := Same.lay (o := .tup [V.ref a, x1]) s1 hb
      refine ⟨Nat.zero_le _, fun c hc => ?_⟩
      have s3 := Same.lay (o := .tup []) s2 hc
      refine ⟨_, rfl, t, _, 2, _, rfl, rfl, sqT_same s3 hT, rfl, le_line (by show 2 ≤ 16000000; decide), fun e he => ?_⟩
      have s4 := Same.lay (o := .tup [V.ref c, x2]) s3 he
      refine ⟨le_line (by show 2 ≤ 16000000; decide), fun L hL => ?_⟩
      have s5 := Same.lay (o := .lst [V.ref b, V.ref e]) s4 hL
      have r5 : Same _ _ := same_new (o := .lst [V.ref b, V.ref e]) hL
      have r4 := (same_new (o := .tup [V.ref c, x2]) he).trans r5
      have r3 := (same_new (o := .tup []) hc).trans r4
      have r2 := (same_new (o := .tup [V.ref a, x1]) hb).trans r3
      refine k L [.ref b, .ref e] _ s5 (none_same s4 hL) upd_same (.cons ?_ (.cons ?_ .nil))
      · exact krow (xs := []) (sqT_same r3 (SqT.of upd_same)) (sqT_same r2 (SqT.of upd_same)) h1
      · exact krow (xs := []) (sqT_same r5 (SqT.of upd_same)) (sqT_same r4 (SqT.of upd_same)) h2
end

section
variable {P : Program} {w : World} {K : PySem.W.Frag} {mg : Str → Option Value} {base : Heap}
def WT (K : PySem.W.Frag) (N : Addr → Prop) (H : Hp) (v : V) (R : Addr) (w m : Nat) (d : PyData) (m' : Nat) (σ : L2.St) (H' : Hp) : Prop :=
  ∃ (rows : List V) (qs : List (PyData × Nat)) (many : Nat) (v3 v4 : Option V), σ = [some v, some (.ref R), some (.int many), v3, v4, none, none] ∧ H' R = some (.lst rows) ∧ AP (RT K N H H') rows qs ∧
    termD d = okSum many qs ∧ (∀ q ∈ qs, Fit w m q.1 ∧ q.2 ≤ 31) ∧ Same H H' ∧ rows.length ≤ 7 * many + 1 ∧ many ≤ 200 ∧ m' = 201 - many
theorem ok_is_term (D : DefAt K mg "is_term" s_is_term ["thing"]) (T : Bl mg) (G_MOST_PARTS : GV mg "MOST_PARTS" (.int 200)) (G_MOST_TERMS_WITHIN : GV mg "MOST_TERMS_WITHIN" (.int 30)) (C_is_formed : CallOk P w K mg base 10 "is_formed" ["thing"] (spOf K formedD))
    (C_below : CallOk P w K mg base 1 "below" ["term"] (spKidsS K)) : CallOk P w K mg base 11 "is_term" ["thing"] (spOf K termD) := by
  refine D.ok sc_is_term (fun vs H Q E h => ?_) (fun f cdv A outer s H vs Q E hr h => ?_)
  · obtain ⟨N, v, d, n, m, rfl, _⟩ := h
    rfl
  · obtain ⟨N, v, d, n, m, rfl, hd, hf, hn, k⟩ := h
    refine ⟨_, (pss_cons (ps_set (i := 1) sc_is_term.nd rfl (Or.inl rfl) (pe_lst (pa_cons (pe_tup (pa_cons (pv 0) (pa_cons pe_int pa_nil))) pa_nil)))
        (pss_cons (ps_set (i := 2) sc_is_term.nd rfl (Or.inl rfl) pe_int)
        (pss_cons (ps_while PassesOwn.never (pt_truth (pv 1) (by intro _; rfl)) (pss_cons (ps_asg (pe_bm0 PySem.F.plainAttrs_list PySem.F.slot_list_pop PySem.F.type_list_pop mt_pop (pv 1)) (pg_tup rfl (pgs_cons (pg_name (i := 3) sc_is_term.nd rfl (Or.inl rfl) (by first | exact .inl rfl | exact .inr rfl)) (pgs_cons (pg_name (i := 4) sc_is_term.nd rfl (Or.inr rfl) (by first | exact .inl rfl | exact .inr rfl)) pgs_nil))))
        (pss_cons (ps_aug (i := 2) sc_is_term.nd rfl (.inl rfl) pe_int ip_add)
        (pss_cons (ps_if (PW.pt (pw_or (pt_cmpR op_gt (pv 2) (pe_gv G_MOST_PARTS rfl) (nomark _)) (pw_or (pt_cmpR op_gt (pv 4) (pe_gv G_MOST_TERMS_WITHIN rfl) (nomark _)) (pw_or1 (pt_not (pt_val (pe_callOk C_is_formed hr (by omega) (by rfl) (pa_cons (pv 3) pa_nil)))))))) (pss_one (ps_ret pe_bl)) pss_nil)
        (pss_one (ps_expr (pe_bm PySem.F.plainAttrs_list PySem.F.slot_list_extend PySem.F.type_list_extend mt_extend (pv 1) (pa_cons (pe_lc (own := [("_", 5), ("inner", 6)]) (g := (gTup K 2 (gCons (gName 5) (gCons (gName 6) gNil)))) (tt := tYes) rfl sc_is_term.nd (pi_list (pe_callOk C_below hr (by omega) (by rfl) (pa_cons (pv 3) pa_nil))) (blkOk_by (N := sl_is_term) (sc := defScope s_is_term) (by decide +kernel)) (fun _ _ _ _ _ => (pg_tup rfl (pgs_cons (pg_name (i := 5) sc_is_term.nd rfl (Or.inl rfl) (by first | exact .inl rfl | exact .inr rfl)) (pgs_cons (pg_name (i := 6) sc_is_term.nd rfl (Or.inl rfl) (by first | exact .inl rfl | exact .inr rfl)) pgs_nil)))) (fun _ _ _ _ _ => pts_nil) (fun _ _ _ _ _ => (pe_tup (pa_cons (pv 6) (pa_cons (pe_op (opAddK (K := K) rfl) (pv 4) pe_int) pa_nil))))) pa_nil))))))))
        (pss_one (ps_ret pe_bl))))), ?_⟩
    refine ⟨_, rfl, le_line (by show 2 ≤ 16000000; decide), fun b hb => ⟨le_line (by show 1 ≤ 16000000; decide), fun R hR => ?_⟩⟩
    have s1 : Same H (upd H b (.tup [v, V.int 1])) := same_new hb
    have s0 := Same.trans s1 (same_new (o := .lst [V.ref b]) hR)
    have hR0 := none_same s1 hR
    refine ⟨WT K N H v R n m d, ⟨_, [.ref b], [(d, 1)], 0, none, none, rfl, upd_same, .cons ⟨b, v, rfl, sqT_same (same_new hR) (SqT.of upd_same), hd⟩ .nil, (okSum_one d).symm, ?_, s0, by show 1 ≤ 7 * 0 + 1; omega, by omega, rfl⟩, ?_⟩
    · intro q hq
      rw [List.mem_singleton.mp hq]
      exact ⟨hf, by show 1 ≤ 31; omega⟩
    rintro m' σ H1 ⟨rows, qs, many, v3, v4, rfl, eR, gr, hok, hall, sH, hlen, hmany, rfl⟩
    refine ⟨_, rfl, !rows.isEmpty, .inl ⟨_, SqL.of eR, rfl⟩, ?_⟩
    rcases List.eq_nil_or_concat qs with rfl | ⟨qs', q, rfl⟩
    · obtain rfl := gr.nil_of
      refine iteF ?_
      rw [okSum_nil hmany] at hok
      rw [hok] at k
      exact k H1 sH
    · rw [List.concat_eq_append] at gr hok hall
      obtain ⟨us, y, rfl, gu, gy⟩ := gr.snoc
      rw [show (!(us ++ [y]).isEmpty) = true by simp]
      refine iteT ?_
      obtain ⟨fq, q31⟩ := hall q (by simp)
      refine ⟨fun σ' H' => ∃ m'', m'' < _ ∧ WT K N H v R n m d m'' σ' H', fun _ _ h => h, ?_⟩
      refine ⟨_, rfl, .inl ⟨rfl, _, SqL.of eR⟩, R, us ++ [y], y, rfl, rfl, eR, by simp, ?_⟩
      rw [List.dropLast_concat]
      have p2 : Ts K H1 (upd H1 R (.lst us)) := Ts.put eR
      have eR2 : (upd H1 R (.lst us)) R = some (.lst us) := upd_same
      have s2 : Same H (upd H1 R (.lst us)) := Same.mut sH hR0
      have gu2 := gu.mono (RT.ts p2)
      obtain ⟨t, a1, rfl, hT, ga⟩ := RT.ts p2 y q gy
      refine ⟨t, _, rfl, hT, rfl, a1, _, rfl, _, _, rfl, rfl, ?_⟩
      generalize (upd H1 R (.lst us)) = H2 at eR2 s2 gu2 hT ⊢
      refine ⟨_, rfl, _, _, rfl, rfl, ?_⟩
      refine ⟨_, rfl, _, _, rfl, rfl, _, rfl, ?_⟩
      by_cases h1 : (200 : Int) < (many : Int) + 1
      · rw [decide_eq_true h1]
        refine iteT (iteT ?_)
        rw [okSum_full (by omega)] at hok
        rw [hok] at k
        exact k H2 s2
      rw [decide_eq_false h1]
      refine iteF ?_
      refine ⟨_, rfl, _, _, rfl, rfl, _, rfl, ?_⟩
      by_cases h2 : (30 : Int) < (q.2 : Int)
      · rw [decide_eq_true h2]
        refine iteT (iteT ?_)
        rw [okSum_none (by rw [show 31 - q.2 = 0 by omega]; rfl)] at hok
        rw [hok] at k
        exact k H2 s2
      rw [decide_eq_false h2]
      refine iteF ?_
      refine ⟨_, rfl, N, a1, q.1, n, m, rfl, ga.same s2, fq, hn, fun H3 s3 => ?_⟩
      cases hfd : formedD q.1 with
      | false =>
        refine ⟨_, rfl, iteT ?_⟩
        rw [okSum_none (by rw [show 31 - q.2 = (30 - q.2) + 1 by omega, sizedD, if_neg (by rw [hfd]; exact Bool.false_ne_true)])] at hok
        rw [hok] at k
        exact k H3 (s2.trans s3)
      | true =>
        refine ⟨_, rfl, iteF ?_⟩
        have hsh := formed_sh hfd
        have s23 := s2.trans s3
        have eR3 := s3 _ _ eR2
        have gu3 := gu2.mono (RT.ts (Ts.of s3))
        have hkl := kidsS_len hsh
        have hfk := kidsS_fit hsh fq
        rw [← okSum_step hfd (by omega)] at hok
        refine ⟨_, rfl, .inl ⟨rfl, _, SqL.of eR3⟩, _, rfl, N, H, a1, q.1, rfl, s23, ga, hsh, fun B bs H4 s4 hB eB gb => ?_⟩
        refine ⟨B, rfl, ⟨_, SqL.of eB⟩, fun C hC => ?_⟩
        have hlb := gb.length
        refine lc_list (K := K) (xs := bs) (fun i H' => ∃ cs, H' C = some (.lst cs) ∧ AP (RT K N H H') cs (((kids q.1).take i).map fun k => (k.2, q.2 + 1)) ∧ Same H4 H') ⟨[], upd_same, .nil, same_new hC⟩ (fun i H' _ p => SqL.of (p.choose_spec.2.2 _ _ eB)) ?_ ?_
        · rintro i x H5 hx ⟨cs, e5, g5, s5⟩
          obtain ⟨kk, hk, hkr⟩ := gb.get hx
          have hi : i < bs.length := (List.getElem?_eq_some_iff.mp hx).1
          obtain ⟨t', tn, b2, rfl, hT', hTn, hb2⟩ := hkr.same s5
          refine ⟨t', _, rfl, hT', rfl, .ref tn, _, rfl, b2, _, rfl, rfl, rfl, ?_⟩
          simp only [tYes, if_true]
          refine ⟨_, rfl, _, rfl, .inl ⟨_, _, rfl, rfl, le_line (by show 2 ≤ 16000000; decide), fun z hz => ?_⟩⟩
          have s6 : Same H5 (upd H5 z (.tup [b2, V.int ((q.2 : Int) + 1)])) := same_new hz
          have e6 := s6 _ _ e5
          refine ⟨cs, e6, ?_, cs ++ [.ref z], upd_same, ?_, Same.mut (s5.trans s6) hC⟩
          · rw [g5.length, List.length_map, List.length_take]
            exact lt_line (by omega)
          · rw [List.take_add_one, hk, List.map_append]
            exact ((g5.mono (RT.ts (Ts.of s6))).append (.cons ⟨z, b2, rfl, SqT.of upd_same, hb2⟩ .nil)).mono (RT.ts (Ts.put e6))
        · rintro H5 ⟨cs, e5, g5, s5⟩
          rw [List.take_of_length_le (by omega)] at g5
          have s35 := s4.trans s5
          have eR5 := s35 _ _ eR3
          have hlu : us.length ≤ 7 * many := by
            rw [List.length_append] at hlen
            have : [V.ref t].length = 1 := rfl
            omega
          have hlc : cs.length ≤ 7 := by
            rw [g5.length, List.length_map]
            omega
          refine ⟨R, C, us, cs, rfl, rfl, eR5, e5, le_line (by omega), ?_⟩
          have p6 : Ts K H5 (upd H5 R (.lst (us ++ cs))) := Ts.put eR5
          refine ⟨201 - (many + 1), by omega, us ++ cs, qs' ++ (kids q.1).map (fun k => (k.2, q.2 + 1)), many + 1, _, _, rfl, upd_same, ?_, hok, ?_, Same.mut (s23.trans s35) hR0, ?_, by omega, rfl⟩
          · exact ((gu3.mono (RT.ts (Ts.of s35))).append g5).mono (RT.ts p6)
          · intro e he
            rcases List.mem_append.mp he with he | he
            · exact hall e (List.mem_append_left _ he)
            · obtain ⟨kk, hk, rfl⟩ := List.mem_map.mp he
              exact ⟨hfk.mem (List.mem_map_of_mem (f := (·.2)) hk), by show q.2 + 1 ≤ 31; omega⟩
          · rw [List.length_append]
            omega
end

section
variable {P : Program} {w : World} {K : PySem.W.Frag} {mg : Str → Option Value} {base : Heap}
theorem ok_maker (D : DefAt K mg "is_maker" s_is_maker ["thing"]) (T : Bl mg) (G_MOST_FIELDS : GV mg "MOST_FIELDS" (.int 4)) (C_is_row : CallOk P w K mg base 1 "is_row" ["thing", "least", "most"] (spIsRow K)) (C_is_name : CallOk P w K mg base 1 "is_name" ["thing"] (spIsName K)) :
    CallOk P w K mg base 2 "is_maker" ["thing"] (spOf K makerOk) := by
  refine D.ok sc_is_maker (fun vs H Q E h => ?_) (fun f cdv A outer s H vs Q E hr h => ?_)
  · obtain ⟨N, v, d, n, m, rfl, _⟩ := h
    rfl
  · obtain ⟨N, v, d, n, m, rfl, hd, hf, hn, k⟩ := h
    refine ⟨_, (pss_cons (ps_if (PW.pt (pw_or (pt_not (pt_val (pe_callOk C_is_row hr (by omega) (by rfl) (pa_cons (pv 0) (pa_cons pe_int (pa_cons pe_int pa_nil)))))) (pw_or (pt_not (pt_val (pe_callOk C_is_name hr (by omega) (by rfl) (pa_cons (pe_ix ix_tup (pv 0) pe_int (fun _ _ => rfl)) pa_nil)))) (pw_or1 (pt_not (pt_val (pe_callOk C_is_row hr (by omega) (by rfl) (pa_cons (pe_ix ix_tup (pv 0) pe_int (fun _ _ => rfl)) (pa_cons pe_int (pa_cons (pe_gv G_MOST_FIELDS rfl) pa_nil)))))))))) (pss_one (ps_ret pe_bl)) pss_nil)
        (pss_one (ps_ret (pe_callB (cr_all rfl) (by rfl) T.all_ (by decide +kernel) (pa_cons (pe_lc (own := [("field", 1)]) (g := gName 1) (tt := tYes) rfl sc_is_maker.nd (pi_tup (pe_ix ix_tup (pv 0) pe_int (fun _ _ => rfl))) (blkOk_by (N := sl_is_maker) (sc := defScope s_is_maker) (by decide +kernel)) (fun _ _ _ _ _ => pg_name (i := 1) sc_is_maker.nd rfl (Or.inl rfl)) (fun _ _ _ _ _ => pts_nil) (fun _ _ _ _ _ => (pe_callOk C_is_name hr (by omega) (by rfl) (pa_cons (pv 1) pa_nil)))) pa_nil))))), ?_⟩
    refine ⟨_, rfl, N, v, d, 2, 2, rfl, hd, ?_⟩
    cases hrow : isRowD d 2 2 with
    | false =>
      refine ⟨_, rfl, iteT (iteT ?_)⟩
      rw [maker_no hrow] at k
      exact k H (Same.refl H)
    | true =>
      refine ⟨_, rfl, iteF ?_⟩
      obtain ⟨a, b, rfl⟩ := row2 hrow
      obtain ⟨t, x, y, rfl, hT, ha, hb⟩ := hd.tup2
      obtain ⟨fa, fb⟩ := fit2 hf
      have k : ∀ H', Same H H' → Q (.bl (isNameD a && (isRowD b 0 4 && (itD b).all isNameD))) H' := k
      refine ⟨_, rfl, t, _, 0, _, rfl, rfl, hT, rfl, N, x, a, n, m, rfl, ha, fa, hn, fun H1 s1 => ?_⟩
      cases hna : isNameD a with
      | false =>
        refine ⟨_, rfl, iteT (iteT ?_)⟩
        rw [hna] at k
        exact k H1 s1
      | true =>
        refine ⟨_, rfl, iteF ?_⟩
        rw [hna, Bool.true_and] at k
        refine ⟨_, rfl, t, _, 1, _, rfl, rfl, sqT_same s1 hT, rfl, N, y, b, 0, 4, rfl, hb.same s1, ?_⟩
        cases hrb : isRowD b 0 4 with
        | false =>
          refine ⟨_, rfl, iteT ?_⟩
          rw [hrb] at k
          exact k H1 s1
        | true =>
          refine ⟨_, rfl, iteF ?_⟩
          rw [hrb, Bool.true_and] at k
          obtain ⟨ns, rfl, _, h4⟩ := row_tup hrb
          obtain ⟨t2, us, rfl, hT2, hA⟩ := (hb.same s1).tupInv
          have hlu := hA.length
          have fns := fb.inner
          refine ⟨_, rfl, t, _, 1, _, rfl, rfl, sqT_same s1 hT, rfl, t2, rfl, ⟨_, hT2⟩, fun L hL => ?_⟩
          refine lc_tup (K := K) (xs := us) (fun i H' => H' L = some (.lst (((ns.take i).map isNameD).map V.bl)) ∧ Same H1 H') ⟨upd_same, same_new hL⟩ (fun i H' _ p => sqT_same p.2 hT2) ?_ ?_
          · rintro i u H2 hu ⟨e2, s2⟩
            obtain ⟨dx, hdx, hxd⟩ := hA.get hu
            have hi : i < us.length := (List.getElem?_eq_some_iff.mp hu).1
            refine ⟨rfl, ?_⟩
            simp only [tYes, if_true]
            refine ⟨_, rfl, N, u, dx, n, m, rfl, hxd.same s2, fns.mem (List.mem_of_getElem? hdx), hn, fun H3 s3 => ⟨_, s3 _ _ e2, ?_, ?_, Same.mut (s2.trans s3) hL⟩⟩
            · rw [List.length_map, List.length_map, List.length_take]
              exact lt_line (by omega)
            · rw [upd_same, List.take_add_one, hdx, List.map_append, List.map_append]
              rfl
          · rintro H2 ⟨e2, s2⟩
            rw [List.take_of_length_le (by omega)] at e2
            refine ⟨L, ns.map isNameD, rfl, SqL.of e2, ?_⟩
            rw [all_id]
            exact k H2 (s1.trans s2)
end

section
variable {P : Program} {w : World} {K : PySem.W.Frag} {mg : Str → Option Value} {base : Heap}
theorem ok_data (D : DefAt K mg "is_data" s_is_data ["thing"]) (T : Bl mg) (G_MOST_MAKERS : GV mg "MOST_MAKERS" (.int 6)) (C_is_row : CallOk P w K mg base 1 "is_row" ["thing", "least", "most"] (spIsRow K)) (C_is_name : CallOk P w K mg base 1 "is_name" ["thing"] (spIsName K)) (C_is_maker : CallOk P w K mg base 2 "is_maker" ["thing"] (spOf K makerOk)) :
    CallOk P w K mg base 3 "is_data" ["thing"] (spOf K dataOk) := by
  refine D.ok sc_is_data (fun vs H Q E h => ?_) (fun f cdv A outer s H vs Q E hr h => ?_)
  · obtain ⟨N, v, d, n, m, rfl, _⟩ := h
    rfl
  · obtain ⟨N, v, d, n, m, rfl, hd, hf, hn, k⟩ := h
    refine ⟨_, (pss_cons (ps_if (PW.pt (pw_or (pt_not (pt_val (pe_callOk C_is_row hr (by omega) (by rfl) (pa_cons (pv 0) (pa_cons pe_int (pa_cons pe_int pa_nil)))))) (pw_or (pt_not (pt_val (pe_callOk C_is_name hr (by omega) (by rfl) (pa_cons (pe_ix ix_tup (pv 0) pe_int (fun _ _ => rfl)) pa_nil)))) (pw_or1 (pt_not (pt_val (pe_callOk C_is_row hr (by omega) (by rfl) (pa_cons (pe_ix ix_tup (pv 0) pe_int (fun _ _ => rfl)) (pa_cons pe_int (pa_cons (pe_gv G_MOST_MAKERS rfl) pa_nil)))))))))) (pss_one (ps_ret pe_bl)) pss_nil)
        (pss_one (ps_ret (pe_callB (cr_all rfl) (by rfl) T.all_ (by decide +kernel) (pa_cons (pe_lc (own := [("row", 1)]) (g := gName 1) (tt := tYes) rfl sc_is_data.nd (pi_tup (pe_ix ix_tup (pv 0) pe_int (fun _ _ => rfl))) (blkOk_by (N := sl_is_data) (sc := defScope s_is_data) (by decide +kernel)) (fun _ _ _ _ _ => pg_name (i := 1) sc_is_data.nd rfl (Or.inl rfl)) (fun _ _ _ _ _ => pts_nil) (fun _ _ _ _ _ => (pe_callOk C_is_maker hr (by omega) (by rfl) (pa_cons (pv 1) pa_nil)))) pa_nil))))), ?_⟩
    refine ⟨_, rfl, N, v, d, 2, 2, rfl, hd, ?_⟩
    cases hrow : isRowD d 2 2 with
    | false =>
      refine ⟨_, rfl, iteT (iteT ?_)⟩
      rw [data_no hrow] at k
      exact k H (Same.refl H)
    | true =>
      refine ⟨_, rfl, iteF ?_⟩
      obtain ⟨a, b, rfl⟩ := row2 hrow
      obtain ⟨t, x, y, rfl, hT, ha, hb⟩ := hd.tup2
      obtain ⟨fa, fb⟩ := fit2 hf
      have k : ∀ H', Same H H' → Q (.bl (isNameD a && (isRowD b 1 6 && (itD b).all makerOk))) H' := k
      refine ⟨_, rfl, t, _, 0, _, rfl, rfl, hT, rfl, N, x, a, n, m, rfl, ha, fa, hn, fun H1 s1 => ?_⟩
      cases hna : isNameD a with
      | false =>
        refine ⟨_, rfl, iteT (iteT ?_)⟩
        rw [hna] at k
        exact k H1 s1
      | true =>
        refine ⟨_, rfl, iteF ?_⟩
        rw [hna, Bool.true_and] at k
        refine ⟨_, rfl, t, _, 1, _, rfl, rfl, sqT_same s1 hT, rfl, N, y, b, 1, 6, rfl, hb.same s1, ?_⟩
        cases hrb : isRowD b 1 6 with
        | false =>
          refine ⟨_, rfl, iteT ?_⟩
          rw [hrb] at k
          exact k H1 s1
        | true =>
          refine ⟨_, rfl, iteF ?_⟩
          rw [hrb, Bool.true_and] at k
          obtain ⟨ns, rfl, _, h4⟩ := row_tup hrb
          obtain ⟨t2, us, rfl, hT2, hA⟩ := (hb.same s1).tupInv
          have hlu := hA.length
          have fns := fb.inner
          refine ⟨_, rfl, t, _, 1, _, rfl, rfl, sqT_same s1 hT, rfl, t2, rfl, ⟨_, hT2⟩, fun L hL => ?_⟩
          refine lc_tup (K := K) (xs := us) (fun i H' => H' L = some (.lst (((ns.take i).map makerOk).map V.bl)) ∧ Same H1 H') ⟨upd_same, same_new hL⟩ (fun i H' _ p => sqT_same p.2 hT2) ?_ ?_
          · rintro i u H2 hu ⟨e2, s2⟩
            obtain ⟨dx, hdx, hxd⟩ := hA.get hu
            have hi : i < us.length := (List.getElem?_eq_some_iff.mp hu).1
            refine ⟨rfl, ?_⟩
            simp only [tYes, if_true]
            refine ⟨_, rfl, N, u, dx, n, m, rfl, hxd.same s2, fns.mem (List.mem_of_getElem? hdx), hn, fun H3 s3 => ⟨_, s3 _ _ e2, ?_, ?_, Same.mut (s2.trans s3) hL⟩⟩
            · rw [List.length_map, List.length_map, List.length_take]
              exact lt_line (by omega)
            · rw [upd_same, List.take_add_one, hdx, List.map_append, List.map_append]
              rfl
          · rintro H2 ⟨e2, s2⟩
            rw [List.take_of_length_le (by omega)] at e2
            refine ⟨L, ns.map makerOk, rfl, SqL.of e2, ?_⟩
            rw [all_id]
            exact k H2 (s1.trans s2)
end

section
variable {P : Program} {w : World} {K : PySem.W.Frag} {mg : Str → Option Value} {base : Heap}
theorem ok_def (D : DefAt K mg "is_def" s_is_def ["thing"]) (T : Bl mg) (C_is_row : CallOk P w K mg base 1 "is_row" ["thing", "least", "most"] (spIsRow K)) (C_is_name : CallOk P w K mg base 1 "is_name" ["thing"] (spIsName K))
    (C_is_kind : CallOk P w K mg base 8 "is_kind" ["thing"] (spKind K)) (C_is_term : CallOk P w K mg base 11 "is_term" ["thing"] (spOf K termD)) : CallOk P w K mg base 12 "is_def" ["thing"] (spOf K defOk) := by
  refine D.ok sc_is_def (fun vs H Q E h => ?_) (fun f cdv A outer s H vs Q E hr h => ?_)
  · obtain ⟨N, v, d, n, m, rfl, _⟩ := h
    rfl
  · obtain ⟨N, v, d, n, m, rfl, hd, hf, hn, k⟩ := h
    refine ⟨_, (pss_one (ps_ret (pe_and (pe_callOk C_is_row hr (by omega) (by rfl) (pa_cons (pv 0) (pa_cons pe_int (pa_cons pe_int pa_nil)))) (pe_and (pe_callOk C_is_name hr (by omega) (by rfl) (pa_cons (pe_ix ix_tup (pv 0) pe_int (fun _ _ => rfl)) pa_nil)) (pe_and (pe_callOk C_is_kind hr (by omega) (by rfl) (pa_cons (pe_ix ix_tup (pv 0) pe_int (fun _ _ => rfl)) pa_nil)) (pe_one (pe_callOk C_is_term hr (by omega) (by rfl) (pa_cons (pe_ix ix_tup (pv 0) pe_int (fun _ _ => rfl)) pa_nil)))))))), ?_⟩
    refine ⟨_, rfl, N, v, d, 3, 3, rfl, hd, ?_⟩
    cases hrow : isRowD d 3 3 with
    | false =>
      refine ⟨_, rfl, iteF ?_⟩
      rw [def_no hrow] at k
      exact k H (Same.refl H)
    | true =>
      refine ⟨_, rfl, iteT ?_⟩
      obtain ⟨a, b, c, rfl⟩ := row3 hrow
      obtain ⟨t, x, y, z, rfl, hT, ha, hb, hc⟩ := hd.tup3
      obtain ⟨fa, fb, fc⟩ := fit3' hf
      have k : ∀ H', Same H H' → Q (.bl (isNameD a && (kindW 6 b && termD c))) H' := k
      refine ⟨_, rfl, t, _, 0, _, rfl, rfl, hT, rfl, N, x, a, n, m, rfl, ha, fa, hn, fun H1 s1 => ?_⟩
      cases hna : isNameD a with
      | false =>
        refine ⟨_, rfl, iteF ?_⟩
        rw [hna] at k
        exact k H1 s1
      | true =>
        refine ⟨_, rfl, iteT ?_⟩
        rw [hna, Bool.true_and] at k
        refine ⟨_, rfl, t, _, 1, _, rfl, rfl, sqT_same s1 hT, rfl, N, y, b, n, m, rfl, hb.same s1, fb, hn, fun H2 s2 => ?_⟩
        cases hkb : kindW 6 b with
        | false =>
          refine ⟨_, rfl, iteF ?_⟩
          rw [hkb] at k
          exact k H2 (s1.trans s2)
        | true =>
          refine ⟨_, rfl, iteT ?_⟩
          rw [hkb, Bool.true_and] at k
          exact ⟨_, rfl, t, _, 2, _, rfl, rfl, sqT_same (s1.trans s2) hT, rfl, N, z, c, n, m, rfl, hc.same (s1.trans s2), fc, hn, fun H3 s3 => k H3 ((s1.trans s2).trans s3)⟩
end

section
variable {P : Program} {w : World} {K : PySem.W.Frag} {mg : Str → Option Value} {base : Heap}
theorem ok_defs (D : DefAt K mg "are_defs" s_are_defs ["thing"]) (T : Bl mg) (G_MOST_DEFS : GV mg "MOST_DEFS" (.int 16)) (C_is_row : CallOk P w K mg base 1 "is_row" ["thing", "least", "most"] (spIsRow K)) (C_is_def : CallOk P w K mg base 12 "is_def" ["thing"] (spOf K defOk))
    (C_are_unlike : CallOk P w K mg base 1 "are_unlike" ["names"] (spUnlike K)) : CallOk P w K mg base 13 "are_defs" ["thing"] (spOf K defsOk) := by
  refine D.ok sc_are_defs (fun vs H Q E h => ?_) (fun f cdv A outer s H vs Q E hr h => ?_)
  · obtain ⟨N, v, d, n, m, rfl, _⟩ := h
    rfl
  · obtain ⟨N, v, d, n, m, rfl, hd, hf, hn, k⟩ := h
    refine ⟨_, (pss_cons (ps_if (PW.pt (pw_or (pt_not (pt_val (pe_callOk C_is_row hr (by omega) (by rfl) (pa_cons (pv 0) (pa_cons pe_int (pa_cons (pe_gv G_MOST_DEFS rfl) pa_nil)))))) (pw_or1 (pt_not (pt_val (pe_callB (cr_all rfl) (by rfl) T.all_ (by decide +kernel) (pa_cons (pe_lc (own := [("row", 1)]) (g := gName 1) (tt := tYes) rfl sc_are_defs.nd (pi_tup (pv 0)) (blkOk_by (N := sl_are_defs) (sc := defScope s_are_defs) (by decide +kernel)) (fun _ _ _ _ _ => pg_name (i := 1) sc_are_defs.nd rfl (Or.inl rfl)) (fun _ _ _ _ _ => pts_nil) (fun _ _ _ _ _ => (pe_callOk C_is_def hr (by omega) (by rfl) (pa_cons (pv 1) pa_nil)))) pa_nil))))))) (pss_one (ps_ret pe_bl)) pss_nil)
        (pss_one (ps_ret (pe_callOk C_are_unlike hr (by omega) (by rfl) (pa_cons (pe_lc (own := [("name", 2), ("_", 3)]) (g := (gTup K 3 (gCons (gName 2) (gCons (gName 3) (gCons (gName 3) gNil))))) (tt := tYes) rfl sc_are_defs.nd (pi_tup (pv 0)) (blkOk_by (N := sl_are_defs) (sc := defScope s_are_defs) (by decide +kernel)) (fun _ _ _ _ _ => (pg_tup rfl (pgs_cons (pg_name (i := 2) sc_are_defs.nd rfl (Or.inl rfl) (by first | exact .inl rfl | exact .inr rfl)) (pgs_cons (pg_name (i := 3) sc_are_defs.nd rfl (Or.inl rfl) (by first | exact .inl rfl | exact .inr rfl)) (pgs_cons (pg_name (i := 3) sc_are_defs.nd rfl (Or.inl rfl) (by first | exact .inl rfl | exact .inr rfl)) pgs_nil))))) (fun _ _ _ _ _ => pts_nil) (fun _ _ _ _ _ => (pv 2))) pa_nil))))), ?_⟩
    unfold defsOk at k
    refine ⟨_, rfl, N, v, d, 0, 16, rfl, hd, ?_⟩
    cases hrb : isRowD d 0 16 with
    | false =>
      refine ⟨_, rfl, iteT (iteT ?_)⟩
      rw [hrb] at k
      exact k H (Same.refl H)
    | true =>
      refine ⟨_, rfl, iteF ?_⟩
      rw [hrb, Bool.true_and] at k
      obtain ⟨ns, rfl, _, h16⟩ := row_tup hrb
      obtain ⟨t2, us, rfl, hT2, hA⟩ := hd.tupInv
      have hlu := hA.length
      have fns := hf.inner
      refine ⟨_, rfl, t2, rfl, ⟨_, hT2⟩, fun L hL => ?_⟩
      refine lc_tup (K := K) (xs := us) (fun i H' => H' L = some (.lst (((ns.take i).map defOk).map V.bl)) ∧ Same H H') ⟨upd_same, same_new hL⟩ (fun i H' _ p => sqT_same p.2 hT2) ?_ ?_
      · rintro i u H2 hu ⟨e2, s2⟩
        obtain ⟨dx, hdx, hxd⟩ := hA.get hu
        have hi : i < us.length := (List.getElem?_eq_some_iff.mp hu).1
        refine ⟨rfl, ?_⟩
        simp only [tYes, if_true]
        refine ⟨_, rfl, N, u, dx, n, m, rfl, hxd.same s2, fns.mem (List.mem_of_getElem? hdx), hn, fun H3 s3 => ⟨_, s3 _ _ e2, ?_, ?_, Same.mut (s2.trans s3) hL⟩⟩
        · rw [List.length_map, List.length_map, List.length_take]
          exact lt_line (by omega)
        · rw [upd_same, List.take_add_one, hdx, List.map_append, List.map_append]
          rfl
      · rintro H2 ⟨e2, s2⟩
        rw [List.take_of_length_le (by omega)] at e2
        refine ⟨L, ns.map defOk, rfl, SqL.of e2, ?_⟩
        rw [all_id]
        cases hal : ns.all defOk with
        | false =>
          refine ⟨_, rfl, iteT ?_⟩
          rw [show (itD (.tuple ns)).all defOk = false from hal] at k
          exact k H2 s2
        | true =>
          refine ⟨_, rfl, iteF ?_⟩
          rw [show (itD (.tuple ns)).all defOk = true from hal, Bool.true_and] at k
          have k : ∀ H', Same H H' → Q (.bl (unlikeN (ns.map defName))) H' := k
          rw [List.all_eq_true] at hal
          refine ⟨_, rfl, t2, rfl, ⟨_, sqT_same s2 hT2⟩, fun L2 hL2 => ?_⟩
          refine lc_tup (K := K) (xs := us) (fun i H' => H' L2 = some (.lst (((ns.take i).map defName).map V.str)) ∧ Same H2 H') ⟨upd_same, same_new hL2⟩ (fun i H' _ p => sqT_same (s2.trans p.2) hT2) ?_ ?_
          · rintro i u H3 hu ⟨e3, s3⟩
            obtain ⟨dx, hdx, hxd⟩ := hA.get hu
            have hi : i < us.length := (List.getElem?_eq_some_iff.mp hu).1
            have hok := hal dx (List.mem_of_getElem? hdx)
            have hr3 : isRowD dx 3 3 = true := by
              cases e : isRowD dx 3 3 with
              | true => rfl
              | false =>
                rw [def_no e] at hok
                cases hok
            obtain ⟨a, b, c, rfl⟩ := row3 hr3
            obtain ⟨t, x, y, z, rfl, hT, ha, hb, hc⟩ := hxd.tup3
            have hna : isNameD a = true := by
              have e : (isNameD a && (kindW 6 b && termD c)) = true := hok
              rw [Bool.and_eq_true] at e
              exact e.1
            obtain ⟨nm, rfl⟩ := name_str hna
            obtain rfl := ha.strInv
            refine ⟨t, _, rfl, sqT_same (s2.trans s3) hT, rfl, .str nm, _, rfl, y, _, rfl, z, _, rfl, rfl, rfl, ?_⟩
            simp only [tYes, if_true]
            refine ⟨_, rfl, _, e3, ?_, ?_, Same.mut s3 hL2⟩
            · rw [List.length_map, List.length_map, List.length_take]
              exact lt_line (by omega)
            · rw [upd_same, List.take_add_one, hdx, List.map_append, List.map_append]
              rfl
          · rintro H3 ⟨e3, s3⟩
            rw [List.take_of_length_le (by omega)] at e3
            exact ⟨L2, _, rfl, .inr (SqL.of e3), by rw [List.length_map]; omega, k H3 (s2.trans s3)⟩
end

section
variable {P : Program} {w : World} {K : PySem.W.Frag} {mg : Str → Option Value} {base : Heap}
set_option maxHeartbeats 0 in
theorem ok_datas (D : DefAt K mg "are_datas" s_are_datas ["thing"]) (T : Bl mg) (G_MOST_DATAS : GV mg "MOST_DATAS" (.int 6)) (C_is_row : CallOk P w K mg base 1 "is_row" ["thing", "least", "most"] (spIsRow K)) (C_is_data : CallOk P w K mg base 3 "is_data" ["thing"] (spOf K dataOk))
    (C_are_unlike : CallOk P w K mg base 1 "are_unlike" ["names"] (spUnlike K)) : CallOk P w K mg base 4 "are_datas" ["thing"] (spOf K datasOk) := by
  refine D.ok sc_are_datas (fun vs H Q E h => ?_) (fun f cdv A outer s H vs Q E hr h => ?_)
  · obtain ⟨N, v, d, n, m, rfl, _⟩ := h
    rfl
  · obtain ⟨N, v, d, n, m, rfl, hd, hf, hn, k⟩ := h
    refine ⟨_, (pss_cons (ps_if (PW.pt (pw_or (pt_not (pt_val (pe_callOk C_is_row hr (by omega) (by rfl) (pa_cons (pv 0) (pa_cons pe_int (pa_cons (pe_gv G_MOST_DATAS rfl) pa_nil)))))) (pw_or1 (pt_not (pt_val (pe_callB (cr_all rfl) (by rfl) T.all_ (by decide +kernel) (pa_cons (pe_lc (own := [("row", 1)]) (g := gName 1) (tt := tYes) rfl sc_are_datas.nd (pi_tup (pv 0)) (blkOk_by (N := sl_are_datas) (sc := defScope s_are_datas) (by decide +kernel)) (fun _ _ _ _ _ => pg_name (i := 1) sc_are_datas.nd rfl (Or.inl rfl)) (fun _ _ _ _ _ => pts_nil) (fun _ _ _ _ _ => (pe_callOk C_is_data hr (by omega) (by rfl) (pa_cons (pv 1) pa_nil)))) pa_nil))))))) (pss_one (ps_ret pe_bl)) pss_nil)
        (pss_cons (ps_set (i := 2) sc_are_datas.nd rfl (Or.inr rfl) (pe_lc (own := [("name", 3), ("_", 4)]) (g := (gTup K 2 (gCons (gName 3) (gCons (gName 4) gNil)))) (tt := tYes) rfl sc_are_datas.nd (pi_tup (pv 0)) (blkOk_by (N := sl_are_datas) (sc := defScope s_are_datas) (by decide +kernel)) (fun _ _ _ _ _ => (pg_tup rfl (pgs_cons (pg_name (i := 3) sc_are_datas.nd rfl (Or.inl rfl) (by first | exact .inl rfl | exact .inr rfl)) (pgs_cons (pg_name (i := 4) sc_are_datas.nd rfl (Or.inl rfl) (by first | exact .inl rfl | exact .inr rfl)) pgs_nil)))) (fun _ _ _ _ _ => pts_nil) (fun _ _ _ _ _ => (pv 3))))
        (pss_cons (ps_setLcN (i := 5) (own := [("_", 4), ("rows", 6), ("maker", 7)]) (c := ⟨_, _, _, _, (gTup K 2 (gCons (gName 4) (gCons (gName 6) gNil))), tYes, [4, 6, 7]⟩) (cs := [⟨_, _, _, _, (gTup K 2 (gCons (gName 7) (gCons (gName 4) gNil))), tYes, [7, 4]⟩]) rfl sc_are_datas.nd rfl rfl (sw_true rfl rfl rfl (by decide +kernel)) (pi_tup (pv 0)) (blkOk_by (N := sl_are_datas) (sc := defScope s_are_datas) (by decide +kernel)) rfl (by simp [NestVs, topVs]) (fun _ _ _ _ _ => (pg_tup rfl (pgs_cons (pg_name (i := 4) sc_are_datas.nd rfl (Or.inl rfl) (by first | exact .inl rfl | exact .inr rfl)) (pgs_cons (pg_name (i := 6) sc_are_datas.nd rfl (Or.inl rfl) (by first | exact .inl rfl | exact .inr rfl)) pgs_nil)))) (fun _ _ _ _ _ => pts_nil) (fun _ _ _ _ _ => (ok_cons (pi_tupK (K := K) rfl (pv 6)) (pg_tup rfl (pgs_cons (pg_name (i := 7) sc_are_datas.nd rfl (Or.inl rfl) (by first | exact .inl rfl | exact .inr rfl)) (pgs_cons (pg_name (i := 4) sc_are_datas.nd rfl (Or.inl rfl) (by first | exact .inl rfl | exact .inr rfl)) pgs_nil))) pts_nil (fun _ _ => rfl) ok_nil)) (fun _ _ _ _ _ => (pv 7)))
        (pss_cons (ps_setLcN (i := 8) (own := [("_", 4), ("rows", 6), ("row", 1), ("field", 9)]) (c := ⟨_, _, _, _, (gTup K 2 (gCons (gName 4) (gCons (gName 6) gNil))), tYes, [4, 6, 1, 9]⟩) (cs := [⟨_, _, _, _, (gTup K 2 (gCons (gName 4) (gCons (gName 1) gNil))), tYes, [4, 1, 9]⟩, ⟨_, _, _, _, (gName 9), tYes, [9]⟩]) rfl sc_are_datas.nd rfl rfl (sw_true rfl rfl rfl (by decide +kernel)) (pi_tup (pv 0)) (blkOk_by (N := sl_are_datas) (sc := defScope s_are_datas) (by decide +kernel)) rfl (by simp [NestVs, topVs]) (fun _ _ _ _ _ => (pg_tup rfl (pgs_cons (pg_name (i := 4) sc_are_datas.nd rfl (Or.inl rfl) (by first | exact .inl rfl | exact .inr rfl)) (pgs_cons (pg_name (i := 6) sc_are_datas.nd rfl (Or.inl rfl) (by first | exact .inl rfl | exact .inr rfl)) pgs_nil)))) (fun _ _ _ _ _ => pts_nil) (fun _ _ _ _ _ => (ok_cons (pi_tupK (K := K) rfl (pv 6)) (pg_tup rfl (pgs_cons (pg_name (i := 4) sc_are_datas.nd rfl (Or.inl rfl) (by first | exact .inl rfl | exact .inr rfl)) (pgs_cons (pg_name (i := 1) sc_are_datas.nd rfl (Or.inl rfl) (by first | exact .inl rfl | exact .inr rfl)) pgs_nil))) pts_nil (fun _ _ => rfl) (ok_cons (pi_tupK (K := K) rfl (pv 1)) (pg_name (i := 9) sc_are_datas.nd rfl (Or.inl rfl)) pts_nil (fun _ _ => rfl) ok_nil))) (fun _ _ _ _ _ => (pv 9)))
        (pss_one (ps_ret (pe_and (pe_callOk C_are_unlike hr (by omega) (by rfl) (pa_cons (pv 2) pa_nil)) (pe_and (pe_callOk C_are_unlike hr (by omega) (by rfl) (pa_cons (pv 5) pa_nil)) (pe_one (pe_callB (cr_all rfl) (by rfl) T.all_ (by decide +kernel) (pa_cons (pe_lc (own := [("field", 9)]) (g := gName 9) (tt := tYes) rfl sc_are_datas.nd (pi_list (pv 8)) (blkOk_by (N := sl_are_datas) (sc := defScope s_are_datas) (by decide +kernel)) (fun _ _ _ _ _ => pg_name (i := 9) sc_are_datas.nd rfl (Or.inl rfl)) (fun _ _ _ _ _ => pts_nil) (fun _ _ _ _ _ => (pe_cmpR (in_seqK (K := K) rfl) (pv 9) (pv 2) (by rfl)))) pa_nil))))))))))), ?_⟩
    refine ⟨_, rfl, N, v, d, 1, 6, rfl, hd, ?_⟩
    cases hrb : isRowD d 1 6 with
    | false =>
      refine ⟨_, rfl, iteT (iteT ?_)⟩
      unfold datasOk at k
      rw [hrb] at k
      exact k H (Same.refl H)
    | true =>
      refine ⟨_, rfl, iteF ?_⟩
      obtain ⟨ns, rfl, h1, h6⟩ := row_tup hrb
      obtain ⟨t2, us, rfl, hT2, hA⟩ := hd.tupInv
      have hlu := hA.length
      have fns := hf.inner
      refine ⟨_, rfl, t2, rfl, ⟨_, hT2⟩, fun L hL => ?_⟩
      refine lc_tup (K := K) (xs := us) (fun i H' => H' L = some (.lst (((ns.take i).map dataOk).map V.bl)) ∧ Same H H') ⟨upd_same, same_new hL⟩ (fun i H' _ p => sqT_same p.2 hT2) ?_ ?_
      · rintro i u H2 hu ⟨e2, s2⟩
        obtain ⟨dx, hdx, hxd⟩ := hA.get hu
        have hi : i < us.length := (List.getElem?_eq_some_iff.mp hu).1
        refine ⟨rfl, ?_⟩
        simp only [tYes, if_true]
        refine ⟨_, rfl, N, u, dx, n, m, rfl, hxd.same s2, fns.mem (List.mem_of_getElem? hdx), hn, fun H3 s3 => ⟨_, s3 _ _ e2, ?_, ?_, Same.mut (s2.trans s3) hL⟩⟩
        · rw [List.length_map, List.length_map, List.length_take]
          exact lt_line (by omega)
        · rw [upd_same, List.take_add_one, hdx, List.map_append, List.map_append]
          rfl
      · rintro H2 ⟨e2, s2⟩
        rw [List.take_of_length_le (by omega)] at e2
        refine ⟨L, ns.map dataOk, rfl, SqL.of e2, ?_⟩
        rw [all_id]
        cases hal : ns.all dataOk with
        | false =>
          refine ⟨_, rfl, iteT ?_⟩
          unfold datasOk at k
          rw [hrb, show (itD (.tuple ns)).all dataOk = false from hal] at k
          exact k H2 s2
        | true =>
          refine ⟨_, rfl, iteF ?_⟩
          obtain ⟨ps, rfl, hps⟩ := datas_of hal
          rw [datas_eq, hrb, hal, Bool.true_and, Bool.true_and] at k
          rw [List.length_map] at h6 hlu
          have hp6 : ps.length ≤ 6 := by omega
          have hmk := mks_len hps
          have hfl := flds_len hps
          -- the data kinds' names
          refine ⟨_, rfl, t2, rfl, ⟨_, sqT_same s2 hT2⟩, fun L2 hL2 => ?_⟩
          refine lc_tup (K := K) (xs := us) (fun i H' => H' L2 = some (.lst (((ps.take i).map (·.1)).map V.str)) ∧ Same H2 H') ⟨upd_same, same_new hL2⟩ (fun i H' _ p => sqT_same (s2.trans p.2) hT2) ?_ ?_
          · rintro i u H3 hu ⟨e3, s3⟩
            obtain ⟨dx, hdx, hxd⟩ := hA.get hu
            obtain ⟨p, hp, rfl⟩ := map_get hdx
            have hi : i < us.length := (List.getElem?_eq_some_iff.mp hu).1
            obtain ⟨t, tm, ums, rfl, hT, _, _⟩ := hxd.dt
            refine ⟨t, _, rfl, sqT_same (s2.trans s3) hT, rfl, _, _, rfl, _, _, rfl, rfl, rfl, ?_⟩
            simp only [tYes, if_true]
            refine ⟨_, rfl, _, e3, ?_, ?_, Same.mut s3 hL2⟩
            · rw [List.length_map, List.length_map, List.length_take]
              exact lt_line (by omega)
            · rw [upd_same, List.take_add_one, hp, List.map_append, List.map_append]
              rfl
          rintro H3 ⟨e3, s3⟩
          rw [List.take_of_length_le (by omega)] at e3
          have s03 := s2.trans s3
          -- the makers' names
          refine ⟨_, rfl, t2, rfl, ⟨_, sqT_same s03 hT2⟩, fun L3 hL3 => ?_⟩
          refine over_tup (K := K) (xs := us) (fun i H' => H' L3 = some (.lst (((mksOf (ps.take i)).map (·.1)).map V.str)) ∧ Same H3 H') ⟨upd_same, same_new hL3⟩ (fun i H' _ p => sqT_same (s03.trans p.2) hT2) ?_ ?_
          · rintro i u H4 hu ⟨e4, s4⟩
            obtain ⟨dx, hdx, hxd⟩ := hA.get hu
            obtain ⟨p, hp, rfl⟩ := map_get hdx
            have hi : i < us.length := (List.getElem?_eq_some_iff.mp hu).1
            obtain ⟨t, tm, ums, rfl, hT, hTm, hAm⟩ := hxd.dt
            have hlm := hAm.length
            rw [List.length_map] at hlm
            have hm6 := (hps p (List.mem_of_getElem? hp)).len
            have hpre : (mksOf (ps.take i)).length ≤ 36 := Nat.le_trans (mks_len fun q hq => hps q (List.mem_of_mem_take hq)) (by rw [List.length_take]; omega)
            refine ⟨t, _, rfl, sqT_same (s03.trans s4) hT, rfl, _, _, rfl, _, _, rfl, rfl, rfl, ?_⟩
            simp only [tYes, if_true]
            refine ⟨_, rfl, tm, rfl, ⟨_, sqT_same (s03.trans s4) hTm⟩, ?_⟩
            refine over_tup (K := K) (xs := ums) (fun j H' => H' L3 = some (.lst (((mksOf (ps.take i) ++ p.2.take j).map (·.1)).map V.str)) ∧ Same H3 H') ⟨by rw [List.take_zero, List.append_nil]; exact e4, s4⟩ (fun j H' _ q => sqT_same (s03.trans q.2) hTm) ?_ ?_
            · rintro j um H5 hum ⟨e5, s5⟩
              obtain ⟨dm, hdm, hmd⟩ := hAm.get hum
              obtain ⟨m', hm', rfl⟩ := map_get hdm
              obtain ⟨tk, tf, rfl, hTk, _⟩ := hmd.mk
              refine ⟨tk, _, rfl, sqT_same (s03.trans s5) hTk, rfl, _, _, rfl, _, _, rfl, rfl, rfl, ?_⟩
              simp only [tYes, if_true]
              refine ⟨_, rfl, _, e5, ?_, ?_, Same.mut s5 hL3⟩
              · rw [List.length_map, List.length_map, List.length_append, List.length_take]
                exact lt_line (by omega)
              · rw [upd_same, List.take_add_one, hm', List.map_append, List.map_append, List.map_append, List.map_append]
                simp
            · rintro H5 ⟨e5, s5⟩
              rw [List.take_of_length_le (l := p.2) (by omega)] at e5
              exact ⟨by rw [mks_take hp]; exact e5, s5⟩
          rintro H4 ⟨e4, s4⟩
          rw [List.take_of_length_le (by omega)] at e4
          have s04 := s03.trans s4
          have e34 := s4 _ _ e3
          -- the fields
          refine ⟨_, rfl, t2, rfl, ⟨_, sqT_same s04 hT2⟩, fun L4 hL4 => ?_⟩
          refine over_tup (K := K) (xs := us) (fun i H' => H' L4 = some (.lst ((fldsOf (ps.take i)).map V.str)) ∧ Same H4 H') ⟨upd_same, same_new hL4⟩ (fun i H' _ p => sqT_same (s04.trans p.2) hT2) ?_ ?_
          · rintro i u H5 hu ⟨e5, s5⟩
            obtain ⟨dx, hdx, hxd⟩ := hA.get hu
            obtain ⟨p, hp, rfl⟩ := map_get hdx
            have hi : i < us.length := (List.getElem?_eq_some_iff.mp hu).1
            obtain ⟨t, tm, ums, rfl, hT, hTm, hAm⟩ := hxd.dt
            have hlm := hAm.length
            rw [List.length_map] at hlm
            have hpo := hps p (List.mem_of_getElem? hp)
            have hm6 := hpo.len
            have hpre : (fldsOf (ps.take i)).length ≤ 144 := Nat.le_trans (flds_len fun q hq => hps q (List.mem_of_mem_take hq)) (by rw [List.length_take]; omega)
            refine ⟨t, _, rfl, sqT_same (s04.trans s5) hT, rfl, _, _, rfl, _, _, rfl, rfl, rfl, ?_⟩
            simp only [tYes, if_true]
            refine ⟨_, rfl, tm, rfl, ⟨_, sqT_same (s04.trans s5) hTm⟩, ?_⟩
            refine over_tup (K := K) (xs := ums) (fun j H' => H' L4 = some (.lst ((fldsOf (ps.take i) ++ (p.2.take j).flatMap (·.2)).map V.str)) ∧ Same H4 H') ⟨by rw [List.take_zero, List.flatMap_nil, List.append_nil]; exact e5, s5⟩ (fun j H' _ q => sqT_same (s04.trans q.2) hTm) ?_ ?_
            · rintro j um H6 hum ⟨e6, s6⟩
              obtain ⟨dm, hdm, hmd⟩ := hAm.get hum
              obtain ⟨m', hm', rfl⟩ := map_get hdm
              obtain ⟨tk, tf, rfl, hTk, hTf⟩ := hmd.mk
              have hf4 := (hpo.all m' (List.mem_of_getElem? hm')).len
              have hpr2 : ((p.2.take j).flatMap (·.2)).length ≤ 24 := Nat.le_trans (flat_len (k := 4) fun q hq => (hpo.all q (List.mem_of_mem_take hq)).len) (by rw [List.length_take]; omega)
              refine ⟨tk, _, rfl, sqT_same (s04.trans s6) hTk, rfl, _, _, rfl, _, _, rfl, rfl, rfl, ?_⟩
              simp only [tYes, if_true]
              refine ⟨_, rfl, tf, rfl, ⟨_, sqT_same (s04.trans s6) hTf⟩, ?_⟩
              refine over_tup (K := K) (xs := m'.2.map V.str) (fun o H' => H' L4 = some (.lst ((fldsOf (ps.take i) ++ ((p.2.take j).flatMap (·.2) ++ m'.2.take o)).map V.str)) ∧ Same H4 H') ⟨by rw [List.take_zero, List.append_nil]; exact e6, s6⟩ (fun o H' _ q => sqT_same (s04.trans q.2) hTf) ?_ ?_
              · rintro o uf H7 huf ⟨e7, s7⟩
                obtain ⟨fx, hfx, rfl⟩ := map_get huf
                refine ⟨rfl, ?_⟩
                simp only [tYes, if_true]
                refine ⟨_, rfl, _, e7, ?_, ?_, Same.mut s7 hL4⟩
                · rw [List.length_map, List.length_append, List.length_append, List.length_take]
                  exact lt_line (by omega)
                · rw [upd_same, List.take_add_one, hfx, ← List.append_assoc, ← List.append_assoc, ← List.append_assoc, List.map_append (l₂ := (some fx).toList)]
                  rfl
              · rintro H7 ⟨e7, s7⟩
                rw [List.length_map, List.take_of_length_le (Nat.le_refl _)] at e7
                exact ⟨by rw [flat_take hm']; exact e7, s7⟩
            · rintro H6 ⟨e6, s6⟩
              rw [List.take_of_length_le (l := p.2) (by omega)] at e6
              exact ⟨by rw [flds_take hp]; exact e6, s6⟩
          rintro H5 ⟨e5, s5⟩
          rw [List.take_of_length_le (by omega)] at e5
          have s05 := s04.trans s5
          -- the answer
          refine ⟨_, rfl, L2, _, rfl, .inr (SqL.of (s5 _ _ e34)), by rw [List.length_map]; omega, ?_⟩
          cases hu1 : unlikeN (ps.map (·.1)) with
          | false =>
            refine ⟨_, rfl, iteF ?_⟩
            rw [hu1] at k
            exact k H5 s05
          | true =>
            refine ⟨_, rfl, iteT ?_⟩
            rw [hu1, Bool.true_and] at k
            refine ⟨_, rfl, L3, _, rfl, .inr (SqL.of (s5 _ _ e4)), by rw [List.length_map]; omega, ?_⟩
            cases hu2 : unlikeN ((mksOf ps).map (·.1)) with
            | false =>
              refine ⟨_, rfl, iteF ?_⟩
              rw [hu2] at k
              exact k H5 s05
            | true =>
              refine ⟨_, rfl, iteT ?_⟩
              rw [hu2, Bool.true_and] at k
              refine ⟨_, rfl, L4, rfl, ⟨_, SqL.of e5⟩, fun L5 hL5 => ?_⟩
              refine lc_list (K := K) (xs := (fldsOf ps).map V.str) (fun i H' => H' L5 = some (.lst ((((fldsOf ps).take i).map fun f => decide (f ∈ ps.map (·.1))).map V.bl)) ∧ Same H5 H') ⟨upd_same, same_new hL5⟩ (fun i H' _ p => SqL.of (p.2 _ _ e5)) ?_ ?_
              · rintro i u H6 hu ⟨e6, s6⟩
                obtain ⟨fx, hfx, rfl⟩ := map_get hu
                have hi : i < (fldsOf ps).length := (List.getElem?_eq_some_iff.mp hfx).1
                refine ⟨rfl, ?_⟩
                simp only [tYes, if_true]
                refine ⟨_, rfl, _, rfl, L2, _, rfl, .inl (SqL.of (s6 _ _ (s5 _ _ e34))), rfl, flat_strs _, ?_⟩
                refine ⟨_, e6, ?_, ?_, Same.mut s6 hL5⟩
                · rw [List.length_map, List.length_map, List.length_take]
                  exact lt_line (by omega)
                · rw [upd_same, List.take_add_one, hfx, List.map_append, List.map_append, in_strs]
                  rfl
              · rintro H6 ⟨e6, s6⟩
                rw [List.length_map, List.take_of_length_le (Nat.le_refl _)] at e6
                refine ⟨L5, _, rfl, SqL.of e6, ?_⟩
                rw [List.all_map]
                exact k H6 (s05.trans s6)
end

section
variable {P : Program} {w : World} {K : PySem.W.Frag} {mg : Str → Option Value} {base : Heap}
theorem prog_no {d : PyData} (h : isRowD d 2 2 = false) : progOk d = false := by
  unfold progOk
  split
  · simp [isRowD] at h
  · rfl
theorem ok_program (D : DefAt K mg "is_program" s_is_program ["thing"]) (T : Bl mg) (C_is_row : CallOk P w K mg base 1 "is_row" ["thing", "least", "most"] (spIsRow K)) (C_are_datas : CallOk P w K mg base 4 "are_datas" ["thing"] (spOf K datasOk))
    (C_are_defs : CallOk P w K mg base 13 "are_defs" ["thing"] (spOf K defsOk)) : CallOk P w K mg base 14 "is_program" ["thing"] (spOf K progOk) := by
  refine D.ok sc_is_program (fun vs H Q E h => ?_) (fun f cdv A outer s H vs Q E hr h => ?_)
  · obtain ⟨N, v, d, n, m, rfl, _⟩ := h
    rfl
  · obtain ⟨N, v, d, n, m, rfl, hd, hf, hn, k⟩ := h
    refine ⟨_, (pss_one (ps_ret (pe_and (pe_callOk C_is_row hr (by omega) (by rfl) (pa_cons (pv 0) (pa_cons pe_int (pa_cons pe_int pa_nil)))) (pe_and (pe_callOk C_are_datas hr (by omega) (by rfl) (pa_cons (pe_ix ix_tup (pv 0) pe_int (fun _ _ => rfl)) pa_nil)) (pe_one (pe_callOk C_are_defs hr (by omega) (by rfl) (pa_cons (pe_ix ix_tup (pv 0) pe_int (fun _ _ => rfl)) pa_nil))))))), ?_⟩
    refine ⟨_, rfl, N, v, d, 2, 2, rfl, hd, ?_⟩
    cases hrow : isRowD d 2 2 with
    | false =>
      refine ⟨_, rfl, iteF ?_⟩
      rw [prog_no hrow] at k
      exact k H (Same.refl H)
    | true =>
      refine ⟨_, rfl, iteT ?_⟩
      obtain ⟨a, b, rfl⟩ := row2 hrow
      obtain ⟨t, x, y, rfl, hT, ha, hb⟩ := hd.tup2
      obtain ⟨fa, fb⟩ := fit2 hf
      have k : ∀ H', Same H H' → Q (.bl (datasOk a && defsOk b)) H' := k
      refine ⟨_, rfl, t, _, 0, _, rfl, rfl, hT, rfl, N, x, a, n, m, rfl, ha, fa, hn, fun H1 s1 => ?_⟩
      cases hda : datasOk a with
      | false =>
        refine ⟨_, rfl, iteF ?_⟩
        rw [hda] at k
        exact k H1 s1
      | true =>
        refine ⟨_, rfl, iteT ?_⟩
        rw [hda, Bool.true_and] at k
        exact ⟨_, rfl, t, _, 1, _, rfl, rfl, sqT_same s1 hT, rfl, N, y, b, n, m, rfl, hb.same s1, fb, hn, fun H2 s2 => k H2 (s1.trans s2)⟩
end

section
variable {P : Program} {w : World} {K : PySem.W.Frag} {mg : Str → Option Value} {base : Heap} {C : Addr}
theorem ok_reader_init {f : Addr} {fd : FuncData} (F : Fun K "__init__" "Reader.__init__" s_Reader_init f fd) (R : RdC K C) : FnOk P w K mg base CX0 1 f fd ["self", "text"] (spReaderInit C) := by
  refine F.ok sc_Reader_init (fun vs H Q E h => ?_) (fun cdv A outer s H vs Q E hr h => ?_)
  · obtain ⟨p, dx, x, rfl, _⟩ := h
    rfl
  · obtain ⟨p, dx, x, rfl, hp, k⟩ := h
    refine ⟨_, (pss_cons (ps_fld (pv 0) (pv 1) rfl)
        (pss_one (ps_fld (pv 0) pe_int rfl))), ?_⟩
    refine ⟨_, rfl, _, rfl, p, C, dx, [], rfl, hp, R.cl, R.nT, (by show 0 < 1000; decide), ?_⟩
    refine ⟨_, rfl, p, C, dx, _, rfl, upd_same, R.cl, R.nA, (by show 1 < 1000; decide), ?_⟩
    refine k _ ⟨dx, Eq.trans upd_same (congrArg (fun q => some (HO.ins C dx q)) ?_)⟩ ?_
    · show putF "at" (.int 0) [("text", .str x)] = rdF x 0
      rw [putF, if_neg (by decide +kernel)]
      rfl
    · exact fun b o e hb => by
        rw [upd_ne hb, upd_ne hb]
        exact e
theorem ok_peek (D : MethAt K C "peek" "Reader.peek" s_Reader_peek ["self"]) (R : RdC K C) (T : Bl mg) (G_BLANKS : GV mg "BLANKS" (.str blanks)) : MethOk P w K mg base 1 C "peek" ["self"] (spPeek C) := by
  refine D.ok sc_Reader_peek (fun vs H Q E h => ?_) (fun f cdv A outer s H vs Q E hr h => ?_)
  · obtain ⟨r, x, n, rfl, _⟩ := h
    rfl
  · obtain ⟨r, x, n, rfl, hR, hn, hx, k⟩ := h
    refine ⟨_, (pss_cons (ps_while PassesOwn.never (PW.pt (pw_and (pt_cmpR op_lt (pe_fld (pv 0) rfl) (pe_callB call_len (by rfl) T.len_ (by decide +kernel) (pa_cons (pe_fld (pv 0) rfl) pa_nil)) (nomark _)) (pw_and1 (pt_cmpR op_in_sign (pe_ix ix_str (pe_fld (pv 0) rfl) (pe_fld (pv 0) rfl) (fun _ _ => rfl)) (pe_gv G_BLANKS rfl) (by rfl))))) (pss_one (ps_fldaug (pv 0) pe_int in_add)))
        (pss_one (ps_ret (pe_slice sl_str (pe_fld (pv 0) rfl) (po_some (pe_fld (pv 0) rfl)) (po_some (pe_op opAdd (pe_fld (pv 0) rfl) pe_int)))))), ?_⟩
    refine ⟨fun q σ H' => ∃ m, q = x.length - m ∧ σ = [some (.ref r)] ∧ RdAt C H' r x m ∧ Kp r H H' ∧ m ≤ x.length ∧ skipN x.cps.toList m = skipN x.cps.toList n, ⟨_, n, rfl, rfl, hR, Kp.refl, hn, rfl⟩, ?_⟩
    rintro q σ H1 ⟨m, rfl, rfl, ⟨dx, h1⟩, k1, hm, hsk⟩
    have hlen : x.cps.toList.length = x.length := rfl
    -- the place is found: the slice
    have done : skipN x.cps.toList m = m → tRet (tSl rSlS (tFld K (tVar 0) "text") (tPart (tFld K (tVar 0) "at")) (tPart (tOp (rAddAny K) (tFld K (tVar 0) "at") (tC (.int 1))))) { nx := fun x H' => Q .non H', rt := Q } [some (.ref r)] H1 := by
      intro e
      rw [← hsk, e] at k
      refine ⟨_, rfl, r, C, dx, _, _, rfl, h1, R.cl, R.nT, rd_text x m, ?_⟩
      refine ⟨_, rfl, r, C, dx, _, _, rfl, h1, R.cl, R.nA, rd_at x m, _, rfl, _, rfl, r, C, dx, _, _, rfl, h1, R.cl, R.nA, rd_at x m, .inl ⟨_, _, rfl, rfl, _, rfl, x, rfl, le_line (by omega), ?_⟩⟩
      exact k _ ⟨dx, h1⟩ k1
    refine ⟨_, rfl, r, C, dx, _, _, rfl, h1, R.cl, R.nA, rd_at x m, _, rfl, r, C, dx, _, _, rfl, h1, R.cl, R.nT, rd_text x m, _, _, rfl, ⟨le_line (by omega), rfl⟩, _, _, rfl, rfl, _, rfl, ?_⟩
    by_cases c1 : m < x.length
    · refine iteTx (decide_eq_true (by omega)) ?_
      obtain ⟨c, hc⟩ : ∃ c, x.cps.toList[m]? = some c := ⟨_, List.getElem?_eq_getElem (by omega)⟩
      refine ⟨_, rfl, r, C, dx, _, _, rfl, h1, R.cl, R.nT, rd_text x m, _, rfl, r, C, dx, _, _, rfl, h1, R.cl, R.nA, rd_at x m, x, (m : Int), c, rfl, rfl, le_line (by omega), at_natI hc, c, blanks, rfl, rfl, _, rfl, ?_⟩
      by_cases c2 : c ∈ blanks.cps.toList
      · refine iteTx (decide_eq_true c2) ?_
        refine ⟨_, fun _ _ h => h, ?_⟩
        refine ⟨_, rfl, r, C, dx, _, _, rfl, h1, R.cl, R.nA, rd_at x m, _, _, rfl, rfl, dx, _, h1, (by show 2 < 1000; decide), ?_⟩
        refine ⟨_, by omega, m + 1, rfl, rfl, ⟨dx, ?_⟩, k1.put, by omega, (skip_step hc (decide_eq_true c2)).trans hsk⟩
        rw [upd_same]
        exact congrArg (fun q => some (HO.ins C dx q)) (rd_put x m (m + 1))
      · refine iteFx (decide_eq_false c2) ?_
        exact done (skip_stop hc (decide_eq_false c2))
    · refine iteFx (decide_eq_false (by omega)) ?_
      exact done (skip_end (by omega))
end

section
variable {P : Program} {w : World} {K : PySem.W.Frag} {mg : Str → Option Value} {base : Heap} {C : Addr}
theorem ok_take (D : MethAt K C "take" "Reader.take" s_Reader_take ["self", "signs"]) (R : RdC K C) (T : Bl mg) (M_Reader_peek : MethOk P w K mg base 1 C "peek" ["self"] (spPeek C)) : MethOk P w K mg base 2 C "take" ["self", "signs"] (spTake C) := by
  refine D.ok sc_Reader_take (fun vs H Q E h => ?_) (fun f cdv A outer s H vs Q E hr h => ?_)
  · obtain ⟨r, x, z, n, c, rfl, _⟩ := h
    rfl
  · obtain ⟨r, x, z, n, c, rfl, ⟨dx, h0⟩, hn, hx, hc, hz, k⟩ := h
    refine ⟨_, (pss_cons (ps_set (i := 2) sc_Reader_take.nd rfl (Or.inl rfl) (pe_methOk0 M_Reader_peek R.cl hr (by omega) (pv 0)))
        (pss_cons (ps_if (PW.pt (pw_or (pt_cmpR op_eq (pv 2) pe_str (nomark _)) (pw_or1 (pt_cmpR op_notIn_sign (pv 2) (pv 1) (by rfl))))) (pss_one ps_never) pss_nil)
        (pss_cons (ps_fldaug (pv 0) pe_int in_add)
        (pss_one (ps_ret (pv 2)))))), ?_⟩
    refine ⟨_, rfl, r, dx, _, rfl, h0, rd_no (by decide +kernel) (by decide +kernel) x n, r, x, n, rfl, ⟨dx, h0⟩, hn, hx, fun H1 ⟨d1, h1⟩ k1 => ?_⟩
    rw [cut_sign hc]
    refine ⟨_, rfl, rfl, _, rfl, iteFx (sign_ne_empty c) ?_⟩
    refine ⟨_, rfl, _, rfl, c, z, rfl, rfl, _, rfl, iteFx (by rw [decide_eq_true hz]; rfl) ?_⟩
    refine ⟨_, rfl, r, C, d1, _, _, rfl, h1, R.cl, R.nA, rd_at x _, _, _, rfl, rfl, d1, _, h1, (by show 2 < 1000; decide), ?_⟩
    refine ⟨_, rfl, k _ ⟨d1, ?_⟩ k1.put⟩
    rw [upd_same]
    exact congrArg (fun q => some (HO.ins C d1 q)) (rd_put x _ (_ + 1))
theorem ok_take_name (D : MethAt K C "take_name" "Reader.take_name" s_Reader_take_name ["self"]) (R : RdC K C) (T : Bl mg) (G_LETTERS : GV mg "LETTERS" (.str abc)) (G_MOST_LETTERS : GV mg "MOST_LETTERS" (.int 8)) (M_Reader_peek : MethOk P w K mg base 1 C "peek" ["self"] (spPeek C)) :
    MethOk P w K mg base 2 C "take_name" ["self"] (spTakeName C) := by
  refine D.ok sc_Reader_take_name (fun vs H Q E h => ?_) (fun f cdv A outer s H vs Q E hr h => ?_)
  · obtain ⟨r, x, n, rfl, _⟩ := h
    rfl
  · obtain ⟨r, x, n, rfl, ⟨dx, h0⟩, hn, hx, hw1, hw8, k⟩ := h
    refine ⟨_, (pss_cons (ps_expr (pe_methOk0 M_Reader_peek R.cl hr (by omega) (pv 0)))
        (pss_cons (ps_set (i := 1) sc_Reader_take_name.nd rfl (Or.inl rfl) (pe_fld (pv 0) rfl))
        (pss_cons (ps_while PassesOwn.never (PW.pt (pw_and (pt_cmpR op_lt (pe_fld (pv 0) rfl) (pe_callB call_len (by rfl) T.len_ (by decide +kernel) (pa_cons (pe_fld (pv 0) rfl) pa_nil)) (nomark _)) (pw_and1 (pt_cmpR op_in_sign (pe_ix ix_str (pe_fld (pv 0) rfl) (pe_fld (pv 0) rfl) (fun _ _ => rfl)) (pe_gv G_LETTERS rfl) (by rfl))))) (pss_cons (ps_if (pt_cmpR op_eq (pe_op op_sub (pe_fld (pv 0) rfl) (pv 1)) (pe_gv G_MOST_LETTERS rfl) (nomark _)) (pss_one ps_never) pss_nil)
        (pss_one (ps_fldaug (pv 0) pe_int in_add))))
        (pss_cons (ps_if (pt_cmpR op_eq (pe_fld (pv 0) rfl) (pv 1) (nomark _)) (pss_one ps_never) pss_nil)
        (pss_one (ps_ret (pe_slice sl_str (pe_fld (pv 0) rfl) (po_some (pv 1)) (po_some (pe_fld (pv 0) rfl))))))))), ?_⟩
    refine ⟨_, rfl, r, dx, _, rfl, h0, rd_no (by decide +kernel) (by decide +kernel) x n, r, x, n, rfl, ⟨dx, h0⟩, hn, hx, fun H1 ⟨d1, h1⟩ k1 => ?_⟩
    have hm : skipN x.cps.toList n ≤ x.length := skip_le hn
    generalize skipN x.cps.toList n = m at hw1 hw8 k h1 hm ⊢
    have hl : m + (nameN x.cps.toList m).length ≤ x.length := name_len hm
    refine ⟨_, rfl, r, C, d1, _, _, rfl, h1, R.cl, R.nA, rd_at x _, ?_⟩
    refine ⟨fun q σ H' => ∃ j, q = x.length - j ∧ σ = [some (.ref r), some (.int m)] ∧ RdAt C H' r x (m + j) ∧ Kp r H H' ∧ j ≤ (nameN x.cps.toList m).length, ⟨_, 0, rfl, rfl, ⟨d1, h1⟩, k1, Nat.zero_le _⟩, ?_⟩
    rintro q σ H2 ⟨j, rfl, rfl, ⟨d2, h2⟩, k2, hj⟩
    refine ⟨_, rfl, r, C, d2, _, _, rfl, h2, R.cl, R.nA, rd_at x _, _, rfl, r, C, d2, _, _, rfl, h2, R.cl, R.nT, rd_text x _, _, _, rfl, ⟨le_line (by omega), rfl⟩, _, _, rfl, rfl, _, rfl, ?_⟩
    -- the name's end
    have done : j = (nameN x.cps.toList m).length → tSeq (tIfS (tTest (tOp rEq (tFld K (tVar 0) "at") (tVar 1))) (fun _ _ _ => False) tNext) (tRet (tSl rSlS (tFld K (tVar 0) "text") (tPart (tVar 1)) (tPart (tFld K (tVar 0) "at")))) { nx := fun x H' => Q .non H', rt := Q } [some (.ref r), some (.int m)] H2 := by
      rintro rfl
      refine ⟨_, rfl, r, C, d2, _, _, rfl, h2, R.cl, R.nA, rd_at x _, _, rfl, rfl, _, rfl, iteFx (decide_eq_false (fun e => by injection e with e; omega)) ?_⟩
      refine ⟨_, rfl, r, C, d2, _, _, rfl, h2, R.cl, R.nT, rd_text x _, _, rfl, _, rfl, _, rfl, r, C, d2, _, _, rfl, h2, R.cl, R.nA, rd_at x _, _, rfl, x, rfl, le_line (by omega), ?_⟩
      rw [cut_name hm]
      exact k _ ⟨d2, h2⟩ k2
    by_cases c1 : m + j < x.length
    · refine iteTx (decide_eq_true (by omega)) ?_
      obtain ⟨c, hc⟩ : ∃ c, x.cps.toList[m + j]? = some c := ⟨_, List.getElem?_eq_getElem (by exact c1)⟩
      refine ⟨_, rfl, r, C, d2, _, _, rfl, h2, R.cl, R.nT, rd_text x _, _, rfl, r, C, d2, _, _, rfl, h2, R.cl, R.nA, rd_at x _, x, ((m + j : Nat) : Int), c, rfl, rfl, le_line (by omega), at_natI hc, c, abc, rfl, rfl, _, rfl, ?_⟩
      by_cases c2 : c ∈ abc.cps.toList
      · have hjl := name_step hc (decide_eq_true c2) hj
        refine iteTx (decide_eq_true c2) ?_
        refine ⟨_, fun _ _ h => h, ?_⟩
        refine ⟨_, rfl, r, C, d2, _, _, rfl, h2, R.cl, R.nA, rd_at x _, _, rfl, _, _, rfl, rfl, rfl, _, rfl, iteFx (decide_eq_false (fun e => by injection e with e; omega)) ?_⟩
        refine ⟨_, rfl, r, C, d2, _, _, rfl, h2, R.cl, R.nA, rd_at x _, _, _, rfl, rfl, d2, _, h2, (by show 2 < 1000; decide), ?_⟩
        refine ⟨_, by omega, j + 1, rfl, rfl, ⟨d2, ?_⟩, k2.put, hjl⟩
        rw [upd_same]
        exact congrArg (fun q => some (HO.ins C d2 q)) (rd_put x _ (m + (j + 1)))
      · refine iteFx (decide_eq_false c2) ?_
        refine done ?_
        rcases Nat.lt_or_ge j (nameN x.cps.toList m).length with l | l
        · obtain ⟨c', hc', b⟩ := name_at l
          rw [hc] at hc'
          cases hc'
          exact absurd (of_decide_eq_true b) c2
        · omega
    · refine iteFx (decide_eq_false (by omega)) ?_
      exact done (by omega)
theorem ok_finish (D : MethAt K C "finish" "Reader.finish" s_Reader_finish ["self"]) (R : RdC K C) (T : Bl mg) (M_Reader_peek : MethOk P w K mg base 1 C "peek" ["self"] (spPeek C)) : MethOk P w K mg base 2 C "finish" ["self"] (spFinish C) := by
  refine D.ok sc_Reader_finish (fun vs H Q E h => ?_) (fun f cdv A outer s H vs Q E hr h => ?_)
  · obtain ⟨r, x, n, rfl, _⟩ := h
    rfl
  · obtain ⟨r, x, n, rfl, ⟨dx, h0⟩, hn, hx, hs, k⟩ := h
    refine ⟨_, (pss_one (ps_if (pt_cmpR op_ne (pe_methOk0 M_Reader_peek R.cl hr (by omega) (pv 0)) pe_str (nomark _)) (pss_one ps_never) pss_nil)), ?_⟩
    refine ⟨_, rfl, r, dx, _, rfl, h0, rd_no (by decide +kernel) (by decide +kernel) x n, r, x, n, rfl, ⟨dx, h0⟩, hn, hx, fun H1 h1 k1 => ?_⟩
    rw [hs] at h1 ⊢
    rw [cut_over]
    exact ⟨rfl, _, rfl, iteFx (by decide +kernel) (k H1 h1 k1)⟩
end

section
variable {P : Program} {w : World} {K : PySem.W.Frag} {mg : Str → Option Value} {base : Heap} {C : Addr}
theorem ok_signs (D : DefAt K mg "signs_of_kind" s_signs_of_kind ["reader"]) (R : RdC K C) (T : Bl mg) (G_KIND_SIGNS : GV mg "KIND_SIGNS" (.str ">*")) (M_Reader_peek : MethOk P w K mg base 1 C "peek" ["self"] (spPeek C))
    (M_Reader_take : MethOk P w K mg base 2 C "take" ["self", "signs"] (spTake C)) (M_Reader_take_name : MethOk P w K mg base 2 C "take_name" ["self"] (spTakeName C)) : ∀ j : Nat, CallOk P w K mg base (j + 2) "signs_of_kind" ["reader"] (spSigns K C j)
  | 0 => ((D.none sc_signs_of_kind).mono (by decide)).imp fun vs H Q E h => by
    obtain ⟨r, x, n, d, t, _, _, _, _, _, h0, _⟩ := h
    cases h0
  | j + 1 => by
    have C_signs_of_kind := ok_signs D R T G_KIND_SIGNS M_Reader_peek M_Reader_take M_Reader_take_name j
    refine D.ok sc_signs_of_kind (fun vs H Q E h => ?_) (fun f cdv A outer s H vs Q E hr h => ?_)
    · obtain ⟨r, x, n, d, t, rfl, _⟩ := h
      rfl
    · obtain ⟨r, x, n, d, t, rfl, ⟨dx, h0⟩, hn, hx, hw, hk, k⟩ := h
      refine ⟨_, (pss_cons (ps_if (pt_cmpR op_ne (pe_methOk0 M_Reader_peek R.cl hr (by omega) (pv 0)) pe_str (nomark _)) (pss_one (ps_ret (pe_methOk0 M_Reader_take_name R.cl hr (by omega) (pv 0)))) pss_nil)
        (pss_cons (ps_expr (pe_methOk M_Reader_take R.cl hr (by omega) (pv 0) (pa_cons pe_str pa_nil)))
        (pss_cons (ps_set (i := 1) sc_signs_of_kind.nd rfl (Or.inl rfl) (pe_methOk M_Reader_take R.cl hr (by omega) (pv 0) (pa_cons (pe_gv G_KIND_SIGNS rfl) pa_nil)))
        (pss_cons (ps_set (i := 2) sc_signs_of_kind.nd rfl (Or.inl rfl) (pe_callOk C_signs_of_kind hr (by omega) (by rfl) (pa_cons (pv 0) pa_nil)))
        (pss_cons (ps_set (i := 3) sc_signs_of_kind.nd rfl (Or.inl rfl) (pe_callOk C_signs_of_kind hr (by omega) (by rfl) (pa_cons (pv 0) pa_nil)))
        (pss_cons (ps_expr (pe_methOk M_Reader_take R.cl hr (by omega) (pv 0) (pa_cons pe_str pa_nil)))
        (pss_one (ps_ret (pe_tup (pa_cons (pv 1) (pa_cons (pv 2) (pa_cons (pv 3) pa_nil)))))))))))), ?_⟩
      refine ⟨_, rfl, r, dx, _, rfl, h0, rd_no (by decide +kernel) (by decide +kernel) x n, r, x, n, rfl, ⟨dx, h0⟩, hn, hx, fun H1 ⟨d1, h1⟩ k1 => ?_⟩
      generalize hrest : x.cps.toList.drop n = rest at hw
      cases hw with
      | @name b w t hb hw h1w h8 ht =>
        obtain ⟨c, w', rfl⟩ : ∃ c w', w = c :: w' := by
          cases w with
          | nil => exact absurd h1w (by decide)
          | cons c w' => exact ⟨c, w', rfl⟩
        have hc := hw c (List.mem_cons_self ..)
        obtain ⟨e1, e2, _⟩ := skip_at hrest hb (ltr_bl hc)
        rw [e1, cut_sign e2]
        have hne : decide (V.str ⟨#[c]⟩ = V.str "(") = false := decide_eq_false fun z => by
          injection z with z
          have z2 : c = 40 := by
            have := congrArg (fun q : Str => q.cps[0]?) z
            exact Option.some.inj this
          subst z2
          exact absurd hc (by decide +kernel)
        refine ⟨rfl, _, rfl, ?_⟩
        rw [hne]
        refine iteTx rfl ?_
        have hdrop : x.cps.toList.drop (n + b.length) = (c :: w') ++ t := by
          rw [← List.drop_drop, hrest, List.drop_left']
          rfl
        obtain ⟨e3, e4⟩ := name_is hdrop hw ht
        have hle : n + b.length ≤ x.length := by
          have := (List.getElem?_eq_some_iff.mp e2).1
          exact Nat.le_of_lt this
        have e5 : skipN x.cps.toList (n + b.length) = n + b.length := skip_stop e2 (ltr_bl hc)
        rw [e1] at h1
        refine ⟨_, rfl, r, d1, _, rfl, h1, rd_no (by decide +kernel) (by decide +kernel) x _, r, x, _, rfl, ⟨d1, h1⟩, hle, hx, ?_, ?_, fun H2 h2 k2 => ?_⟩
        · rw [e5, e3]
          exact h1w
        · rw [e5, e3]
          exact h8
        · rw [e5, e3] at h2 ⊢
          exact k _ _ H2 (.str _) h2 (by have := name_len (cs := x.cps.toList) (m := n + b.length) hle; rw [e3] at this; exact this) e4 (k1.trans k2)
      | @row b1 b2 b3 ra rb t s da db g1 g2 g3 hs ha hb =>
        obtain ⟨e1, e2, e3⟩ := skip_at hrest g1 (by decide +kernel)
        rw [e1, cut_sign e2]
        refine ⟨rfl, _, rfl, ?_⟩
        refine iteFx (by decide +kernel) ?_
        rw [e1] at h1
        have l1 : n + b1.length < x.length := (List.getElem?_eq_some_iff.mp e2).1
        have e4 : skipN x.cps.toList (n + b1.length) = n + b1.length := skip_stop e2 (by decide +kernel)
        -- the bracket
        refine ⟨_, rfl, r, d1, _, rfl, h1, rd_no (by decide +kernel) (by decide +kernel) x _, r, x, "(", _, 40, rfl, ⟨d1, h1⟩, by omega, hx, by rw [e4]; exact e2, by decide +kernel, fun H2 ⟨d2, h2⟩ k2 => ?_⟩
        rw [e4] at h2
        -- the sign
        have hsb : bl s = false := by rcases hs with rfl | rfl <;> decide +kernel
        obtain ⟨f1, f2, f3⟩ := skip_at e3 g2 hsb
        have l2 : n + b1.length + 1 + b2.length < x.length := (List.getElem?_eq_some_iff.mp f2).1
        refine ⟨_, rfl, r, d2, _, rfl, h2, rd_no (by decide +kernel) (by decide +kernel) x _, r, x, ">*", _, s, rfl, ⟨d2, h2⟩, by omega, hx, by rw [f1]; exact f2, by rcases hs with rfl | rfl <;> decide +kernel, fun H3 ⟨d3, h3⟩ k3 => ?_⟩
        rw [f1] at h3
        have hk2 : kindW j da = true ∧ kindW j db = true := by
          rw [kind_tup, Bool.and_eq_true, Bool.and_eq_true] at hk
          exact ⟨hk.1.2, hk.2⟩
        -- the two parts
        refine ⟨_, rfl, r, x, _, da, rb, rfl, ⟨d3, h3⟩, by omega, hx, by rw [f3]; exact ha, hk2.1, fun va na H4 dA h4 l4 t4 k4 => ?_⟩
        refine ⟨_, rfl, r, x, na, db, _, rfl, h4, l4, hx, by rw [t4]; exact hb, hk2.2, fun vb nb H5 dB h5 l5 t5 k5 => ?_⟩
        -- the other bracket
        obtain ⟨m1, m2, m3⟩ := skip_at t5 g3 (by decide +kernel)
        have l6 : nb + b3.length < x.length := (List.getElem?_eq_some_iff.mp m2).1
        have dA5 := dA.kp k5 h4.noTup trivial
        obtain ⟨d5, h5'⟩ := h5
        refine ⟨_, rfl, r, d5, _, rfl, h5', rd_no (by decide +kernel) (by decide +kernel) x _, r, x, ")", nb, 41, rfl, ⟨d5, h5'⟩, l5, hx, by rw [m1]; exact m2, by decide +kernel, fun H6 h6 k6 => ?_⟩
        rw [m1] at h6
        have n5 : NoTup H5 r := RdAt.noTup ⟨d5, h5'⟩
        have dA6 := dA5.kp k6 n5 trivial
        have dB6 := dB.kp k6 n5 trivial
        refine ⟨_, rfl, _, rfl, _, rfl, le_line (by show 3 ≤ 16000000; decide), fun q hq => ?_⟩
        refine k _ _ _ (.tup (SqT.of upd_same) (.cons (.str _) (.cons (dA6.same (same_new hq)) (.cons (dB6.same (same_new hq)) .nil)))) (h6.same (same_new hq)) (by omega) m3 ?_
        exact (((((k1.trans k2).trans k3).trans k4).trans k5).trans k6).lay hq
end

section
variable {P : Program} {w : World} {K : PySem.W.Frag} {mg : Str → Option Value} {base : Heap} {C : Addr}
theorem ok_read_name {fN : Addr} {fdN : FuncData} (D : DefF K mg "read_name" s_read_name ["reader"] fN fdN) (R : RdC K C) (M_Reader_take_name : MethOk P w K mg base 2 C "take_name" ["self"] (spNameT C)) : FnOk P w K mg base CX0 3 fN fdN ["reader"] (Rd1 K C RName FAny) := by
  refine D.ok sc_read_name (fun vs H Q E h => ?_) (fun cdv A outer s H vs Q E hr h => ?_)
  · obtain ⟨r, x, n, d, tk, ws, rfl, _⟩ := h
    rfl
  · obtain ⟨r, x, n, d, tk, ws, rfl, ⟨dx, h0⟩, hx, ⟨z, hz, rfl, rfl⟩, _, hA, k⟩ := h
    refine ⟨_, (pss_one (ps_ret (pe_methOk0 M_Reader_take_name R.cl hr (by omega) (pv 0)))), ?_⟩
    exact ⟨_, rfl, r, dx, _, rfl, h0, rd_no (by decide +kernel) (by decide +kernel) x n, r, x, z, n, ws, rfl, ⟨dx, h0⟩, hx, hA, hz, fun n' H' h1 hA1 k1 => k _ n' H' (.str z) h1 hA1 k1⟩
theorem ok_read_until {jH : Nat} {fR : Addr} {Rr : PyData → List (List Nat) → Prop} {c : Nat} (D : DefAt K mg "read_until" s_read_until ["reader", "read", "sign"]) (R : RdC K C) (T : Bl mg) (M_Reader_peek : MethOk P w K mg base 1 C "peek" ["self"] (spPeekT C)) (hj : 1 ≤ jH)
    (F_read : Held P w K mg base jH fR (Rd1 K C Rr FAny)) : CallOk P w K mg base (jH + 1) "read_until" ["reader", "read", "sign"] (spUntil K C fR Rr c) := by
  refine D.ok sc_read_until (fun vs H Q E h => ?_) (fun f cdv A outer s H vs Q E hr h => ?_)
  · obtain ⟨r, x, n, ds, tks, ws, rfl, _⟩ := h
    rfl
  · obtain ⟨r, x, n, ds, tks, ws, rfl, ⟨dx, h0⟩, hx, hR, hl, hA, k⟩ := h
    refine ⟨_, (pss_cons (ps_set (i := 3) sc_read_until.nd rfl (Or.inl rfl) (pe_lst pa_nil))
        (pss_cons (ps_while PassesOwn.never (pt_cmpR op_ne (pe_methOk0 M_Reader_peek R.cl hr (by omega) (pv 0)) (pv 2) (nomark _)) (pss_one (ps_expr (pe_bm PySem.F.plainAttrs_list PySem.F.slot_list_append PySem.F.type_list_append mt_append (pv 3) (pa_cons (pe_callH (k := jH) (i := 1) hr (by omega) rfl (.inl rfl) (pa_cons (pv 0) pa_nil)) pa_nil)))))
        (pss_one (ps_ret (pe_callTy call_tuple_of (by rfl) T.tuple_ (by decide +kernel) (pa_cons (pv 3) pa_nil)))))), ?_⟩
    refine ⟨Nat.zero_le _, fun L hL => ?_⟩
    have nLr : L ≠ r := (ne_of_none h0 hL).symm
    refine ⟨fun m σ H' => ∃ (ds0 ds1 : List PyData) (tks1 : List (List Nat)) (us : List V) (n1 : Nat), ds = ds0 ++ ds1 ∧ m = ds1.length ∧ σ = [some (.ref r), some (.ref fR), some (.str ⟨#[c]⟩), some (.ref L)] ∧ H' L = some (.lst us) ∧ DaAll K All H' us ds0 ∧ RS Rr c ds1 tks1 ∧ RdAt C H' r x n1 ∧ At x n1 (tks1 ++ [c] :: ws) ∧ Kp r H H',
      ⟨_, [], ds, tks, [], n, rfl, rfl, rfl, upd_same, .nil, hR, RdAt.same (same_new hL) ⟨dx, h0⟩, hA, Kp.new hL⟩, ?_⟩
    rintro m σ H1 ⟨ds0, ds1, tks1, us, n1, eds, rfl, rfl, eL, gu, gR, ⟨d1, h1⟩, hA1, k1⟩
    refine ⟨_, rfl, r, d1, _, rfl, h1, rd_no (by decide +kernel) (by decide +kernel) x n1, r, x, n1, _, rfl, ⟨d1, h1⟩, hx, hA1, fun n2 H2 h2 hA2 k2 => ⟨_, rfl, rfl, _, rfl, ?_⟩⟩
    have eL2 : H2 L = some (.lst us) := k2 _ _ eL nLr
    have gu2 := gu.kp k2 (RdAt.noTup ⟨d1, h1⟩) trivial
    have hus := gu.length
    cases gR with
    | nil =>
      refine iteFx (by show (!decide (V.str ⟨#[c]⟩ = V.str ⟨#[c]⟩)) = false; simp) ?_
      refine ⟨_, rfl, L, us, rfl, .inl ⟨SqL.of eL2, fun t ht => ?_⟩⟩
      rw [List.append_nil] at eds
      subst eds
      refine k t us n2 _ (SqT.of upd_same) (gu2.same (same_new ht)) (h2.same (same_new ht)) hA2 ((k1.trans k2).lay ht)
    | @cons d ds1 tk tks1 hd hh hr' =>
      obtain ⟨a, w', tk', rfl, hne⟩ := hh
      refine iteTx (by
        show (!decide (V.str ⟨#[a]⟩ = V.str ⟨#[c]⟩)) = true
        rw [decide_eq_false]
        · rfl
        · intro z
          injection z with z
          exact hne (Option.some.inj (congrArg (fun q : Str => q.cps[0]?) z))) ?_
      refine ⟨_, fun _ _ h => h, ?_⟩
      refine ⟨_, rfl, .inl ⟨rfl, _, SqL.of eL2⟩, fR, _, rfl, F_read, _, rfl, r, x, n2, d, _, _, rfl, h2, hx, hd, trivial, by rw [← List.append_assoc]; exact hA2, fun v n3 H3 dv h3 hA3 k3 => ?_⟩
      have eL3 : H3 L = some (.lst us) := k3 _ _ eL2 nLr
      have hlen : ds0.length + (ds1.length + 1) ≤ 1000 := by
        rw [eds, List.length_append, List.length_cons] at hl
        exact hl
      refine ⟨L, us, v, rfl, rfl, eL3, lt_line (by omega), ?_⟩
      refine ⟨ds1.length, by simp, ds0 ++ [d], ds1, tks1, us ++ [v], n3, by rw [eds, List.append_assoc]; rfl, rfl, rfl, upd_same, acc_da eL3 (gu2.kp k3 h2.noTup trivial) dv, hr', ?_, hA3, ((k1.trans k2).trans k3).mut hL⟩
      obtain ⟨d3, h3⟩ := h3
      exact ⟨d3, by rw [upd_ne nLr.symm]; exact h3⟩
end

section
variable {P : Program} {w : World} {K : PySem.W.Frag} {mg : Str → Option Value} {base : Heap} {C : Addr}
theorem ok_signs_of_terms {jH k : Nat} {fT fS : Addr} {fdS : FuncData} (D : DefF K mg "signs_of_terms" s_signs_of_terms ["reader"] fS fdS) (G_signs_of_term : GV mg "signs_of_term" (.ref fT)) (C_read_until : CallOk P w K mg base (jH + 1) "read_until" ["reader", "read", "sign"] (spUntil K C fT (RTerm k) 41)) :
    FnOk P w K mg base CX0 (jH + 2) fS fdS ["reader"] (Rd1 K C (RTerms k) FEnd) := by
  refine D.ok sc_signs_of_terms (fun vs H Q E h => ?_) (fun cdv A outer s H vs Q E hr h => ?_)
  · obtain ⟨r, x, n, d, tk, ws, rfl, _⟩ := h
    rfl
  · obtain ⟨r, x, n, d, tk, ws, rfl, h0, hx, ⟨ts, tx, m, rfl, hl, hT⟩, ⟨ws', rfl⟩, hA, k⟩ := h
    refine ⟨_, (pss_one (ps_ret (pe_callOk C_read_until hr (by omega) (by rfl) (pa_cons (pv 0) (pa_cons (pe_gv G_signs_of_term rfl) (pa_cons pe_str pa_nil)))))), ?_⟩
    exact ⟨_, rfl, r, x, n, ts, tk, ws', rfl, h0, hx, rs_terms hT, by omega, hA, fun t xs n' H' hq hd h1 hA1 k1 => k _ n' H' (.tup hq hd) h1 hA1 k1⟩
theorem ok_signs_of_case {jH k : Nat} {fN fA : Addr} {fdA : FuncData} (hj : 3 ≤ jH) (D : DefF K mg "signs_of_case" s_signs_of_case ["reader"] fA fdA) (R : RdC K C) (G_read_name : GV mg "read_name" (.ref fN))
    (M_Reader_take : MethOk P w K mg base 2 C "take" ["self", "signs"] (spTakeT C)) (M_Reader_take_name : MethOk P w K mg base 2 C "take_name" ["self"] (spNameT C))
    (C_read_until : CallOk P w K mg base 4 "read_until" ["reader", "read", "sign"] (spUntil K C fN RName 58)) (C_signs_of_term : CallOk P w K mg base jH "signs_of_term" ["reader"] (Rd1 K C (RTerm k) FAny)) :
    FnOk P w K mg base CX0 (jH + 2) fA fdA ["reader"] (Rd1 K C (RCase k) FAny) := by
  refine D.ok sc_signs_of_case (fun vs H Q E h => ?_) (fun cdv A outer s H vs Q E hr h => ?_)
  · obtain ⟨r, x, n, d, tk, ws, rfl, _⟩ := h
    rfl
  · obtain ⟨r, x, n, d, tk, ws, rfl, ⟨dx, h0⟩, hx, ⟨c, xs, u, ux, uk, m, hc, hl, hxs, hT, rfl, rfl⟩, _, hA, k⟩ := h
    simp only [List.cons_append, List.append_assoc] at hA
    refine ⟨_, (pss_cons (ps_expr (pe_methOk M_Reader_take R.cl hr (by omega) (pv 0) (pa_cons pe_str pa_nil)))
        (pss_cons (ps_set (i := 1) sc_signs_of_case.nd rfl (Or.inl rfl) (pe_methOk0 M_Reader_take_name R.cl hr (by omega) (pv 0)))
        (pss_cons (ps_set (i := 2) sc_signs_of_case.nd rfl (Or.inl rfl) (pe_callOk C_read_until hr (by omega) (by rfl) (pa_cons (pv 0) (pa_cons (pe_gv G_read_name rfl) (pa_cons pe_str pa_nil)))))
        (pss_cons (ps_expr (pe_methOk M_Reader_take R.cl hr (by omega) (pv 0) (pa_cons pe_str pa_nil)))
        (pss_cons (ps_set (i := 3) sc_signs_of_case.nd rfl (Or.inl rfl) (pe_callOk C_signs_of_term hr (by omega) (by rfl) (pa_cons (pv 0) pa_nil)))
        (pss_cons (ps_expr (pe_methOk M_Reader_take R.cl hr (by omega) (pv 0) (pa_cons pe_str pa_nil)))
        (pss_one (ps_ret (pe_tup (pa_cons (pv 1) (pa_cons (pv 2) (pa_cons (pv 3) pa_nil)))))))))))), ?_⟩
    refine ⟨_, rfl, r, dx, _, rfl, h0, rd_no (by decide +kernel) (by decide +kernel) x n, r, x, "(", n, 40, _, rfl, ⟨dx, h0⟩, hx, hA, by decide +kernel, fun n1 H1 ⟨d1, h1⟩ hA1 k1 => ?_⟩
    refine ⟨_, rfl, r, d1, _, rfl, h1, rd_no (by decide +kernel) (by decide +kernel) x n1, r, x, c, n1, _, rfl, ⟨d1, h1⟩, hx, hA1, hc, fun n2 H2 h2 hA2 k2 => ?_⟩
    refine ⟨_, rfl, r, x, n2, xs.map strD, xs.map nmL, _, rfl, h2, hx, rs_names s58.1 hxs, by rw [List.length_map]; omega, hA2, fun t vs n3 H3 hq hd ⟨d3, h3⟩ hA3 k3 => ?_⟩
    refine ⟨_, rfl, r, d3, _, rfl, h3, rd_no (by decide +kernel) (by decide +kernel) x n3, r, x, ":", n3, 58, _, rfl, ⟨d3, h3⟩, hx, hA3, by decide +kernel, fun n4 H4 h4 hA4 k4 => ?_⟩
    refine ⟨_, rfl, r, x, n4, u, uk, _, rfl, h4, hx, ⟨_, _, hT⟩, trivial, hA4, fun vu n5 H5 du ⟨d5, h5⟩ hA5 k5 => ?_⟩
    refine ⟨_, rfl, r, d5, _, rfl, h5, rd_no (by decide +kernel) (by decide +kernel) x n5, r, x, ")", n5, 41, ws, rfl, ⟨d5, h5⟩, hx, hA5, by decide +kernel, fun n6 H6 h6 hA6 k6 => ?_⟩
    have nt5 : NoTup H5 r := RdAt.noTup ⟨d5, h5⟩
    have du6 := du.kp k6 nt5 trivial
    have hn : Da K All H3 (.ref t) (.tuple (xs.map strD)) := .tup hq hd
    have hn6 := ((hn.kp k4 (RdAt.noTup ⟨d3, h3⟩) trivial).kp k5 h4.noTup trivial).kp k6 nt5 trivial
    refine ⟨_, rfl, _, rfl, _, rfl, le_line (by show 3 ≤ 16000000; decide), fun q hq' => ?_⟩
    refine k _ n6 _ (.tup (SqT.of upd_same) (.cons (.str c) (.cons (hn6.same (same_new hq')) (.cons (du6.same (same_new hq')) .nil)))) (h6.same (same_new hq')) hA6 ?_
    exact (((((k1.trans k2).trans k3).trans k4).trans k5).trans k6).lay hq'
theorem ok_signs_of_cases {jH k : Nat} {fA fC : Addr} {fdC : FuncData} (D : DefF K mg "signs_of_cases" s_signs_of_cases ["reader"] fC fdC) (G_signs_of_case : GV mg "signs_of_case" (.ref fA))
    (C_signs_of_case : CallOk P w K mg base jH "signs_of_case" ["reader"] (Rd1 K C (RCase k) FAny)) (C_read_until : CallOk P w K mg base (jH + 1) "read_until" ["reader", "read", "sign"] (spUntil K C fA (RCase k) 41)) :
    FnOk P w K mg base CX0 (jH + 2) fC fdC ["reader"] (Rd1 K C (RCases k) FEnd) := by
  refine D.ok sc_signs_of_cases (fun vs H Q E h => ?_) (fun cdv A outer s H vs Q E hr h => ?_)
  · obtain ⟨r, x, n, d, tk, ws, rfl, _⟩ := h
    rfl
  · obtain ⟨r, x, n, d, tk, ws, rfl, h0, hx, ⟨cs, tx, m, rfl, h1, hl, hT⟩, ⟨ws', rfl⟩, hA, k⟩ := h
    refine ⟨_, (pss_cons (ps_set (i := 1) sc_signs_of_cases.nd rfl (Or.inl rfl) (pe_callOk C_signs_of_case hr (by omega) (by rfl) (pa_cons (pv 0) pa_nil)))
        (pss_one (ps_ret (pe_op opAdd (pe_tup (pa_cons (pv 1) pa_nil)) (pe_callOk C_read_until hr (by omega) (by rfl) (pa_cons (pv 0) (pa_cons (pe_gv G_signs_of_case rfl) (pa_cons pe_str pa_nil)))))))), ?_⟩
    have hR := rs_cases hT
    cases hR with
    | nil => exact absurd h1 (by decide)
    | @cons d0 ds tk0 tks hd hh hr' =>
      rw [List.append_assoc] at hA
      refine ⟨_, rfl, r, x, n, d0, tk0, _, rfl, h0, hx, hd, trivial, hA, fun v n1 H1 dv h1' hA1 k1 => ?_⟩
      refine ⟨_, rfl, le_line (by show 1 ≤ 16000000; decide), fun q hq => ?_⟩
      have hl2 : ds.length ≤ 99 := by
        rw [List.length_cons] at hl
        omega
      refine ⟨_, rfl, r, x, n1, ds, tks, ws', rfl, h1'.same (same_new hq), hx, hr', by omega, hA1, fun t xs n2 H2 hT2 hd2 h2 hA2 k2 => ?_⟩
      have nt : NoTup (upd H1 q (.tup [v])) r := (h1'.same (same_new hq)).noTup
      have hq2 : SqT K H2 q [v] := sqT_kp k2 nt (SqT.of upd_same)
      have dv2 := (dv.same (same_new hq)).kp k2 nt trivial
      have hl3 := hd2.length
      refine .inr (.inr (.inl (cat_any hq2 hT2 (le_line (by show 1 + xs.length ≤ 16000000; omega)) fun t3 H3 s3 hT3 => ?_)))
      exact k _ n2 H3 (.tup hT3 (.cons (dv2.same s3) (hd2.same s3))) (h2.same s3) hA2 (((k1.lay hq).trans k2).same s3)
theorem sl_fin {k : Nat} {ds : List PyData} {sx : List Nat} {sk : List (List Nat)} (h : Sl k [] ds sx sk) : ds = [] ∧ sk = [[41]] := by
  cases h
  exact ⟨rfl, rfl⟩
theorem ok_signs_of_term {jH kd : Nat} {fN fK fT fS fC dF dR : Addr} {fdT : FuncData} (hj : 2 ≤ jH) (D : DefF K mg "signs_of_term" s_signs_of_term ["reader"] fT fdT) (R : RdC K C) (T : Bl mg) (M_Reader_peek : MethOk P w K mg base 1 C "peek" ["self"] (spPeekT C))
    (M_Reader_take : MethOk P w K mg base 2 C "take" ["self", "signs"] (spTakeT C)) (M_Reader_take_name : MethOk P w K mg base 2 C "take_name" ["self"] (spNameT C)) (G_TERM_SIGNS : GV mg "TERM_SIGNS" (.str "^!&/#?+-"))
    (G_FORMS : GV mg "FORMS" (.ref dF)) (FT : Forms K w dF) (G_SLOT_READERS : GV mg "SLOT_READERS" (.ref dR)) (RD : Rds K w dR fN fK fT fS fC)
    (hN : Held P w K mg base jH fN (Rd1 K C RName FAny)) (hK : Held P w K mg base jH fK (Rd1 K C RKind FAny)) (hT : Held P w K mg base jH fT (Rd1 K C (RTerm kd) FAny)) (hS : Held P w K mg base jH fS (Rd1 K C (RTerms kd) FEnd)) (hC : Held P w K mg base jH fC (Rd1 K C (RCases kd) FEnd)) :
    FnOk P w K mg base CX0 (jH + 1) fT fdT ["reader"] (Rd1 K C (RTerm (kd + 1)) FAny) := by
  refine D.ok sc_signs_of_term (fun vs H Q E h => ?_) (fun cdv A outer s H vs Q E hr h => ?_)
  · obtain ⟨r, x, n, d, tk, ws, rfl, _⟩ := h
    rfl
  · obtain ⟨r, x, n, d, tk, ws, rfl, ⟨dx, h0⟩, hx, ⟨tx, m, hTT⟩, _, hA, k⟩ := h
    obtain ⟨es, en, D_FORMS⟩ := FT.dict
    obtain ⟨rs, rn, D_R⟩ := RD.dict
    refine ⟨_, (pss_cons (ps_if (pt_cmpR (op_notInT hr.units) (pe_methOk0 M_Reader_peek R.cl hr (by omega) (pv 0)) (pe_tup (pa_cons pe_str (pa_cons pe_str pa_nil))) (by rfl)) (pss_one (ps_ret (pe_methOk0 M_Reader_take_name R.cl hr (by omega) (pv 0)))) pss_nil)
        (pss_cons (ps_if (pt_cmpR op_eq (pe_methOk M_Reader_take R.cl hr (by omega) (pv 0) (pa_cons pe_str pa_nil)) pe_str (nomark _)) (pss_one (ps_ret (pe_tup (pa_cons pe_str (pa_cons (pe_methOk0 M_Reader_take_name R.cl hr (by omega) (pv 0)) pa_nil))))) pss_nil)
        (pss_cons (ps_set (i := 1) sc_signs_of_term.nd rfl (Or.inl rfl) (pe_lst (pa_cons (pe_methOk M_Reader_take R.cl hr (by omega) (pv 0) (pa_cons (pe_gv G_TERM_SIGNS rfl) pa_nil)) pa_nil)))
        (pss_cons (ps_for PassesOwn.never rfl (pi_tup (pe_ix ix_kdict (pe_gv G_FORMS rfl) (pe_ix ix_list (pv 1) pe_int (fun _ _ => rfl)) (fun _ _ => rfl))) (pg_name (i := 2) sc_signs_of_term.nd rfl (Or.inl rfl) (by first | exact .inl rfl | exact .inr rfl)) (pss_cons (ps_set (i := 3) sc_signs_of_term.nd rfl (Or.inl rfl) (pe_ix ix_kdict (pe_gv G_SLOT_READERS rfl) (pv 2) (fun _ _ => rfl)))
        (pss_one (ps_expr (pe_bm PySem.F.plainAttrs_list PySem.F.slot_list_append PySem.F.type_list_append mt_append (pv 1) (pa_cons (pe_callH (k := jH) (i := 3) hr (by omega) rfl (.inl rfl) (pa_cons (pv 0) pa_nil)) pa_nil))))))
        (pss_cons (ps_expr (pe_methOk M_Reader_take R.cl hr (by omega) (pv 0) (pa_cons pe_str pa_nil)))
        (pss_one (ps_ret (pe_callTy call_tuple_of (by rfl) T.tuple_ (by decide +kernel) (pa_cons (pv 1) pa_nil))))))))), ?_⟩
    refine ⟨_, rfl, r, dx, _, rfl, h0, rd_no (by decide +kernel) (by decide +kernel) x n, r, x, n, _, rfl, ⟨dx, h0⟩, hx, hA, fun n1 H1 ⟨d1, h1⟩ hA1 k1 => ?_⟩
    refine ⟨le_line (by show 2 ≤ 16000000; decide), fun q hq => ?_⟩
    have h1' : RdAt C (upd H1 q (.tup [.str "(", .str "@"])) r x n1 := RdAt.same (same_new hq) ⟨d1, h1⟩
    have k1' : Kp r H (upd H1 q (.tup [.str "(", .str "@"])) := k1.lay hq
    refine ⟨All, q, [sg "(", sg "@"], .str _, rfl, SqT.of upd_same, .str _, _, rfl, ?_⟩
    generalize (upd H1 q (.tup [.str "(", .str "@"])) = H1' at h1' k1'
    rcases hTT.parts with ⟨z, hz, rfl, rfl, rfl⟩ | ⟨z, hz, rfl, rfl, rfl⟩ | ⟨s, sl, ds, sx, sk, rfl, hs, hf, hsl, rfl, rfl⟩
    · -- a name
      obtain ⟨a, w', tk', e, ha⟩ := tt_head hTT
      injection e with e1 e2
      have hla : ltr a = true := by
        obtain ⟨_, _, hl⟩ := nm_cases hz
        exact hl a (by rw [e1]; exact List.mem_cons_self ..)
      refine iteTx ?_ ?_
      · rw [e1]
        show (!decide ((⟨#[a]⟩ : Str) ∈ [sg "(", sg "@"])) = true
        rw [decide_eq_false]
        · rfl
        · intro z
          simp only [List.mem_cons, List.not_mem_nil, or_false] at z
          rcases z with z | z
          · have z2 : a = 40 := Option.some.inj (congrArg (fun q : Str => q.cps[0]?) z)
            rw [z2, s40.1] at hla
            cases hla
          · have z2 : a = 64 := Option.some.inj (congrArg (fun q : Str => q.cps[0]?) z)
            rw [z2, s64.1] at hla
            cases hla
      · obtain ⟨d2, h2⟩ := h1'
        exact ⟨_, rfl, r, d2, _, rfl, h2, rd_no (by decide +kernel) (by decide +kernel) x n1, r, x, z, n1, ws, rfl, ⟨d2, h2⟩, hx, hA1, hz, fun n' H' h3 hA3 k3 => k _ n' H' (.str z) h3 hA3 (k1'.trans k3)⟩
    · -- a def
      refine iteFx (by
        show (!decide ((⟨#[64]⟩ : Str) ∈ [sg "(", sg "@"])) = false
        decide +kernel) ?_
      obtain ⟨d2, h2⟩ := h1'
      refine ⟨_, rfl, r, d2, _, rfl, h2, rd_no (by decide +kernel) (by decide +kernel) x n1, r, x, "(@", n1, 64, _, rfl, ⟨d2, h2⟩, hx, hA1, by decide +kernel, fun n2 H2 ⟨d3, h3⟩ hA2 k2 => ?_⟩
      refine ⟨rfl, _, rfl, iteTx (by decide +kernel) ?_⟩
      refine ⟨_, rfl, r, d3, _, rfl, h3, rd_no (by decide +kernel) (by decide +kernel) x n2, r, x, z, n2, ws, rfl, ⟨d3, h3⟩, hx, hA2, hz, fun n3 H3 h4 hA3 k3 => ?_⟩
      refine ⟨le_line (by show 2 ≤ 16000000; decide), fun p hp => ?_⟩
      exact k _ n3 _ (.tup (SqT.of upd_same) (.cons (.str _) (.cons (.str z) .nil))) (h4.same (same_new hp)) hA3 (((k1'.trans k2).trans k3).lay hp)
    · -- in brackets
      refine iteFx (by
        show (!decide ((⟨#[40]⟩ : Str) ∈ [sg "(", sg "@"])) = false
        decide +kernel) ?_
      obtain ⟨d2, h2⟩ := h1'
      refine ⟨_, rfl, r, d2, _, rfl, h2, rd_no (by decide +kernel) (by decide +kernel) x n1, r, x, "(@", n1, 40, _, rfl, ⟨d2, h2⟩, hx, hA1, by decide +kernel, fun n2 H2 ⟨d3, h3⟩ hA2 k2 => ?_⟩
      refine ⟨rfl, _, rfl, iteFx (by decide +kernel) ?_⟩
      refine ⟨_, rfl, r, d3, _, rfl, h3, rd_no (by decide +kernel) (by decide +kernel) x n2, r, x, "^!&/#?+-", n2, s, _, rfl, ⟨d3, h3⟩, hx, hA2, hs, fun n3 H3 h4 hA3 k3 => ?_⟩
      refine ⟨le_line (by show 1 ≤ 16000000; decide), fun L hL => ?_⟩
      obtain ⟨a, hns, hSl⟩ := FT.yes _ sl hf
      have eL : (upd H3 L (.lst [.str ⟨#[s]⟩])) L = some (.lst [V.str ⟨#[s]⟩]) := upd_same
      have h5 : RdAt C (upd H3 L (.lst [.str ⟨#[s]⟩])) r x n3 := h4.same (same_new hL)
      have k5 : Kp r H (upd H3 L (.lst [.str ⟨#[s]⟩])) := ((k1'.trans k2).trans k3).lay hL
      have hL0 : H L = none := by
        obtain ⟨d4, h4⟩ := h4
        exact ((k1'.trans k2).trans k3).none hL (ne_of_none h4 hL).symm
      have nLr : L ≠ r := (ne_of_none h0 hL0).symm
      generalize (upd H3 L (.lst [.str ⟨#[s]⟩])) = H4 at eL h5 k5
      refine ⟨_, rfl, L, _, 0, _, rfl, rfl, SqL.of eL, at_zero, dF, ⟨#[s]⟩, .ref a, rfl, rfl, ⟨es, en, .ref a, D_FORMS.at_, D_FORMS.lit, hns, rfl⟩, ?_⟩
      refine ⟨a, rfl, ⟨_, hSl _⟩, for_tup (K := K) (xs := sl.map V.str) (fun i σ H' => ∃ (ds1 ds2 : List PyData) (sl2 : List Str) (sx2 : List Nat) (sk2 : List (List Nat)) (us : List V) (n4 : Nat) (v2 v3 : Option V), ds = ds1 ++ ds2 ∧ sl.drop i = sl2 ∧ ds1.length = i ∧ σ = [some (.ref r), some (.ref L), v2, v3] ∧
        H' L = some (.lst (.str ⟨#[s]⟩ :: us)) ∧ DaAll K All H' us ds1 ∧ Sl kd sl2 ds2 sx2 sk2 ∧ RdAt C H' r x n4 ∧ At x n4 (sk2 ++ ws) ∧ Kp r H H')
        ⟨[], ds, sl, sx, sk, [], n3, none, none, rfl, rfl, rfl, rfl, eL, .nil, hsl, h5, hA3, k5⟩ (fun i σ H' _ _ => hSl _) ?_ ?_⟩
      · rintro i o σ H5 ho ⟨ds1, ds2, sl2, sx2, sk2, us, n4, v2, v3, eds, esl, el1, rfl, eL5, gu, gS, h6, hA4, k6⟩
        obtain ⟨slot, hslot, rfl⟩ := map_get ho
        obtain ⟨hi, hslot'⟩ := List.getElem?_eq_some_iff.mp hslot
        rw [List.drop_eq_getElem_cons hi, hslot'] at esl
        subst esl
        have hlen := hsl.len
        have hlu := gu.length
        cases gS with
        | @cons _ _ d0 ds2 tx0 sx2 tk0 sk2 hR hF hr' =>
          have hl4 := form_len hf
          have fin : ∀ (v : V) (n5 : Nat) (H6 : Hp), Da K All H6 v d0 → RdAt C H6 r x n5 → At x n5 (sk2 ++ ws) → Kp r H5 H6 → ∀ (u3 : V), ∃ l xs y, (V.ref L = .ref l ∧ [v] = [y] ∧ H6 l = some (.lst xs) ∧ xs.length < sizeLine ∧
              (∃ (ds1 ds2 : List PyData) (sl2 : List Str) (sx2 : List Nat) (sk2 : List (List Nat)) (us : List V) (n4 : Nat) (v2 v3 : Option V), ds = ds1 ++ ds2 ∧ sl.drop (i + 1) = sl2 ∧ ds1.length = i + 1 ∧ [some (V.ref r), some (.ref L), some (.str slot), some u3] = [some (.ref r), some (.ref L), v2, v3] ∧
        (upd H6 l (.lst (xs ++ [y]))) L = some (.lst (.str ⟨#[s]⟩ :: us)) ∧ DaAll K All (upd H6 l (.lst (xs ++ [y]))) us ds1 ∧ Sl kd sl2 ds2 sx2 sk2 ∧ RdAt C (upd H6 l (.lst (xs ++ [y]))) r x n4 ∧ At x n4 (sk2 ++ ws) ∧ Kp r H (upd H6 l (.lst (xs ++ [y]))))) := by
            intro v n5 H6 dv h7 hA5 k7 u3
            have eL6 := k7 _ _ eL5 nLr
            refine ⟨L, _, v, rfl, rfl, eL6, ?_, ds1 ++ [d0], ds2, _, sx2, sk2, us ++ [v], n5, _, _, by rw [eds, List.append_assoc]; rfl, rfl, by rw [List.length_append, el1]; rfl, rfl, upd_same, ?_, hr', ?_, hA5, (k6.trans k7).mut hL0⟩
            · rw [List.length_cons, hlu, el1]
              exact lt_line (by omega)
            · have gu7 := gu.kp k7 h6.noTup trivial
              have z := (gu7.put eL6 (fun xs z => nomatch z) (fun _ _ z => nomatch z) trivial : DaAll K All (upd H6 L (.lst ((V.str ⟨#[s]⟩ :: us) ++ [v]))) us ds1)
              exact z.append (.cons (dv.put eL6 (fun xs z => nomatch z) (fun _ _ z => nomatch z) trivial) .nil)
            · obtain ⟨d7, h7⟩ := h7
              exact ⟨d7, by rw [upd_ne nLr.symm]; exact h7⟩
          refine ⟨_, rfl, ?_⟩
          rw [List.append_assoc] at hA4
          cases hR with
          | name hz =>
            refine ⟨dR, _, .ref fN, rfl, rfl, ⟨rs, rn, .ref fN, D_R.at_, D_R.lit, RD.name, rfl⟩, ?_⟩
            refine ⟨_, rfl, .inl ⟨rfl, _, SqL.of eL5⟩, fN, _, rfl, hN, _, rfl, r, x, n4, _, _, _, rfl, h6, hx, ⟨_, hz, rfl, rfl⟩, trivial, hA4, fun v n5 H6 dv h7 hA5 k7 => ?_⟩
            exact fin v n5 H6 dv h7 hA5 k7 _
          | kind hz =>
            refine ⟨dR, _, .ref fK, rfl, rfl, ⟨rs, rn, .ref fK, D_R.at_, D_R.lit, RD.kind, rfl⟩, ?_⟩
            refine ⟨_, rfl, .inl ⟨rfl, _, SqL.of eL5⟩, fK, _, rfl, hK, _, rfl, r, x, n4, _, _, _, rfl, h6, hx, ⟨hz, rfl⟩, trivial, hA4, fun v n5 H6 dv h7 hA5 k7 => ?_⟩
            exact fin v n5 H6 dv h7 hA5 k7 _
          | term hz =>
            refine ⟨dR, _, .ref fT, rfl, rfl, ⟨rs, rn, .ref fT, D_R.at_, D_R.lit, RD.term, rfl⟩, ?_⟩
            refine ⟨_, rfl, .inl ⟨rfl, _, SqL.of eL5⟩, fT, _, rfl, hT, _, rfl, r, x, n4, _, _, _, rfl, h6, hx, ⟨_, _, hz⟩, trivial, hA4, fun v n5 H6 dv h7 hA5 k7 => ?_⟩
            exact fin v n5 H6 dv h7 hA5 k7 _
          | terms h4' hz =>
            have e41 := hF (.inl rfl)
            refine ⟨dR, _, .ref fS, rfl, rfl, ⟨rs, rn, .ref fS, D_R.at_, D_R.lit, RD.terms, rfl⟩, ?_⟩
            refine ⟨_, rfl, .inl ⟨rfl, _, SqL.of eL5⟩, fS, _, rfl, hS, _, rfl, r, x, n4, _, _, _, rfl, h6, hx, ⟨_, _, _, rfl, by omega, hz⟩, ⟨ws, by rw [e41]; rfl⟩, hA4, fun v n5 H6 dv h7 hA5 k7 => ?_⟩
            exact fin v n5 H6 dv h7 hA5 k7 _
          | cases g1 g6 hz =>
            have e41 := hF (.inr rfl)
            refine ⟨dR, _, .ref fC, rfl, rfl, ⟨rs, rn, .ref fC, D_R.at_, D_R.lit, RD.cases, rfl⟩, ?_⟩
            refine ⟨_, rfl, .inl ⟨rfl, _, SqL.of eL5⟩, fC, _, rfl, hC, _, rfl, r, x, n4, _, _, _, rfl, h6, hx, ⟨_, _, _, rfl, g1, by omega, hz⟩, ⟨ws, by rw [e41]; rfl⟩, hA4, fun v n5 H6 dv h7 hA5 k7 => ?_⟩
            exact fin v n5 H6 dv h7 hA5 k7 _
      · rintro σ H5 ⟨ds1, ds2, sl2, sx2, sk2, us, n4, v2, v3, eds, esl, el1, rfl, eL5, gu, gS, h6, hA4, k6⟩
        rw [List.length_map, List.drop_eq_nil_of_le (Nat.le_refl _)] at esl
        subst esl
        obtain ⟨rfl, rfl⟩ := sl_fin gS
        obtain ⟨d6, h6⟩ := h6
        refine ⟨_, rfl, r, d6, _, rfl, h6, rd_no (by decide +kernel) (by decide +kernel) x n4, r, x, ")", n4, 41, ws, rfl, ⟨d6, h6⟩, hx, hA4, by decide +kernel, fun n7 H7 h7 hA7 k7 => ?_⟩
        refine ⟨_, rfl, L, _, rfl, .inl ⟨SqL.of (k7 _ _ eL5 nLr), fun t ht => ?_⟩⟩
        rw [List.append_nil] at eds
        subst eds
        exact k _ n7 _ (.tup (SqT.of upd_same) (.cons (.str _) ((gu.kp k7 (RdAt.noTup ⟨d6, h6⟩) trivial).same (same_new ht)))) (h7.same (same_new ht)) hA7 ((k6.trans k7).lay ht)
end

section
variable {P : Program} {w : World} {K : PySem.W.Frag} {mg : Str → Option Value} {base : Heap} {C : Addr}
theorem ok_signs_of_maker {fN fM : Addr} {fdM : FuncData} (D : DefF K mg "signs_of_maker" s_signs_of_maker ["reader"] fM fdM) (R : RdC K C) (G_read_name : GV mg "read_name" (.ref fN))
    (M_Reader_take : MethOk P w K mg base 2 C "take" ["self", "signs"] (spTakeT C)) (M_Reader_take_name : MethOk P w K mg base 2 C "take_name" ["self"] (spNameT C))
    (C_read_until : CallOk P w K mg base 4 "read_until" ["reader", "read", "sign"] (spUntil K C fN RName 41)) : FnOk P w K mg base CX0 5 fM fdM ["reader"] (Rd1 K C RMk FAny) := by
  refine D.ok sc_signs_of_maker (fun vs H Q E h => ?_) (fun cdv A outer s H vs Q E hr h => ?_)
  · obtain ⟨r, x, n, d, tk, ws, rfl, _⟩ := h
    rfl
  · obtain ⟨r, x, n, d, tk, ws, rfl, ⟨dx, h0⟩, hx, ⟨m, hm, rfl, rfl⟩, _, hA, k⟩ := h
    unfold mkTk at hA
    simp only [List.cons_append, List.append_assoc] at hA
    refine ⟨_, (pss_cons (ps_expr (pe_methOk M_Reader_take R.cl hr (by omega) (pv 0) (pa_cons pe_str pa_nil)))
        (pss_cons (ps_set (i := 1) sc_signs_of_maker.nd rfl (Or.inl rfl) (pe_methOk0 M_Reader_take_name R.cl hr (by omega) (pv 0)))
        (pss_cons (ps_set (i := 2) sc_signs_of_maker.nd rfl (Or.inl rfl) (pe_callOk C_read_until hr (by omega) (by rfl) (pa_cons (pv 0) (pa_cons (pe_gv G_read_name rfl) (pa_cons pe_str pa_nil)))))
        (pss_cons (ps_expr (pe_methOk M_Reader_take R.cl hr (by omega) (pv 0) (pa_cons pe_str pa_nil)))
        (pss_one (ps_ret (pe_tup (pa_cons (pv 1) (pa_cons (pv 2) pa_nil))))))))), ?_⟩
    refine ⟨_, rfl, r, dx, _, rfl, h0, rd_no (by decide +kernel) (by decide +kernel) x n, r, x, "(", n, 40, _, rfl, ⟨dx, h0⟩, hx, hA, by decide +kernel, fun n1 H1 ⟨d1, h1⟩ hA1 k1 => ?_⟩
    refine ⟨_, rfl, r, d1, _, rfl, h1, rd_no (by decide +kernel) (by decide +kernel) x n1, r, x, m.1, n1, _, rfl, ⟨d1, h1⟩, hx, hA1, hm.nm, fun n2 H2 h2 hA2 k2 => ?_⟩
    refine ⟨_, rfl, r, x, n2, m.2.map strD, m.2.map nmL, _, rfl, h2, hx, rs_names s41.1 hm.all, by rw [List.length_map]; have := hm.len; omega, hA2, fun t vs n3 H3 hq hd ⟨d3, h3⟩ hA3 k3 => ?_⟩
    refine ⟨_, rfl, r, d3, _, rfl, h3, rd_no (by decide +kernel) (by decide +kernel) x n3, r, x, ")", n3, 41, _, rfl, ⟨d3, h3⟩, hx, hA3, by decide +kernel, fun n4 H4 h4 hA4 k4 => ?_⟩
    have hn : Da K All H3 (.ref t) (.tuple (m.2.map strD)) := .tup hq hd
    have hn4 := hn.kp k4 (RdAt.noTup ⟨d3, h3⟩) trivial
    refine ⟨_, rfl, _, rfl, le_line (by show 2 ≤ 16000000; decide), fun q hq' => ?_⟩
    exact k _ n4 _ (.tup (SqT.of upd_same) (.cons (.str _) (.cons (hn4.same (same_new hq')) .nil))) (h4.same (same_new hq')) hA4 ((((k1.trans k2).trans k3).trans k4).lay hq')
theorem ok_signs_of_data {jM : Nat} {fM : Addr} (hj : 4 ≤ jM) (D : DefAt K mg "signs_of_data" s_signs_of_data ["reader"]) (R : RdC K C) (G_signs_of_maker : GV mg "signs_of_maker" (.ref fM))
    (M_Reader_take_name : MethOk P w K mg base 2 C "take_name" ["self"] (spNameT C)) (C_signs_of_maker : CallOk P w K mg base jM "signs_of_maker" ["reader"] (Rd1 K C RMk FAny))
    (C_read_until : CallOk P w K mg base (jM + 1) "read_until" ["reader", "read", "sign"] (spUntil K C fM RMk 41)) : CallOk P w K mg base (jM + 2) "signs_of_data" ["reader"] (Rd1 K C RDt FEnd) := by
  refine D.ok sc_signs_of_data (fun vs H Q E h => ?_) (fun f cdv A outer s H vs Q E hr h => ?_)
  · obtain ⟨r, x, n, d, tk, ws, rfl, _⟩ := h
    rfl
  · obtain ⟨r, x, n, d, tk, ws, rfl, ⟨dx, h0⟩, hx, ⟨p, hp, rfl, rfl⟩, ⟨ws', rfl⟩, hA, k⟩ := h
    obtain ⟨m, ms, hms⟩ : ∃ m ms, p.2 = m :: ms := by
      have := hp.one
      cases e : p.2 with
      | nil =>
        rw [e] at this
        exact absurd this (by decide)
      | cons m ms => exact ⟨m, ms, rfl⟩
    have hok := hp.all
    have hlen := hp.len
    rw [hms] at hok hlen
    rw [hms, List.flatMap_cons] at hA
    simp only [List.cons_append, List.append_assoc] at hA
    refine ⟨_, (pss_cons (ps_set (i := 1) sc_signs_of_data.nd rfl (Or.inl rfl) (pe_methOk0 M_Reader_take_name R.cl hr (by omega) (pv 0)))
        (pss_cons (ps_set (i := 2) sc_signs_of_data.nd rfl (Or.inl rfl) (pe_callOk C_signs_of_maker hr (by omega) (by rfl) (pa_cons (pv 0) pa_nil)))
        (pss_one (ps_ret (pe_tup (pa_cons (pv 1) (pa_cons (pe_op opAdd (pe_tup (pa_cons (pv 2) pa_nil)) (pe_callOk C_read_until hr (by omega) (by rfl) (pa_cons (pv 0) (pa_cons (pe_gv G_signs_of_maker rfl) (pa_cons pe_str pa_nil))))) pa_nil))))))), ?_⟩
    refine ⟨_, rfl, r, dx, _, rfl, h0, rd_no (by decide +kernel) (by decide +kernel) x n, r, x, p.1, n, _, rfl, ⟨dx, h0⟩, hx, hA, hp.nm, fun n1 H1 h1 hA1 k1 => ?_⟩
    refine ⟨_, rfl, r, x, n1, _, _, _, rfl, h1, hx, ⟨m, hok m (List.mem_cons_self ..), rfl, rfl⟩, trivial, hA1, fun v n2 H2 dv h2 hA2 k2 => ?_⟩
    refine ⟨_, rfl, _, rfl, le_line (by show 1 ≤ 16000000; decide), fun q hq => ?_⟩
    refine ⟨_, rfl, r, x, n2, ms.map mkD, ms.flatMap mkTk, ws', rfl, h2.same (same_new hq), hx, rs_mks fun y hy => hok y (List.mem_cons_of_mem _ hy), by rw [List.length_map]; rw [List.length_cons] at hlen; omega, hA2, fun t xs n3 H3 hT3 hd3 h3 hA3 k3 => ?_⟩
    have nt : NoTup (upd H2 q (.tup [v])) r := (h2.same (same_new hq)).noTup
    have hq3 : SqT K H3 q [v] := sqT_kp k3 nt (SqT.of upd_same)
    have dv3 := (dv.same (same_new hq)).kp k3 nt trivial
    have hl3 := hd3.length
    rw [List.length_map] at hl3
    rw [List.length_cons] at hlen
    refine .inr (.inr (.inl (cat_any hq3 hT3 (le_line (by show 1 + xs.length ≤ 16000000; omega)) fun t4 H4 s4 hT4 => ?_)))
    refine ⟨le_line (by show 2 ≤ 16000000; decide), fun t5 ht5 => ?_⟩
    have s5 := s4.trans (same_new (o := .tup [.str p.1, .ref t4]) ht5)
    refine k _ n3 _ ?_ (h3.same s5) hA3 ((((k1.trans k2).lay hq).trans k3).same s5)
    show Da K All _ (.ref t5) (.tuple [.str p.1, .tuple (p.2.map mkD)])
    rw [hms]
    exact .tup (SqT.of upd_same) (.cons (.str _) (.cons (.tup (sqT_same (same_new ht5) hT4) (.cons (dv3.same s5) (hd3.same s5))) .nil))
theorem ok_signs_of_def {jT : Nat} (hj : 8 ≤ jT) (D : DefAt K mg "signs_of_def" s_signs_of_def ["reader"]) (R : RdC K C) (M_Reader_take_name : MethOk P w K mg base 2 C "take_name" ["self"] (spNameT C))
    (C_signs_of_kind : CallOk P w K mg base 8 "signs_of_kind" ["reader"] (Rd1 K C RKind FAny)) (C_signs_of_term : CallOk P w K mg base jT "signs_of_term" ["reader"] (Rd1 K C (RTerm 30) FAny)) : CallOk P w K mg base (jT + 1) "signs_of_def" ["reader"] (Rd1 K C RDf FAny) := by
  refine D.ok sc_signs_of_def (fun vs H Q E h => ?_) (fun f cdv A outer s H vs Q E hr h => ?_)
  · obtain ⟨r, x, n, d, tk, ws, rfl, _⟩ := h
    rfl
  · obtain ⟨r, x, n, d, tk, ws, rfl, ⟨dx, h0⟩, hx, ⟨w, hw, rfl, rfl⟩, _, hA, k⟩ := h
    simp only [List.cons_append, List.append_assoc] at hA
    refine ⟨_, (pss_cons (ps_set (i := 1) sc_signs_of_def.nd rfl (Or.inl rfl) (pe_methOk0 M_Reader_take_name R.cl hr (by omega) (pv 0)))
        (pss_cons (ps_set (i := 2) sc_signs_of_def.nd rfl (Or.inl rfl) (pe_callOk C_signs_of_kind hr (by omega) (by rfl) (pa_cons (pv 0) pa_nil)))
        (pss_one (ps_ret (pe_tup (pa_cons (pv 1) (pa_cons (pv 2) (pa_cons (pe_callOk C_signs_of_term hr (by omega) (by rfl) (pa_cons (pv 0) pa_nil)) pa_nil)))))))), ?_⟩
    refine ⟨_, rfl, r, dx, _, rfl, h0, rd_no (by decide +kernel) (by decide +kernel) x n, r, x, w.f, n, _, rfl, ⟨dx, h0⟩, hx, hA, hw.nm, fun n1 H1 h1 hA1 k1 => ?_⟩
    refine ⟨_, rfl, r, x, n1, _, _, _, rfl, h1, hx, ⟨hw.kd, rfl⟩, trivial, hA1, fun v n2 H2 dv h2 hA2 k2 => ?_⟩
    refine ⟨_, rfl, _, rfl, _, rfl, r, x, n2, w.t, w.tk, ws, rfl, h2, hx, ⟨_, _, hw.tt⟩, trivial, hA2, fun u n3 H3 du h3 hA3 k3 => ?_⟩
    refine ⟨le_line (by show 3 ≤ 16000000; decide), fun q hq => ?_⟩
    exact k _ n3 _ (.tup (SqT.of upd_same) (.cons (.str _) (.cons ((dv.kp k3 h2.noTup trivial).same (same_new hq)) (.cons (du.same (same_new hq)) .nil)))) (h3.same (same_new hq)) hA3 (((k1.trans k2).trans k3).lay hq)
theorem ok_signs_of_rows {jR : Nat} (hj : 3 ≤ jR) (D : DefAt K mg "signs_of_rows" s_signs_of_rows ["reader", "signs"]) (R : RdC K C) (T : Bl mg) (M_Reader_peek : MethOk P w K mg base 1 C "peek" ["self"] (spPeekT C)) (M_Reader_take : MethOk P w K mg base 2 C "take" ["self", "signs"] (spTakeT C))
    (C_signs_of_data : CallOk P w K mg base jR "signs_of_data" ["reader"] (Rd1 K C RDt FEnd)) (C_signs_of_def : CallOk P w K mg base jR "signs_of_def" ["reader"] (Rd1 K C RDf FAny)) : CallOk P w K mg base (jR + 1) "signs_of_rows" ["reader", "signs"] (spRowsR K C) := by
  refine D.ok sc_signs_of_rows (fun vs H Q E h => ?_) (fun f cdv A outer s H vs Q E hr h => ?_)
  · obtain ⟨r, x, n, ps, ws, rfl, _⟩ := h
    rfl
  · obtain ⟨r, x, n, ps, ws, rfl, ⟨dx, h0⟩, hx, hp1, hpl, hwl, hpo, hwo, hA, k⟩ := h
    refine ⟨_, (pss_cons (ps_set (i := 2) sc_signs_of_rows.nd rfl (Or.inl rfl) (pe_lst pa_nil))
        (pss_cons (ps_set (i := 3) sc_signs_of_rows.nd rfl (Or.inl rfl) (pe_lst pa_nil))
        (pss_cons (ps_while PassesOwn.never (PW.pt (pw_or (pt_cmpR op_eq (pe_op opAdd (pe_callB call_len_seq (by rfl) T.len_ (by decide +kernel) (pa_cons (pv 2) pa_nil)) (pe_callB call_len_seq (by rfl) T.len_ (by decide +kernel) (pa_cons (pv 3) pa_nil))) pe_int (nomark _)) (pw_or1 (pt_cmpR op_ne (pe_methOk0 M_Reader_peek R.cl hr (by omega) (pv 0)) pe_str (nomark _))))) (pss_cons (ps_expr (pe_methOk M_Reader_take R.cl hr (by omega) (pv 0) (pa_cons pe_str pa_nil)))
        (Evl.pss_cut (ps_if (pt_cmpR op_eq (pe_methOk M_Reader_take R.cl hr (by omega) (pv 0) (pa_cons (pv 1) pa_nil)) pe_str (nomark _)) (pss_cons (ps_expr (pe_bm PySem.F.plainAttrs_list PySem.F.slot_list_append PySem.F.type_list_append mt_append (pv 2) (pa_cons (pe_callOk C_signs_of_data hr (by omega) (by rfl) (pa_cons (pv 0) pa_nil)) pa_nil)))
        (pss_one (ps_set (i := 1) sc_signs_of_rows.nd rfl (Or.inl rfl) pe_str))) (pss_cons (ps_expr (pe_bm PySem.F.plainAttrs_list PySem.F.slot_list_append PySem.F.type_list_append mt_append (pv 3) (pa_cons (pe_callOk C_signs_of_def hr (by omega) (by rfl) (pa_cons (pv 0) pa_nil)) pa_nil)))
        (pss_one (ps_set (i := 1) sc_signs_of_rows.nd rfl (Or.inl rfl) pe_str))))
        (pss_one (ps_expr (pe_methOk M_Reader_take R.cl hr (by omega) (pv 0) (pa_cons pe_str pa_nil)))))))
        (pss_one (ps_ret (pe_tup (pa_cons (pe_callTy call_tuple_of (by rfl) T.tuple_ (by decide +kernel) (pa_cons (pv 2) pa_nil)) (pa_cons (pe_callTy call_tuple_of (by rfl) T.tuple_ (by decide +kernel) (pa_cons (pv 3) pa_nil)) pa_nil)))))))), ?_⟩
    refine ⟨Nat.zero_le _, fun D hD => ⟨Nat.zero_le _, fun E hE => ?_⟩⟩
    have eD0 : (upd H D (.lst [])) D = some (.lst ([] : List V)) := upd_same
    have nDE : D ≠ E := ne_of_none eD0 hE
    have hE0 : H E = none := none_same (same_new hD) hE
    have nDr : D ≠ r := (ne_of_none h0 hD).symm
    have nEr : E ≠ r := (ne_of_none h0 hE0).symm
    have s0 : Same H (upd (upd H D (.lst [])) E (.lst [])) := (same_new hD).trans (same_new hE)
    refine ⟨RowI K C x ps ws r D E H [], ⟨_, [], [], n, [], ps, [], ws, rfl, rfl, fun z => absurd rfl z, rfl, rfl, same_new hE _ _ eD0, upd_same, .nil, .nil, RdAt.same s0 ⟨dx, h0⟩, hA, Kp.of s0⟩, ?_⟩
    rintro m σ H1 ⟨us, vs, n1, ps1, ps2, ws1, ws2, eps, ews, hpw, rfl, rfl, eD, eE, gu, gv, ⟨d1, h1⟩, hA1, k1⟩
    rw [List.nil_append] at hA1
    have lu := gu.length
    have lv := gv.length
    rw [List.length_map] at lu lv
    by_cases hm : 1 ≤ ps2.length + ws2.length
    case neg =>
      obtain rfl := List.length_eq_zero_iff.mp (show ps2.length = 0 by omega)
      obtain rfl := List.length_eq_zero_iff.mp (show ws2.length = 0 by omega)
      rw [List.append_nil] at eps ews
      subst eps ews
      refine ⟨_, rfl, D, us, rfl, .inl (SqL.of eD), _, rfl, E, vs, rfl, .inl (SqL.of eE), .inl ⟨_, _, rfl, rfl, rfl, _, rfl, iteIF (by omega) ?_⟩⟩
      refine ⟨_, rfl, r, d1, _, rfl, h1, rd_no (by decide +kernel) (by decide +kernel) x n1, r, x, n1, _, rfl, ⟨d1, h1⟩, hx, hA1, fun n2 H2 h2 hA2 k2 => ⟨rfl, _, rfl, iteFx rfl ?_⟩⟩
      refine ⟨_, rfl, D, us, rfl, .inl ⟨SqL.of (k2 _ _ eD nDr), fun t1 ht1 => ?_⟩⟩
      refine ⟨_, rfl, E, vs, rfl, .inl ⟨SqL.of (same_new ht1 _ _ (k2 _ _ eE nEr)), fun t2 ht2 => ⟨le_line (by show 2 ≤ 16000000; decide), fun t3 ht3 => ?_⟩⟩⟩
      have nt : NoTup H1 r := RdAt.noTup ⟨d1, h1⟩
      have sa := same_new (H := H2) (o := .tup us) ht1
      have sb := same_new (o := .tup vs) ht2
      have sc := same_new (o := .tup [.ref t1, .ref t2]) ht3
      have sac := (sa.trans sb).trans sc
      exact k _ n2 _ (.tup (SqT.of upd_same) (.cons (.tup (sqT_same (sb.trans sc) (SqT.of upd_same)) ((gu.kp k2 nt trivial).same sac)) (.cons (.tup (sqT_same sc (SqT.of upd_same)) ((gv.kp k2 nt trivial).same sac)) .nil))) (h2.same sac) hA2 ((k1.trans k2).same sac)
    apply shareT (fun n2 H2 => H2 D = some (.lst us) ∧ H2 E = some (.lst vs) ∧ DaAll K All H2 us (ps1.map dtD) ∧ DaAll K All H2 vs (ws1.map DfW.d) ∧ RdAt C H2 r x n2 ∧ At x n2 (ps2.flatMap dtTk ++ ws2.flatMap dfTk) ∧ Kp r H H2)
    · intro hY
      refine ⟨_, rfl, D, us, rfl, .inl (SqL.of eD), _, rfl, E, vs, rfl, .inl (SqL.of eE), .inl ⟨_, _, rfl, rfl, rfl, _, rfl, ?_⟩⟩
      by_cases e0 : ((us.length : Int) + (vs.length : Int)) = 0
      case neg =>
        refine iteIF e0 ?_
        refine ⟨_, rfl, r, d1, _, rfl, h1, rd_no (by decide +kernel) (by decide +kernel) x n1, r, x, n1, _, rfl, ⟨d1, h1⟩, hx, hA1, fun n2 H2 h2 hA2 k2 => ⟨rfl, _, rfl, ?_⟩⟩
        have nt : NoTup H1 r := RdAt.noTup ⟨d1, h1⟩
        exact iteTx (heads_ne hm) (hY n2 H2 ⟨k2 _ _ eD nDr, k2 _ _ eE nEr, gu.kp k2 nt trivial, gv.kp k2 nt trivial, h2, hA2, k1.trans k2⟩)
      case pos => exact iteIT e0 (iteTx rfl (hY n1 H1 ⟨eD, eE, gu, gv, ⟨d1, h1⟩, hA1, k1⟩))
    -- the row
    clear hA1 h1 eD eE gu gv k1
    rintro n2 H2 ⟨eD, eE, gu, gv, ⟨d1, h1⟩, hA1, k1⟩
    refine ⟨_, fun _ _ h => h, ?_⟩
    have htk : ps2.flatMap dtTk ++ ws2.flatMap dfTk = [40] :: (ps2.flatMap dtTk ++ ws2.flatMap dfTk).tail := by
      cases ps2 with
      | cons p ps2 => rfl
      | nil =>
        cases ws2 with
        | cons w ws2 => rfl
        | nil => exact absurd hm (by decide)
    rw [htk] at hA1
    refine ⟨_, rfl, r, d1, _, rfl, h1, rd_no (by decide +kernel) (by decide +kernel) x n2, r, x, "(", n2, 40, _, rfl, ⟨d1, h1⟩, hx, hA1, by decide +kernel, fun n3 H3 ⟨d3, h3⟩ hA3 k3 => ?_⟩
    have nt1 : NoTup H2 r := RdAt.noTup ⟨d1, h1⟩
    have nt3 : NoTup H3 r := RdAt.noTup ⟨d3, h3⟩
    refine ⟨fun σ H' => ∃ m, m < ps2.length + ws2.length ∧ RowI K C x ps ws r D E H [[41]] m σ H', ?_, ?_⟩
    · cases ps2 with
      | cons p ps2 =>
        have hw1 : ws1 = [] := by
          cases ws1 with
          | nil => rfl
          | cons w ws1 =>
            have := hpw (by simp)
            cases this
        subst hw1
        have ew : ws = ws2 := ews
        have hp := hpo p (by rw [eps]; simp)
        have hA3' : At x n3 ([61] :: (nmL p.1 :: p.2.flatMap mkTk ++ ([41] :: (ps2.flatMap dtTk ++ ws2.flatMap dfTk)))) := by
          have e : ((p :: ps2).flatMap dtTk ++ ws2.flatMap dfTk).tail = [61] :: (nmL p.1 :: p.2.flatMap mkTk ++ ([41] :: (ps2.flatMap dtTk ++ ws2.flatMap dfTk))) := by
            rw [List.flatMap_cons]
            unfold dtTk
            simp
          rw [e] at hA3
          exact hA3
        refine ⟨_, rfl, r, d3, _, rfl, h3, rd_no (by decide +kernel) (by decide +kernel) x n3, _, rfl, r, x, _, n3, 61, _, rfl, ⟨d3, h3⟩, hx, hA3', signZ_eq rfl, fun n4 H4 h4 hA4 k4 => ⟨rfl, _, rfl, iteTx (by decide +kernel) ?_⟩⟩
        have k34 := k3.trans k4
        refine ⟨_, rfl, .inl ⟨rfl, _, SqL.of (k34 _ _ eD nDr)⟩, _, rfl, r, x, n4, _, _, _, rfl, h4, hx, ⟨p, hp, rfl, rfl⟩, ⟨_, rfl⟩, hA4, fun v n5 H5 dv h5 hA5 k5 => ?_⟩
        have k35 := k34.trans k5
        have eD5 := k35 _ _ eD nDr
        have lu := gu.length
        rw [List.length_map] at lu
        have lps : ps1.length + (ps2.length + 1) ≤ 100 := by
          rw [eps, List.length_append, List.length_cons] at hpl
          exact hpl
        refine ⟨D, us, v, rfl, rfl, eD5, lt_line (by omega), ?_⟩
        have gu5 := ((gu.kp k3 nt1 trivial).kp k4 nt3 trivial).kp k5 h4.noTup trivial
        have gv5 := ((gv.kp k3 nt1 trivial).kp k4 nt3 trivial).kp k5 h4.noTup trivial
        refine ⟨ps2.length + ws2.length, by rw [List.length_cons]; omega, us ++ [v], vs, n5, ps1 ++ [p], ps2, [], ws2, by rw [eps, List.append_assoc]; rfl, ews, fun z => absurd rfl z, rfl, ?_, upd_same, ?_, ?_, ?_, ?_, hA5, (k1.trans k35).mut hD⟩
        · show [some (V.ref r), some (.str (Str.ofString "=@")), some (.ref D), some (.ref E)] = _
          have : signZ (ps1 ++ [p]).length ([] : List DfW).length = Str.ofString "=@" := by
            rw [List.length_append]
            rfl
          rw [this]
        · rw [upd_ne nDE.symm]
          exact k35 _ _ eE nEr
        · rw [List.map_append]
          exact acc_da eD5 gu5 dv
        · exact gv5.put eD5 (fun xs z => nomatch z) (fun _ _ z => nomatch z) trivial
        · obtain ⟨d5, h5⟩ := h5
          exact ⟨d5, by rw [upd_ne nDr.symm]; exact h5⟩
      | nil =>
        cases ws2 with
        | nil => exact absurd hm (by decide)
        | cons w ws2 =>
          have hw := hwo w (by rw [ews]; simp)
          have hp1' : 1 ≤ ps1.length := by
            rw [List.append_nil] at eps
            rw [← eps]
            exact hp1
          have hA3' : At x n3 ([64] :: (nmL w.f :: (toks 6 w.k ++ w.tk) ++ ([41] :: ws2.flatMap dfTk))) := by
            have e : (([] : List DtT).flatMap dtTk ++ (w :: ws2).flatMap dfTk).tail = [64] :: (nmL w.f :: (toks 6 w.k ++ w.tk) ++ ([41] :: ws2.flatMap dfTk)) := by
              rw [List.flatMap_cons]
              unfold dfTk
              simp
            rw [e] at hA3
            exact hA3
          refine ⟨_, rfl, r, d3, _, rfl, h3, rd_no (by decide +kernel) (by decide +kernel) x n3, _, rfl, r, x, _, n3, 64, _, rfl, ⟨d3, h3⟩, hx, hA3', signZ_at hp1', fun n4 H4 h4 hA4 k4 => ⟨rfl, _, rfl, iteFx (by decide +kernel) ?_⟩⟩
          have k34 := k3.trans k4
          refine ⟨_, rfl, .inl ⟨rfl, _, SqL.of (k34 _ _ eE nEr)⟩, _, rfl, r, x, n4, _, _, _, rfl, h4, hx, ⟨w, hw, rfl, rfl⟩, trivial, hA4, fun v n5 H5 dv h5 hA5 k5 => ?_⟩
          have k35 := k34.trans k5
          have eE5 := k35 _ _ eE nEr
          have lv := gv.length
          rw [List.length_map] at lv
          have lws : ws1.length + (ws2.length + 1) ≤ 100 := by
            rw [ews, List.length_append, List.length_cons] at hwl
            exact hwl
          refine ⟨E, vs, v, rfl, rfl, eE5, lt_line (by omega), ?_⟩
          have gu5 := ((gu.kp k3 nt1 trivial).kp k4 nt3 trivial).kp k5 h4.noTup trivial
          have gv5 := ((gv.kp k3 nt1 trivial).kp k4 nt3 trivial).kp k5 h4.noTup trivial
          refine ⟨([] : List DtT).length + ws2.length, by rw [List.length_cons]; omega, us, vs ++ [v], n5, ps1, [], ws1 ++ [w], ws2, eps, by rw [ews, List.append_assoc]; rfl, fun _ => rfl, rfl, ?_, ?_, upd_same, ?_, ?_, ?_, hA5, (k1.trans k35).mut hE0⟩
          · show [some (V.ref r), some (.str (Str.ofString "@")), some (.ref D), some (.ref E)] = _
            have : signZ ps1.length (ws1 ++ [w]).length = Str.ofString "@" := by
              rw [List.length_append]
              rfl
            rw [this]
          · rw [upd_ne nDE]
            exact k35 _ _ eD nDr
          · exact gu5.put eE5 (fun xs z => nomatch z) (fun _ _ z => nomatch z) trivial
          · rw [List.map_append]
            exact acc_da eE5 gv5 dv
          · obtain ⟨d5, h5⟩ := h5
            exact ⟨d5, by rw [upd_ne nEr.symm]; exact h5⟩
    · rintro σ H4 ⟨m, hlt, us', vs', n4, ps1', ps2', ws1', ws2', eps', ews', hpw', em, rfl, eD4, eE4, gu4, gv4, ⟨d4, h4⟩, hA4, k4⟩
      refine ⟨_, rfl, r, d4, _, rfl, h4, rd_no (by decide +kernel) (by decide +kernel) x n4, r, x, ")", n4, 41, _, rfl, ⟨d4, h4⟩, hx, hA4, by decide +kernel, fun n5 H5 h5 hA5 k5 => ?_⟩
      have nt4 : NoTup H4 r := RdAt.noTup ⟨d4, h4⟩
      exact ⟨m, hlt, us', vs', n5, ps1', ps2', ws1', ws2', eps', ews', hpw', em, rfl, k5 _ _ eD4 nDr, k5 _ _ eE4 nEr, gu4.kp k5 nt4 trivial, gv4.kp k5 nt4 trivial, h5, hA5, k4.trans k5⟩
end

section
variable {P : Program} {w : World} {K : PySem.W.Frag} {mg : Str → Option Value} {base : Heap} {C : Addr}
theorem ok_kind_text (D : DefAt K mg "kind_text" s_kind_text ["kind"]) (T : Bl mg) (C_bracketed : CallOk P w K mg base 1 "bracketed" ["words"] spBracketed) : ∀ j : Nat, j ≤ 6 → CallOk P w K mg base (j + 1) "kind_text" ["kind"] (spKText K j)
  | 0, _ => (D.none sc_kind_text).imp fun vs H Q E h => by
    obtain ⟨N, v, d, _, _, h0, _⟩ := h
    cases h0
  | j + 1, hj => by
    have C_kind_text := ok_kind_text D T C_bracketed j (by omega)
    refine D.ok sc_kind_text (fun vs H Q E h => ?_) (fun f cdv A outer s H vs Q E hr h => ?_)
    · obtain ⟨N, v, d, rfl, _⟩ := h
      rfl
    · obtain ⟨N, v, d, rfl, hd, hk, k⟩ := h
      refine ⟨_, (pss_cons (ps_if (pt_val (pe_callB call_isD (by rfl) T.isinstance_ (by decide +kernel) (pa_cons (pv 0) (pa_cons (pe_bltn (v := .ty "str") (by rfl) T.str_ (by decide +kernel) rfl) pa_nil)))) (pss_one (ps_ret (pv 0))) pss_nil)
        (pss_one (ps_ret (pe_callOk C_bracketed hr (by omega) (by rfl) (pa_cons (pe_lst (pa_cons (pe_ix ix_tup (pv 0) pe_int (fun _ _ => rfl)) (pa_cons (pe_callOk C_kind_text hr (by omega) (by rfl) (pa_cons (pe_ix ix_tup (pv 0) pe_int (fun _ _ => rfl)) pa_nil)) (pa_cons (pe_callOk C_kind_text hr (by omega) (by rfl) (pa_cons (pe_ix ix_tup (pv 0) pe_int (fun _ _ => rfl)) pa_nil)) pa_nil)))) pa_nil))))), ?_⟩
      refine ⟨_, rfl, N, v, d, "str", rfl, hd, .inl rfl, _, rfl, ?_⟩
      rcases kd_cases hk with ⟨z, rfl, _⟩ | ⟨sg, a, b, rfl, _, _, ha, hb⟩
      · refine iteT ⟨_, rfl, ?_⟩
        cases hd.strInv
        have z1 := k H (Same.refl H)
        rw [kt_str, ← str_of] at z1
        exact z1
      · refine iteF ?_
        obtain ⟨t, vs, va, vb, rfl, hT, ds, da, db⟩ := hd.tup3
        cases ds.strInv
        refine ⟨_, rfl, t, _, 0, _, rfl, rfl, hT, rfl, ?_⟩
        refine ⟨_, rfl, t, _, 1, va, rfl, rfl, hT, rfl, N, va, a, rfl, da, ha, fun H1 s1 => ?_⟩
        refine ⟨_, rfl, t, _, 2, vb, rfl, rfl, sqT_same s1 hT, rfl, N, vb, b, rfl, db.same s1, hb, fun H2 s2 => ?_⟩
        refine ⟨le_line (by show 3 ≤ 16000000; decide), fun p hp => ?_⟩
        have la := kt_small (show j ≤ 6 by omega) ha
        have lb := kt_small (show j ≤ 6 by omega) hb
        refine ⟨p, ⟨#[sg]⟩, _, _, rfl, upd_same, (by show 1 ≤ 1000; decide), ?_, ?_, ?_⟩
        · show (ktL j a).toArray.size ≤ 1000
          rw [List.size_toArray]
          omega
        · show (ktL j b).toArray.size ≤ 1000
          rw [List.size_toArray]
          omega
        · rw [kt_tup] at k
          exact k _ ((s1.trans s2).trans (same_new hp))
end

section
variable {P : Program} {w : World} {K : PySem.W.Frag} {mg : Str → Option Value} {base : Heap} {C : Addr}
theorem ok_law_kind_text (D : DefAt K mg "_law_kind_text" s_law_kind_text ["_law_kind"]) (T : Bl mg) : ∀ j : Nat, j ≤ 6 → CallOk P w K mg base (j + 1) "_law_kind_text" ["_law_kind"] (spKText K j)
  | 0, _ => (D.none sc_law_kind_text).imp fun vs H Q E h => by
    obtain ⟨N, v, d, _, _, h0, _⟩ := h
    cases h0
  | j + 1, hj => by
    have C_law_kind_text := ok_law_kind_text D T j (by omega)
    refine D.ok sc_law_kind_text (fun vs H Q E h => ?_) (fun f cdv A outer s H vs Q E hr h => ?_)
    · obtain ⟨N, v, d, rfl, _⟩ := h
      rfl
    · obtain ⟨N, v, d, rfl, hd, hk, k⟩ := h
      refine ⟨_, (pss_cons (ps_if (pt_val (pe_callB call_isD (by rfl) T.isinstance_ (by decide +kernel) (pa_cons (pv 0) (pa_cons (pe_bltn (v := .ty "str") (by rfl) T.str_ (by decide +kernel) rfl) pa_nil)))) (pss_one (ps_ret (pv 0))) pss_nil)
        (pss_one (ps_ret (pe_op opAdd (pe_op opAdd pe_str (pe_join pe_str (pe_lst (pa_cons (pe_ix ix_tup (pv 0) pe_int (fun _ _ => rfl)) (pa_cons (pe_callOk C_law_kind_text hr (by omega) (by rfl) (pa_cons (pe_ix ix_tup (pv 0) pe_int (fun _ _ => rfl)) pa_nil)) (pa_cons (pe_callOk C_law_kind_text hr (by omega) (by rfl) (pa_cons (pe_ix ix_tup (pv 0) pe_int (fun _ _ => rfl)) pa_nil)) pa_nil)))))) pe_str)))), ?_⟩
      refine ⟨_, rfl, N, v, d, "str", rfl, hd, .inl rfl, _, rfl, ?_⟩
      rcases kd_cases hk with ⟨z, rfl, _⟩ | ⟨sg, a, b, rfl, _, _, ha, hb⟩
      · refine iteT ⟨_, rfl, ?_⟩
        cases hd.strInv
        have z1 := k H (Same.refl H)
        rw [kt_str, ← str_of] at z1
        exact z1
      · refine iteF ?_
        obtain ⟨t, vs, va, vb, rfl, hT, ds, da, db⟩ := hd.tup3
        cases ds.strInv
        refine ⟨⟨_, rfl⟩, _, rfl, t, _, 0, _, rfl, rfl, hT, rfl, ?_⟩
        refine ⟨_, rfl, t, _, 1, va, rfl, rfl, hT, rfl, N, va, a, rfl, da, ha, fun H1 s1 => ?_⟩
        refine ⟨_, rfl, t, _, 2, vb, rfl, rfl, sqT_same s1 hT, rfl, N, vb, b, rfl, db.same s1, hb, fun H2 s2 => ?_⟩
        refine ⟨le_line (by show 3 ≤ 16000000; decide), fun p hp => ?_⟩
        have la := kt_small (show j ≤ 6 by omega) ha
        have lb := kt_small (show j ≤ 6 by omega) hb
        have la' : (⟨(ktL j a).toArray⟩ : Str).length ≤ 832 := la
        have lb' : (⟨(ktL j b).toArray⟩ : Str).length ≤ 832 := lb
        have ls : (⟨#[sg]⟩ : Str).length = 1 := rfl
        generalize hA : (⟨(ktL j a).toArray⟩ : Str) = A1 at la' ⊢
        generalize hB : (⟨(ktL j b).toArray⟩ : Str) = B1 at lb' ⊢
        have eA : A1.cps.toList = ktL j a := by rw [← hA]
        have eB : B1.cps.toList = ktL j b := by rw [← hB]
        refine ⟨" ", p, [⟨#[sg]⟩, A1, B1], rfl, rfl, .inl (SqL.of upd_same), ?_, ?_⟩
        · show (⟨#[sg]⟩ : Str).length + (A1.length + (B1.length + 0)) + 3 * 1 ≤ 16777216
          omega
        have lj : (Txt.join " " [⟨#[sg]⟩, A1, B1]).length = (⟨#[sg]⟩ : Str).length + (1 + (A1.length + (1 + B1.length))) := by
          have e := congrArg List.length (glued3 " " ⟨#[sg]⟩ A1 B1)
          simp only [List.length_append] at e
          exact e
        refine .inr (.inl ⟨_, _, rfl, rfl, le_line (by rw [lj]; show 1 + _ ≤ 16000000; omega), .inr (.inl ⟨_, _, rfl, rfl, le_line ?_, ?_⟩)⟩)
        · have e := congrArg List.length (app_list "(" (Txt.join " " [⟨#[sg]⟩, A1, B1]))
          rw [List.length_append] at e
          have e1 : (("(" : Str) ++ Txt.join " " [⟨#[sg]⟩, A1, B1]).length = 1 + (Txt.join " " [⟨#[sg]⟩, A1, B1]).length := e
          rw [e1, lj]
          show _ + 1 ≤ 16000000
          omega
        · rw [brack, eA, eB]
          rw [kt_tup] at k
          exact k _ ((s1.trans s2).trans (same_new hp))
end

section
variable {P : Program} {w : World} {K : PySem.W.Frag} {mg : Str → Option Value} {base : Heap} {C : Addr}
theorem spell_len {us : List V} {wt : Nat} {N : Addr → Prop} {H0 : Hp} {l : List Nat} (h : Els K N H0 us l wt) (hl : l.length ≤ 1000000) : us.length ≤ 2000000 := by
  have := h.le
  omega
def SpI (K : PySem.W.Frag) (N : Addr → Prop) (H0 H : Hp) (b : Addr) (ys : List V) (sl : List Str) (ds : List PyData) (txt : List Nat) (kd : Nat) (t L : Addr) (i : Nat) (σ : L2.St) (H' : Hp) : Prop :=
  ∃ (ds1 ds2 : List PyData) (sx2 l : List Nat) (sk2 : List (List Nat)) (us : List V) (wt : Nat) (v2 v3 v4 v5 v6 : Option V), ds = ds1 ++ ds2 ∧ ds1.length = i ∧ σ = [some (.ref t), some (.ref L), v2, v3, v4, v5, v6] ∧
    H' L = some (.lst (V.str "(" :: us)) ∧ Els K N H0 us l wt ∧ txt = l ++ sx2 ∧ Sl kd (sl.drop i) ds2 sx2 sk2 ∧ Same H H' ∧ SqT K H' b ys
theorem ok_spelled {dF : Addr} (D : DefAt K mg "spelled" s_spelled ["term"]) (T : Bl mg) (G_FORMS : GV mg "FORMS" (.ref dF)) (FT : Forms K w dF) (C_kind_text : CallOk P w K mg base 7 "kind_text" ["kind"] (spKText K 6)) : CallOk P w K mg base 8 "spelled" ["term"] (spSpelled K) := by
  refine D.ok sc_spelled (fun vs H Q E h => ?_) (fun f cdv A outer s H vs Q E hr h => ?_)
  · obtain ⟨N, H0, v, k, d, tx, tk, m, rfl, _⟩ := h
    rfl
  · obtain ⟨N, H0, v, kk, d, tx, tk, m, rfl, s0, hd, hT, hty, hx, k⟩ := h
    obtain ⟨kd, rfl⟩ : ∃ j, kk = j + 1 := by cases hT <;> exact ⟨_, rfl⟩
    obtain ⟨es, en, D_FORMS⟩ := FT.dict
    refine ⟨_, (pss_cons (ps_if (pt_cmpR op_eq (pe_ix ix_tup (pv 0) pe_int (fun _ _ => rfl)) pe_str (nomark _)) (pss_one (ps_ret (pe_lst (pa_cons pe_str (pa_cons (pe_ix ix_tup (pv 0) pe_int (fun _ _ => rfl)) pa_nil))))) pss_nil)
        (pss_cons (ps_set (i := 1) sc_spelled.nd rfl (Or.inl rfl) (pe_lst (pa_cons pe_str (pa_cons (pe_ix ix_tup (pv 0) pe_int (fun _ _ => rfl)) pa_nil))))
        (pss_cons (ps_for PassesOwn.never rfl (RZ.pi_zipA (by rfl) T.zip_ (pa_cons (pe_ix ix_kdict (pe_gv G_FORMS rfl) (pe_ix ix_tup (pv 0) pe_int (fun _ _ => rfl)) (fun _ _ => rfl)) (pa_cons (pe_slice sl_tupA (pv 0) (po_some pe_int) po_none) pa_nil))) (pg_tup rfl (pgs_cons (pg_name (i := 2) sc_spelled.nd rfl (Or.inl rfl) (by first | exact .inl rfl | exact .inr rfl)) (pgs_cons (pg_name (i := 3) sc_spelled.nd rfl (Or.inl rfl) (by first | exact .inl rfl | exact .inr rfl)) pgs_nil))) (pss_one (ps_if (pt_cmpR op_eq (pv 2) pe_str (nomark _)) (pss_one (ps_expr (pe_bm PySem.F.plainAttrs_list PySem.F.slot_list_extend PySem.F.type_list_extend mt_extend (pv 1) (pa_cons (pe_lst (pa_cons pe_str (pa_cons (pe_callOk C_kind_text hr (by omega) (by rfl) (pa_cons (pv 3) pa_nil)) pa_nil))) pa_nil)))) (pss_one (ps_if (pt_cmpR op_eq (pv 2) pe_str (nomark _)) (pss_one (ps_for PassesOwn.never rfl (pi_tup (pv 3)) (pg_name (i := 4) sc_spelled.nd rfl (Or.inl rfl) (by first | exact .inl rfl | exact .inr rfl)) (pss_one (ps_expr (pe_bm PySem.F.plainAttrs_list PySem.F.slot_list_extend PySem.F.type_list_extend mt_extend (pv 1) (pa_cons (pe_lst (pa_cons pe_str (pa_cons (pv 4) pa_nil))) pa_nil)))))) (pss_one (ps_if (pt_cmpR op_eq (pv 2) pe_str (nomark _)) (pss_one (ps_for PassesOwn.never rfl (pi_tup (pv 3)) (pg_tup rfl (pgs_cons (pg_name (i := 5) sc_spelled.nd rfl (Or.inl rfl) (by first | exact .inl rfl | exact .inr rfl)) (pgs_cons (pg_name (i := 6) sc_spelled.nd rfl (Or.inl rfl) (by first | exact .inl rfl | exact .inr rfl)) (pgs_cons (pg_name (i := 4) sc_spelled.nd rfl (Or.inl rfl) (by first | exact .inl rfl | exact .inr rfl)) pgs_nil)))) (pss_one (ps_expr (pe_bm PySem.F.plainAttrs_list PySem.F.slot_list_extend PySem.F.type_list_extend mt_extend (pv 1) (pa_cons (pe_lst (pa_cons pe_str (pa_cons (pe_join pe_str (pe_lst (pa_cons (pv 5) (StX.pa_star (pv 6) pa_nil)))) (pa_cons pe_str (pa_cons (pv 4) (pa_cons pe_str pa_nil)))))) pa_nil)))))) (pss_one (ps_expr (pe_bm PySem.F.plainAttrs_list PySem.F.slot_list_extend PySem.F.type_list_extend mt_extend (pv 1) (pa_cons (pe_lst (pa_cons pe_str (pa_cons (pv 3) pa_nil))) pa_nil)))))))))))
        (pss_cons (ps_expr (pe_bm PySem.F.plainAttrs_list PySem.F.slot_list_append PySem.F.type_list_append mt_append (pv 1) (pa_cons pe_str pa_nil)))
        (pss_one (ps_ret (pv 1))))))), ?_⟩
    rcases hT.parts with ⟨z, hz, rfl, rfl, rfl⟩ | ⟨z, hz, rfl, rfl, rfl⟩ | ⟨s, sl, ds, sx, sk, rfl, hs, hf, hsl, rfl, rfl⟩
    · exact absurd rfl hty
    · obtain ⟨t, v1, v2, rfl, hT0, g1, g2⟩ := hd.tup2
      cases g1.strInv
      cases g2.strInv
      have hT2 := sqT_same s0 hT0
      refine ⟨_, rfl, t, _, 0, _, rfl, rfl, hT2, at_zero, rfl, _, rfl, iteTx (by decide +kernel) ?_⟩
      refine ⟨_, rfl, t, _, 1, _, rfl, rfl, hT2, rfl, le_line (by show 2 ≤ 16000000; decide), fun L hL => ?_⟩
      refine k L _ _ _ (same_new hL) hL upd_same (.str (z := "@") (by decide) (el_name hz)) ?_
      have e : (nmL z).length = z.length := rfl
      rw [List.length_cons, e]
      show 1 + z.length < _
      omega
    · obtain ⟨t, xs, rfl, hT0, hA⟩ := hd.tupInv
      obtain ⟨x0, ys, rfl, h0, hB⟩ := hA.unc
      cases h0.strInv
      have hT2 := sqT_same s0 hT0
      have hne : (⟨#[s]⟩ : Str) ≠ Str.ofString "@" := by
        intro z
        have z2 : s = 64 := Option.some.inj (congrArg (fun q : Str => q.cps[0]?) z)
        subst z2
        exact absurd hs (by decide)
      refine ⟨_, rfl, t, _, 0, _, rfl, rfl, hT2, at_zero, rfl, _, rfl, iteSF hne ?_⟩
      refine ⟨_, rfl, t, _, 0, _, rfl, rfl, hT2, at_zero, le_line (by show 2 ≤ 16000000; decide), fun L hL => ?_⟩
      have s1 : Same H (upd H L (.lst [.str "(", .str ⟨#[s]⟩])) := same_new hL
      have eL : (upd H L (.lst [.str "(", .str ⟨#[s]⟩])) L = some (.lst (V.str "(" :: [V.str ⟨#[s]⟩])) := upd_same
      generalize (upd H L (.lst [.str "(", .str ⟨#[s]⟩])) = H1 at s1 eL
      have hL0 : H0 L = none := none_same s0 hL
      obtain ⟨a, hns, hSl⟩ := FT.yes _ sl hf
      refine ⟨_, rfl, t, _, 0, _, rfl, rfl, sqT_same s1 hT2, at_zero, dF, ⟨#[s]⟩, .ref a, rfl, rfl, ⟨es, en, .ref a, D_FORMS.at_, D_FORMS.lit, hns, rfl⟩, ?_⟩
      refine ⟨_, rfl, 1, rfl, ?_⟩
      dsimp only [tNoPart]
      refine cut_any (sqT_same s1 hT2) fun b H2 s2 hb => ?_
      rw [cut_one] at hb
      have hlen := hsl.len
      have hly := hB.length
      have s02 : Same H H2 := s1.trans s2
      refine ⟨a, b, _, _, rfl, .inr ⟨hSl _, hb, ?_⟩⟩
      refine RZ.for_zipT (K := K) (D := ⟨_, _, fun _ _ => False, fun _ _ => False⟩) (xs := sl.map V.str) (ys := ys) (by rw [List.length_map]; omega) (SpI K N H0 H b ys sl ds (s :: sx) kd t L) ⟨[], ds, sx, [s], sk, [V.str ⟨#[s]⟩], 1, none, none, none, none, none, rfl, rfl, rfl, s2 _ _ eL, .str (z := ⟨#[s]⟩) (by show 1 ≤ 1; decide) .nil, rfl, hsl, s02, hb⟩ (fun i σ H' ⟨_, _, _, _, _, _, _, _, _, _, _, _, _, _, _, _, _, _, _, _, s9⟩ => ⟨hSl _, s9⟩) ?_ ?_
      · rintro i x y Tt σ H3 hx' hy' ⟨ds1, ds2, sx2, l, sk2, us, wt, v2, v3, v4, v5, v6, eds, el1, rfl, eL3, gE, etx, gS, s03, hb3⟩ hTt
        obtain ⟨slot, hslot, rfl⟩ := map_get hx'
        obtain ⟨hi, hslot'⟩ := List.getElem?_eq_some_iff.mp hslot
        rw [List.drop_eq_getElem_cons hi, hslot'] at gS
        obtain ⟨d0', hd0, dy⟩ := hB.get hy'
        refine ⟨Tt, _, rfl, SqT.of upd_same, rfl, _, _, rfl, _, _, rfl, rfl, ?_⟩
        have s34 := Same.trans s03 (same_new (o := .tup [V.str slot, y]) hTt)
        have hb4 := sqT_same (same_new (o := .tup [V.str slot, y]) hTt) hb3
        have eL4 : (upd H3 Tt (.tup [V.str slot, y])) L = some (.lst (V.str "(" :: us)) := same_new hTt _ _ eL3
        generalize (upd H3 Tt (.tup [V.str slot, y])) = H4 at s34 hb4 eL4
        have ltx : l.length ≤ 1000000 := by
          have e := congrArg List.length etx
          rw [List.length_append] at e
          simp only [List.length_cons] at e hx
          omega
        have lus := spell_len gE ltx
        cases gS with
        | @cons _ _ d0 ds2 tx0 sx2 tk0 sk2 hR hF hr' =>
          have ed : d0' = d0 := by
            rw [eds, List.getElem?_append_right (by omega), el1, Nat.sub_self] at hd0
            exact (Option.some.inj hd0).symm
          subst ed
          -- the turn's end
          have fin : ∀ (zs : List V) (w9 : Nat) (H9 : Hp) (u4 u5 u6 : Option V), Same H H9 → SqT K H9 b ys → H9 L = some (.lst (V.str "(" :: (us ++ zs))) → Els K N H0 zs tx0 w9 →
              SpI K N H0 H b ys sl ds (s :: sx) kd t L (i + 1) [some (V.ref t), some (.ref L), some (.str slot), some y, u4, u5, u6] H9 := fun zs w9 H9 u4 u5 u6 sa sb e9 gz =>
            ⟨ds1 ++ [d0'], ds2, sx2, l ++ tx0, sk2, us ++ zs, wt + w9, _, _, _, _, _, by rw [eds, List.append_assoc]; rfl, by rw [List.length_append, el1]; rfl, rfl, e9, gE.app gz, by rw [etx, List.append_assoc], hr', sa, sb⟩
          -- an extension
          have ext : ∀ (b9 : Addr) (zs : List V) (l9 : List Nat) (w9 : Nat) (H9 : Hp) (u4 u5 u6 : Option V), Same H H9 → SqT K H9 b ys → H9 L = some (.lst (V.str "(" :: us)) → H9 b9 = some (.lst zs) → Els K N H0 zs l9 w9 → l9 = tx0 → zs.length ≤ 1000 →
              rExtend (V.ref L) [V.ref b9] H9 fun _ H8 => SpI K N H0 H b ys sl ds (s :: sx) kd t L (i + 1) [some (V.ref t), some (.ref L), some (.str slot), some y, u4, u5, u6] H8 := by
            intro b9 zs l9 w9 H9 u4 u5 u6 sa sb e9 eb gz el9 lz
            subst el9
            refine ⟨L, b9, _, zs, rfl, rfl, e9, eb, ?_, fin zs w9 _ _ _ _ (Same.mut sa hL) (Ts.put e9 _ _ sb) upd_same gz⟩
            rw [List.length_cons]
            exact le_line (by omega)
          cases hR with
          | name hz =>
            refine ⟨_, rfl, rfl, _, rfl, iteSF (by decide +kernel) ⟨_, rfl, rfl, _, rfl, iteSF (by decide +kernel) ⟨_, rfl, rfl, _, rfl, iteSF (by decide +kernel) ?_⟩⟩⟩
            cases dy.strInv
            refine ⟨_, rfl, .inl ⟨rfl, _, SqL.of eL4⟩, _, rfl, le_line (by show 2 ≤ 16000000; decide), fun b9 hb9 => ?_⟩
            exact ext b9 _ _ _ _ _ _ _ (s34.trans (same_new hb9)) (sqT_same (same_new hb9) hb4) (same_new hb9 _ _ eL4) upd_same (.str (z := " ") (by decide) (el_name hz)) rfl (by show 2 ≤ 1000; decide)
          | term hz =>
            refine ⟨_, rfl, rfl, _, rfl, iteSF (by decide +kernel) ⟨_, rfl, rfl, _, rfl, iteSF (by decide +kernel) ⟨_, rfl, rfl, _, rfl, iteSF (by decide +kernel) ?_⟩⟩⟩
            refine ⟨_, rfl, .inl ⟨rfl, _, SqL.of eL4⟩, _, rfl, le_line (by show 2 ≤ 16000000; decide), fun b9 hb9 => ?_⟩
            exact ext b9 _ _ _ _ _ _ _ (s34.trans (same_new hb9)) (sqT_same (same_new hb9) hb4) (same_new hb9 _ _ eL4) upd_same (.str (z := " ") (by decide) (.trm dy hz .nil)) (by simp; rfl) (by show 2 ≤ 1000; decide)
          | kind hz =>
            refine ⟨_, rfl, rfl, _, rfl, iteST rfl ?_⟩
            refine ⟨_, rfl, .inl ⟨rfl, _, SqL.of eL4⟩, _, rfl, N, _, _, rfl, dy.same (s0.trans s34), hz, fun H5 s5 => ⟨le_line (by show 2 ≤ 16000000; decide), fun b9 hb9 => ?_⟩⟩
            have s6 := s5.trans (same_new (o := .lst [V.str " ", .str ⟨(ktL 6 d0').toArray⟩]) hb9)
            refine ext b9 _ _ _ _ _ _ _ (s34.trans s6) (sqT_same s6 hb4) (s6 _ _ eL4) upd_same (.str (z := " ") (by decide) (.str (z := ⟨(ktL 6 d0').toArray⟩) ?_ .nil)) ?_ (by show 2 ≤ 1000; decide)
            · rw [len_mk]
              have := toks_some hz
              cases e : ktL 6 d0' with
              | nil =>
                exfalso
                obtain ⟨q, z⟩ := tfold hz []
                rw [e] at z
                injection z with z
                exact this z.symm
              | cons a b => simp
            · rw [str_mk]
              simp
              rfl
          | @terms ts tx0 tk0 m0 h4 hz =>
            refine ⟨_, rfl, rfl, _, rfl, iteSF (by decide +kernel) ⟨_, rfl, rfl, _, rfl, iteST rfl ?_⟩⟩
            obtain ⟨ta, zs, rfl, hTa, hAa⟩ := dy.tupInv
            have hTa4 := sqT_same (s0.trans s34) hTa
            have hlz := hAa.length
            refine ⟨_, rfl, ta, rfl, ⟨_, hTa4⟩, for_tup (K := K) (xs := zs) (fun j σ H' => ∃ (ts1 ts2 : List PyData) (l' sx' : List Nat) (sk' : List (List Nat)) (m' w' : Nat) (us' : List V) (u4 : Option V), ts = ts1 ++ ts2 ∧ ts1.length = j ∧ us'.length = 2 * j ∧ σ = [some (.ref t), some (.ref L), some (.str (sg "terms")), some (.ref ta), u4, v5, v6] ∧
              H' L = some (.lst (V.str "(" :: (us ++ us'))) ∧ Els K N H0 us' l' w' ∧ tx0 = l' ++ sx' ∧ TS kd ts2 sx' sk' m' ∧ Same H H' ∧ SqT K H' b ys) ⟨[], ts, [], tx0, tk0, m0, 0, [], v4, rfl, rfl, rfl, rfl, by rw [List.append_nil]; exact eL4, .nil, rfl, hz, s34, hb4⟩ (fun j σ H' _ ⟨_, _, _, _, _, _, _, _, _, _, _, _, _, _, _, _, _, s9, _⟩ => sqT_same (s0.trans s9) hTa) ?_ ?_⟩
            · rintro j o σ H5 ho ⟨ts1, ts2, l', sx', sk', m', w', us', u4, ets, et1, lus', rfl, eL5, gE5, etx5, hTS, s05, hb5⟩
              obtain ⟨d1, hd1, dd1⟩ := hAa.get ho
              have hj : j < ts.length := (List.getElem?_eq_some_iff.mp hd1).1
              cases hTS with
              | nil =>
                rw [ets, List.append_nil] at hj
                omega
              | @cons _ _ _ t1 ts2 tx1 sx1 tk1 sk1 h1 hr1 =>
                have e1 : d1 = t1 := by
                  rw [ets, List.getElem?_append_right (by omega), et1, Nat.sub_self] at hd1
                  exact (Option.some.inj hd1).symm
                subst e1
                refine ⟨_, rfl, .inl ⟨rfl, _, SqL.of eL5⟩, _, rfl, le_line (by show 2 ≤ 16000000; decide), fun b9 hb9 => ?_⟩
                refine ⟨L, b9, _, _, rfl, rfl, same_new hb9 _ _ eL5, upd_same, ?_, ts1 ++ [d1], ts2, l' ++ (32 :: tx1), sx1, sk1, _, w' + (1 + (2 * tx1.length + 0)), us' ++ [V.str " ", o], _, by rw [ets, List.append_assoc]; rfl, by rw [List.length_append, et1]; rfl, by rw [List.length_append, lus']; rfl, rfl, ?_, ?_, ?_, hr1, Same.mut (s05.trans (same_new hb9)) hL, ?_⟩
                · rw [List.length_cons, List.length_append]
                  exact le_line (by show us.length + us'.length + 1 + 2 ≤ 16000000; omega)
                · rw [upd_same, List.cons_append, List.append_assoc]
                · have g := gE5.app (Els.str (z := " ") (by decide) (.trm dd1 h1 .nil))
                  rw [List.append_nil] at g
                  exact g
                · rw [etx5, List.append_assoc]
                  rfl
                · exact Ts.put (same_new hb9 _ _ eL5) _ _ (sqT_same (same_new hb9) hb5)
            · rintro σ H5 ⟨ts1, ts2, l', sx', sk', m', w', us', u4, ets, et1, lus', rfl, eL5, gE5, etx5, hTS, s05, hb5⟩
              have e0 : ts2 = [] := by
                have e := congrArg List.length ets
                rw [List.length_append] at e
                exact List.length_eq_zero_iff.mp (by omega)
              subst e0
              cases hTS
              rw [List.append_nil] at etx5
              subst etx5
              exact fin us' w' H5 _ _ _ s05 hb5 eL5 gE5
          | @cases ts tx0 tk0 m0 h1c h6 hz =>
            refine ⟨_, rfl, rfl, _, rfl, iteSF (by decide +kernel) ⟨_, rfl, rfl, _, rfl, iteSF (by decide +kernel) ⟨_, rfl, rfl, _, rfl, iteST rfl ?_⟩⟩⟩
            obtain ⟨ta, zs, rfl, hTa, hAa⟩ := dy.tupInv
            have hTa4 := sqT_same (s0.trans s34) hTa
            have hlz := hAa.length
            refine ⟨_, rfl, ta, rfl, ⟨_, hTa4⟩, for_tup (K := K) (xs := zs) (fun j σ H' => ∃ (ts1 ts2 : List PyData) (l' sx' : List Nat) (sk' : List (List Nat)) (m' w' : Nat) (us' : List V) (u4 u5 u6 : Option V), ts = ts1 ++ ts2 ∧ ts1.length = j ∧ us'.length = 5 * j ∧ σ = [some (.ref t), some (.ref L), some (.str (sg "cases")), some (.ref ta), u4, u5, u6] ∧
              H' L = some (.lst (V.str "(" :: (us ++ us'))) ∧ Els K N H0 us' l' w' ∧ tx0 = l' ++ sx' ∧ TC kd ts2 sx' sk' m' ∧ Same H H' ∧ SqT K H' b ys) ⟨[], ts, [], tx0, tk0, m0, 0, [], v4, v5, v6, rfl, rfl, rfl, rfl, by rw [List.append_nil]; exact eL4, .nil, rfl, hz, s34, hb4⟩ (fun j σ H' _ ⟨_, _, _, _, _, _, _, _, _, _, _, _, _, _, _, _, _, _, _, s9, _⟩ => sqT_same (s0.trans s9) hTa) ?_ ?_⟩
            · rintro j o σ H5 ho ⟨ts1, ts2, l', sx', sk', m', w', us', u4, u5, u6, ets, et1, lus', rfl, eL5, gE5, etx5, hTS, s05, hb5⟩
              obtain ⟨d1, hd1, dd1⟩ := hAa.get ho
              have hj : j < ts.length := (List.getElem?_eq_some_iff.mp hd1).1
              cases hTS with
              | nil =>
                rw [ets, List.append_nil] at hj
                omega
              | @cons _ _ _ c xs' u cs' ux cx uk ck hc hl hxs hu h1 hr1 =>
                have e1 : d1 = .tuple [.str c, .tuple (xs'.map strD), u] := by
                  rw [ets, List.getElem?_append_right (by omega), et1, Nat.sub_self] at hd1
                  exact (Option.some.inj hd1).symm
                subst e1
                obtain ⟨t3, x3, y3, z3, rfl, hT3, g1, g2, g3⟩ := dd1.tup3
                cases g1.strInv
                obtain ⟨tn, rfl, hTn⟩ := g2.names
                have s5 := s0.trans s05
                refine ⟨t3, _, rfl, sqT_same s5 hT3, rfl, _, _, rfl, _, _, rfl, _, _, rfl, rfl, ?_⟩
                refine ⟨_, rfl, .inl ⟨rfl, _, SqL.of eL5⟩, ?_⟩
                refine ⟨⟨_, rfl⟩, _, rfl, _, rfl, tn, _, rfl, .inl (sqT_same s5 hTn), le_line (by rw [List.length_cons, List.length_append, List.length_map]; show xs'.length + 0 + 1 ≤ 16000000; omega), fun q hq => ?_⟩
                have lc8 := (nm_cases hc).2.1
                have lx8 : (xs'.map (·.length)).sum ≤ 32 := by
                  have : ∀ (zs : List Str), (∀ x ∈ zs, isNameD (.str x) = true) → (zs.map (·.length)).sum ≤ 8 * zs.length := by
                    intro zs hz
                    induction zs with
                    | nil => exact Nat.le_refl _
                    | cons z zs ih =>
                      have a := (nm_cases (hz z (List.mem_cons_self ..))).2.1
                      have b := ih fun y hy => hz y (List.mem_cons_of_mem _ hy)
                      rw [List.map_cons, List.sum_cons, List.length_cons]
                      omega
                  have := this xs' hxs
                  omega
                have ej := join_sp c xs'
                refine ⟨" ", q, c :: xs', rfl, rfl, .inl (SqL.of (by rw [upd_same, List.append_nil]; rfl)), ?_, ?_⟩
                · show c.length + (xs'.map (·.length)).sum + (xs'.length + 1) * 1 ≤ 16777216
                  omega
                generalize Txt.join " " (c :: xs') = J at ej
                refine ⟨_, rfl, le_line (by show 5 ≤ 16000000; decide), fun b9 hb9 => ?_⟩
                have s6 := (same_new (o := .lst ([V.str c] ++ (xs'.map V.str ++ []))) hq).trans (same_new (o := .lst [V.str " (", .str J, .str " : ", z3, .str ")"]) hb9)
                have hJ : 1 ≤ J.length := by
                  have e := congrArg List.length ej
                  have e2 : (nmL J).length = J.length := rfl
                  have e3 : (nmL c).length = c.length := rfl
                  rw [List.length_append, e2, e3] at e
                  have := (nm_cases hc).1
                  omega
                refine ⟨L, b9, _, _, rfl, rfl, s6 _ _ eL5, upd_same, ?_, ts1 ++ [_], cs', l' ++ (32 :: 40 :: (nmL J ++ 32 :: 58 :: 32 :: (ux ++ [41]))), cx, ck, _, w' + (2 + (J.length + (3 + (2 * ux.length + (1 + 0))))), us' ++ [V.str " (", .str J, .str " : ", z3, .str ")"], _, _, _, by rw [ets, List.append_assoc]; rfl, by rw [List.length_append, et1]; rfl, by rw [List.length_append, lus']; show 5 * j + 5 = 5 * (j + 1); omega, rfl, ?_, ?_, ?_, hr1, Same.mut (s05.trans s6) hL, ?_⟩
                · rw [List.length_cons, List.length_append]
                  exact le_line (by show us.length + us'.length + 1 + 5 ≤ 16000000; omega)
                · rw [upd_same, List.cons_append, List.append_assoc]
                · have g := gE5.app (Els.str (z := " (") (by decide) (Els.str hJ (Els.str (z := " : ") (by decide) (.trm g3 h1 (Els.str (z := ")") (by decide) .nil)))))
                  exact g
                · rw [etx5, ej, List.append_assoc]
                  simp
                · exact Ts.put (s6 _ _ eL5) _ _ (sqT_same s6 hb5)
            · rintro σ H5 ⟨ts1, ts2, l', sx', sk', m', w', us', u4, u5, u6, ets, et1, lus', rfl, eL5, gE5, etx5, hTS, s05, hb5⟩
              have e0 : ts2 = [] := by
                have e := congrArg List.length ets
                rw [List.length_append] at e
                exact List.length_eq_zero_iff.mp (by omega)
              subst e0
              cases hTS
              rw [List.append_nil] at etx5
              subst etx5
              exact fin us' w' H5 _ _ _ s05 hb5 eL5 gE5
      · rintro σ H3 ⟨ds1, ds2, sx2, l, sk2, us, wt, v2, v3, v4, v5, v6, eds, el1, rfl, eL3, gE, etx, gS, s03, hb3⟩
        rw [List.length_map, List.drop_eq_nil_of_le (Nat.le_refl _)] at gS
        have e41 : sx2 = [41] := by
          cases gS
          rfl
        subst e41
        have lE := gE.le
        have ltx : l.length + 1 = sx.length + 1 := by
          have e := congrArg List.length etx
          rw [List.length_append] at e
          exact e.symm
        have l1 : us.length ≤ 2000000 := spell_len gE (by simp only [List.length_cons] at hx; omega)
        refine ⟨_, rfl, .inl ⟨rfl, _, SqL.of eL3⟩, L, _, _, rfl, rfl, eL3, lt_line (by rw [List.length_cons]; omega), ?_⟩
        refine ⟨_, rfl, k L (V.str "(" :: (us ++ [.str ")"])) (1 + (wt + (1 + 0))) _ (Same.mut s03 hL) hL upd_same ?_ ?_⟩
        · have g2 := gE.app (Els.str (z := ")") (by decide) .nil)
          have g3 := Els.str (z := "(") (by decide) g2
          rw [etx]
          exact g3
        · simp only [List.length_cons]
          omega
end

section
variable {P : Program} {w : World} {K : PySem.W.Frag} {mg : Str → Option Value} {base : Heap} {C : Addr}
theorem ok_text_with (D : DefAt K mg "text_with" s_text_with ["term", "unshown"]) (T : Bl mg) (C_spelled : CallOk P w K mg base 8 "spelled" ["term"] (spSpelled K)) : CallOk P w K mg base 9 "text_with" ["term", "unshown"] (spTextWith K) := by
  refine D.ok sc_text_with (fun vs H Q E h => ?_) (fun f cdv A outer s H vs Q E hr h => ?_)
  · obtain ⟨N, v, u, kd, d, tx, tk, m, rfl, _⟩ := h
    rfl
  · obtain ⟨N, v, u, kd, d, tx, tk, m, rfl, hd, hT, hx, k⟩ := h
    refine ⟨_, (pss_cons (ps_set (i := 2) sc_text_with.nd rfl (Or.inl rfl) (pe_lst pa_nil))
        (pss_cons (ps_set (i := 3) sc_text_with.nd rfl (Or.inl rfl) (pe_lst (pa_cons (pv 0) pa_nil)))
        (pss_cons (ps_while PassesOwn.never (pt_truth (pv 3) (by intro _; rfl)) (pss_cons (ps_set (i := 4) sc_text_with.nd rfl (Or.inl rfl) (pe_bm0 PySem.F.plainAttrs_list PySem.F.slot_list_pop PySem.F.type_list_pop mt_pop (pv 3)))
        (pss_one (ps_if (pt_cmpR op_isN (pv 4) pe_non (nomark _)) (pss_one (ps_expr (pe_bm PySem.F.plainAttrs_list PySem.F.slot_list_append PySem.F.type_list_append mt_append (pv 2) (pa_cons (pv 1) pa_nil)))) (pss_one (ps_if (pt_val (pe_callB call_isD (by rfl) T.isinstance_ (by decide +kernel) (pa_cons (pv 4) (pa_cons (pe_bltn (v := .ty "str") (by rfl) T.str_ (by decide +kernel) rfl) pa_nil)))) (pss_one (ps_expr (pe_bm PySem.F.plainAttrs_list PySem.F.slot_list_append PySem.F.type_list_append mt_append (pv 2) (pa_cons (pv 4) pa_nil)))) (pss_one (ps_expr (pe_bm PySem.F.plainAttrs_list PySem.F.slot_list_extend PySem.F.type_list_extend mt_extend (pv 3) (pa_cons (pe_revL (pe_callOk C_spelled hr (by omega) (by rfl) (pa_cons (pv 4) pa_nil))) pa_nil))))))))))
        (pss_one (ps_ret (pe_join pe_str (pv 2))))))), ?_⟩
    refine ⟨Nat.zero_le _, fun L hL => ?_⟩
    have sL : Same H (upd H L (.lst [])) := same_new hL
    have eL0 : (upd H L (.lst [])) L = some (.lst ([] : List V)) := upd_same
    refine ⟨_, rfl, le_line (by show 1 ≤ 16000000; decide), fun R hR => ?_⟩
    have nLR : L ≠ R := ne_of_none eL0 hR
    have hR0 : H R = none := none_same sL hR
    refine ⟨fun wt σ H' => ∃ (ts : List Str) (us : List V) (l : List Nat) (v4 : Option V), σ = [some v, some (.str u), some (.ref L), some (.ref R), v4] ∧ H' L = some (.lst (ts.map V.str)) ∧ H' R = some (.lst us.reverse) ∧ Els K N H us l wt ∧ tx = ts.flatMap nmL ++ l ∧ ts.length ≤ (ts.flatMap nmL).length ∧ Same H H',
      ⟨_, [], [v], tx, none, rfl, same_new hR _ _ eL0, upd_same, by have g := Els.trm hd hT (Els.nil (K := K) (N := N) (H0 := H)); rw [List.append_nil] at g; exact g, rfl, Nat.le_refl _, sL.trans (same_new hR)⟩, ?_⟩
    rintro wt σ H1 ⟨ts, us, l, v4, rfl, eL, eR, gE, etx, lts, s1⟩
    have ltx := congrArg List.length etx
    rw [List.length_append] at ltx
    refine ⟨_, rfl, !us.reverse.isEmpty, .inl ⟨_, SqL.of eR, rfl⟩, ?_⟩
    cases gE with
    | nil =>
      refine iteFx rfl ?_
      rw [List.append_nil] at etx
      refine ⟨⟨_, rfl⟩, _, rfl, "", L, ts, rfl, rfl, .inl (SqL.of eL), ?_, ?_⟩
      · rw [sum_flat]
        have e0 : (("" : Str)).length = 0 := rfl
        rw [e0, Nat.mul_zero]
        omega
      · have e : Txt.join "" ts = ⟨tx.toArray⟩ := str_ext (by
          have := join_all ts
          rw [← etx] at this
          exact this.trans (str_mk tx).symm)
        rw [e]
        exact k H1 s1
    | @str z us l wt hz r =>
      rw [List.reverse_cons] at eR ⊢
      refine iteTx (by simp) ?_
      refine ⟨_, fun _ _ h => h, ?_⟩
      refine ⟨_, rfl, .inl ⟨rfl, _, SqL.of eR⟩, R, us.reverse ++ [.str z], .str z, rfl, rfl, eR, by simp, ?_⟩
      rw [List.dropLast_concat]
      have eL2 : (upd H1 R (.lst us.reverse)) L = some (.lst (ts.map V.str)) := by rw [upd_ne nLR]; exact eL
      have eR2 : (upd H1 R (.lst us.reverse)) R = some (.lst us.reverse) := upd_same
      have s2 : Same H (upd H1 R (.lst us.reverse)) := Same.mut s1 hR0
      generalize (upd H1 R (.lst us.reverse)) = H2 at eL2 eR2 s2
      refine ⟨_, rfl, rfl, _, rfl, iteFx (by simp) ?_⟩
      refine ⟨_, rfl, N, .str z, .str z, "str", rfl, .str z, .inl rfl, _, rfl, iteTx (by simp [tyD]) ?_⟩
      have e1 : (nmL z).length = z.length := rfl
      refine ⟨_, rfl, .inl ⟨rfl, _, SqL.of eL2⟩, _, rfl, L, _, _, rfl, rfl, eL2, lt_line (by rw [List.length_map]; rw [List.length_append, e1] at ltx; omega), ?_⟩
      refine ⟨wt, by omega, ts ++ [z], us, l, _, rfl, ?_, ?_, r, ?_, ?_, Same.mut s2 hL⟩
      · rw [upd_same, List.map_append]
        rfl
      · rw [upd_ne nLR.symm]
        exact eR2
      · rw [etx, List.flatMap_append, List.append_assoc]
        simp
      · rw [List.flatMap_append, List.length_append, List.length_append]
        simp only [List.flatMap_cons, List.flatMap_nil, List.append_nil, List.length_cons, List.length_nil]
        omega
    | @trm v1 k1 d1 tx1 tk1 m1 us l wt hd1 hT1 r =>
      rw [List.reverse_cons] at eR ⊢
      refine iteTx (by simp) ?_
      refine ⟨_, fun _ _ h => h, ?_⟩
      refine ⟨_, rfl, .inl ⟨rfl, _, SqL.of eR⟩, R, us.reverse ++ [v1], v1, rfl, rfl, eR, by simp, ?_⟩
      rw [List.dropLast_concat]
      have eL2 : (upd H1 R (.lst us.reverse)) L = some (.lst (ts.map V.str)) := by rw [upd_ne nLR]; exact eL
      have eR2 : (upd H1 R (.lst us.reverse)) R = some (.lst us.reverse) := upd_same
      have s2 : Same H (upd H1 R (.lst us.reverse)) := Same.mut s1 hR0
      generalize (upd H1 R (.lst us.reverse)) = H2 at eL2 eR2 s2
      refine ⟨_, rfl, rfl, _, rfl, iteFx (decide_eq_false (tt_not_none hT1 hd1)) ?_⟩
      refine ⟨_, rfl, N, v1, d1, "str", rfl, hd1.same s2, .inl rfl, _, rfl, ?_⟩
      have p1 := tt_pos hT1
      rcases tt_ty hT1 with ⟨z, rfl, rfl, hz⟩ | hty
      · refine iteTx (by simp [tyD]) ?_
        cases hd1.strInv
        have e1 : (nmL z).length = z.length := rfl
        refine ⟨_, rfl, .inl ⟨rfl, _, SqL.of eL2⟩, _, rfl, L, _, _, rfl, rfl, eL2, lt_line (by rw [List.length_map]; omega), ?_⟩
        refine ⟨wt, by omega, ts ++ [z], us, l, _, rfl, ?_, ?_, r, ?_, ?_, Same.mut s2 hL⟩
        · rw [upd_same, List.map_append]
          rfl
        · rw [upd_ne nLR.symm]
          exact eR2
        · rw [etx, List.flatMap_append, List.append_assoc]
          simp
        · rw [List.flatMap_append, List.length_append, List.length_append]
          simp only [List.flatMap_cons, List.flatMap_nil, List.append_nil, List.length_cons, List.length_nil]
          omega
      · refine iteFx (decide_eq_false hty) ?_
        rw [List.length_append] at ltx
        refine ⟨_, rfl, .inl ⟨rfl, _, SqL.of eR2⟩, _, rfl, N, H, v1, k1, d1, tx1, tk1, m1, rfl, s2, hd1, hT1, hty, by omega, fun B bs w3 H3 s3 hB eB gB hw => ?_⟩
        refine ⟨B, bs, rfl, SqL.of eB, fun q hq => ?_⟩
        have s4 := s3.trans (same_new (o := .lst bs.reverse) hq)
        have lb := gB.le
        have lr := r.le
        refine ⟨R, q, _, _, rfl, rfl, s4 _ _ eR2, upd_same, le_line (by rw [List.length_reverse, List.length_reverse]; omega), ?_⟩
        refine ⟨w3 + wt, by omega, ts, bs ++ us, tx1 ++ l, _, rfl, ?_, ?_, gB.app r, etx, lts, Same.mut (s2.trans s4) hR0⟩
        · rw [upd_ne nLR]
          exact s4 _ _ eL2
        · rw [upd_same, List.reverse_append]
theorem ok_term_text (D : DefAt K mg "term_text" s_term_text ["term"]) (C_text_with : CallOk P w K mg base 9 "text_with" ["term", "unshown"] (spTextWith K)) : CallOk P w K mg base 10 "term_text" ["term"] (spTText K) := by
  refine D.ok sc_term_text (fun vs H Q E h => ?_) (fun f cdv A outer s H vs Q E hr h => ?_)
  · obtain ⟨N, v, kd, d, tx, tk, m, rfl, _⟩ := h
    rfl
  · obtain ⟨N, v, kd, d, tx, tk, m, rfl, hd, hT, hx, k⟩ := h
    refine ⟨_, (pss_one (ps_ret (pe_callOk C_text_with hr (by omega) (by rfl) (pa_cons (pv 0) (pa_cons pe_str pa_nil))))), ?_⟩
    exact ⟨_, rfl, N, v, _, kd, d, tx, tk, m, rfl, hd, hT, hx, k⟩
end

section
variable {P : Program} {w : World} {K : PySem.W.Frag} {mg : Str → Option Value} {base : Heap} {C : Addr}
theorem ok_brackN (D : DefAt K mg "bracketed" s_bracketed ["words"]) (T : Bl mg) : CallOk P w K mg base 1 "bracketed" ["words"] spBrackN := by
  refine D.ok sc_bracketed (fun vs H Q E h => ?_) (fun f cdv A outer s H vs Q E hr h => ?_)
  · obtain ⟨p, a, bs, rfl, _⟩ := h
    rfl
  · obtain ⟨p, a, bs, rfl, hp, hl, k⟩ := h
    refine ⟨_, (pss_one (ps_ret (pe_op opAdd (pe_op opAdd pe_str (pe_join pe_str (pv 0))) pe_str))), ?_⟩
    have lb := bl_len bs
    refine ⟨⟨_, rfl⟩, _, rfl, " ", p, a :: bs, rfl, rfl, .inl (SqL.of hp), ?_, ?_⟩
    · show a.length + (bs.map (·.length)).sum + (bs.length + 1) * 1 ≤ 16777216
      omega
    have lj := join_len a bs
    have e1 : (nmL a).length = a.length := rfl
    refine .inr (.inl ⟨_, _, rfl, rfl, le_line (by show 1 + (Txt.join " " (a :: bs)).length ≤ 16000000; omega), .inr (.inl ⟨_, _, rfl, rfl, le_line (by rw [app_len]; show 1 + (Txt.join " " (a :: bs)).length + 1 ≤ 16000000; omega), ?_⟩)⟩)
    rw [brack_gen]
    exact k
theorem ok_data_text (D : DefAt K mg "data_text" s_data_text ["name", "makers"]) (T : Bl mg) (C_bracketed : CallOk P w K mg base 1 "bracketed" ["words"] spBrackN) : CallOk P w K mg base 2 "data_text" ["name", "makers"] (spDText K) := by
  refine D.ok sc_data_text (fun vs H Q E h => ?_) (fun f cdv A outer s H vs Q E hr h => ?_)
  · obtain ⟨N, d, t, us, ms, rfl, _⟩ := h
    rfl
  · obtain ⟨N, d, t, us, ms, rfl, hT, hA, hms, hl, hd, k⟩ := h
    refine ⟨_, (pss_one (ps_ret (pe_callOk C_bracketed hr (by omega) (by rfl) (pa_cons (pe_op opAdd (pe_lst (pa_cons pe_str (pa_cons (pv 0) pa_nil))) (pe_lc (own := [("maker", 2), ("fields", 3)]) (g := (gTup K 2 (gCons (gName 2) (gCons (gName 3) gNil)))) (tt := tYes) rfl sc_data_text.nd (pi_tup (pv 1)) (blkOk_by (N := sl_data_text) (sc := defScope s_data_text) (by decide +kernel)) (fun _ _ _ _ _ => (pg_tup rfl (pgs_cons (pg_name (i := 2) sc_data_text.nd rfl (Or.inl rfl) (by first | exact .inl rfl | exact .inr rfl)) (pgs_cons (pg_name (i := 3) sc_data_text.nd rfl (Or.inl rfl) (by first | exact .inl rfl | exact .inr rfl)) pgs_nil)))) (fun _ _ _ _ _ => pts_nil) (fun _ _ _ _ _ => (pe_callOk C_bracketed hr (by omega) (by rfl) (pa_cons (pe_lst (pa_cons (pv 2) (pa_starK (K := K) rfl (pv 3) pa_nil))) pa_nil))))) pa_nil)))), ?_⟩
    have hlu := hA.length
    rw [List.length_map] at hlu
    refine ⟨_, rfl, le_line (by show 2 ≤ 16000000; decide), fun q hq => ?_⟩
    have sq : Same H (upd H q (.lst [V.str "=", .str d])) := same_new hq
    refine ⟨_, rfl, t, rfl, ⟨_, sqT_same sq hT⟩, fun L hL => ?_⟩
    refine lc_tup (K := K) (xs := us) (fun i H' => ∃ bits : List Str, bits = (ms.take i).map (fun m => (⟨(mkTx m).toArray⟩ : Str)) ∧ H' L = some (.lst (bits.map V.str)) ∧ Same (upd H q (.lst [V.str "=", .str d])) H') ⟨[], rfl, upd_same, same_new hL⟩ (fun i H' _ ⟨_, _, _, s9⟩ => sqT_same (sq.trans s9) hT) ?_ ?_
    · rintro i o H1 ho ⟨bits, ebits, eL, s1⟩
      obtain ⟨d1, hd1, dd1⟩ := hA.get ho
      obtain ⟨m, hm, rfl⟩ := map_get hd1
      have hmo := hms m (List.mem_of_getElem? hm)
      have hi : i < ms.length := (List.getElem?_eq_some_iff.mp hm).1
      obtain ⟨t1, t2, rfl, hT1, hT2⟩ := dd1.mk
      have s01 := sq.trans s1
      refine ⟨t1, _, rfl, sqT_same s01 hT1, rfl, _, _, rfl, _, _, rfl, rfl, rfl, ?_⟩
      simp only [tYes, if_true]
      refine ⟨_, rfl, _, rfl, t2, _, rfl, .inl (sqT_same s01 hT2), le_line (by rw [List.length_cons, List.length_append, List.length_map]; have := hmo.len; show m.2.length + 0 + 1 ≤ 16000000; omega), fun q2 hq2 => ?_⟩
      have lb := bl_names8 hmo.all
      have l8 := (nm_cases hmo.nm).2.1
      have l4 := hmo.len
      refine ⟨q2, m.1, m.2, rfl, by rw [upd_same, List.append_nil]; rfl, by omega, ?_⟩
      have sn := same_new (H := H1) (o := .lst (V.str m.1 :: (m.2.map V.str ++ []))) hq2
      refine ⟨_, sn _ _ eL, lt_line (by rw [ebits, List.length_map, List.length_map, List.length_take]; omega), bits ++ [⟨(mkTx m).toArray⟩], ?_, ?_, Same.mut (s1.trans sn) hL⟩
      · rw [List.take_add_one, hm, List.map_append, ebits]
        rfl
      · rw [upd_same, List.map_append]
        rfl
    · rintro H1 ⟨bits, ebits, eL, s1⟩
      rw [List.take_of_length_le (by omega)] at ebits
      have lms := mksTx_len hms
      have ebl := bl_flat ms
      rw [← ebits] at ebl
      have l8 := (nm_cases hd).2.1
      have lbits : bits.length ≤ 6 := by
        rw [ebits, List.length_map]
        exact hl
      refine .inr (.inr (.inr ⟨q, L, _, _, rfl, rfl, s1 _ _ upd_same, eL, le_line (by rw [List.length_map]; show 2 + bits.length ≤ 16000000; omega), fun p hp => ?_⟩))
      refine ⟨p, "=", d :: bits, rfl, upd_same, ?_, ?_⟩
      · have e1 : (Str.ofString "=").length = 1 := rfl
        have e2 : (nmL d).length = d.length := rfl
        rw [bl_cons, List.length_cons, List.length_append, ebl, e1]
        omega
      · have z := k _ ((sq.trans s1).trans (same_new (o := .lst ([V.str "=", .str d] ++ bits.map V.str)) hp))
        rw [dtTx_bl, ← ebits] at z
        exact z
theorem ok_program_text (D : DefAt K mg "program_text" s_program_text ["program"]) (T : Bl mg) (C_bracketed : CallOk P w K mg base 1 "bracketed" ["words"] spBrackN) (C_data_text : CallOk P w K mg base 2 "data_text" ["name", "makers"] (spDText K))
    (C_kind_text : CallOk P w K mg base 7 "kind_text" ["kind"] (spKText K 6)) (C_term_text : CallOk P w K mg base 10 "term_text" ["term"] (spTText K)) : CallOk P w K mg base 11 "program_text" ["program"] (spPText K) := by
  refine D.ok sc_program_text (fun vs H Q E h => ?_) (fun f cdv A outer s H vs Q E hr h => ?_)
  · obtain ⟨N, v, ps, ws, rfl, _⟩ := h
    rfl
  · obtain ⟨N, v, ps, ws, rfl, hd, hW, hsz, k⟩ := h
    refine ⟨_, (pss_cons (ps_asg (pv 0) (pg_tup rfl (pgs_cons (pg_name (i := 1) sc_program_text.nd rfl (Or.inl rfl) (by first | exact .inl rfl | exact .inr rfl)) (pgs_cons (pg_name (i := 2) sc_program_text.nd rfl (Or.inl rfl) (by first | exact .inl rfl | exact .inr rfl)) pgs_nil))))
        (pss_cons (ps_setLc (i := 3) (own := [("name", 4), ("makers", 5)]) (g := (gTup K 2 (gCons (gName 4) (gCons (gName 5) gNil)))) (tt := tYes) rfl sc_program_text.nd rfl rfl (sw_true rfl rfl rfl (by decide +kernel)) (pi_tup (pv 1)) (blkOk_by (N := sl_program_text) (sc := defScope s_program_text) (by decide +kernel)) (fun _ _ _ _ _ => (pg_tup rfl (pgs_cons (pg_name (i := 4) sc_program_text.nd rfl (Or.inl rfl) (by first | exact .inl rfl | exact .inr rfl)) (pgs_cons (pg_name (i := 5) sc_program_text.nd rfl (Or.inl rfl) (by first | exact .inl rfl | exact .inr rfl)) pgs_nil)))) (fun _ _ _ _ _ => pts_nil) (fun _ _ _ _ _ => (pe_callOk C_data_text hr (by omega) (by rfl) (pa_cons (pv 4) (pa_cons (pv 5) pa_nil)))))
        (pss_cons (ps_expr (pe_bm PySem.F.plainAttrs_list PySem.F.slot_list_extend PySem.F.type_list_extend mt_extend (pv 3) (pa_cons (pe_lc (own := [("name", 4), ("kind", 6), ("term", 7)]) (g := (gTup K 3 (gCons (gName 4) (gCons (gName 6) (gCons (gName 7) gNil))))) (tt := tYes) rfl sc_program_text.nd (pi_tup (pv 2)) (blkOk_by (N := sl_program_text) (sc := defScope s_program_text) (by decide +kernel)) (fun _ _ _ _ _ => (pg_tup rfl (pgs_cons (pg_name (i := 4) sc_program_text.nd rfl (Or.inl rfl) (by first | exact .inl rfl | exact .inr rfl)) (pgs_cons (pg_name (i := 6) sc_program_text.nd rfl (Or.inl rfl) (by first | exact .inl rfl | exact .inr rfl)) (pgs_cons (pg_name (i := 7) sc_program_text.nd rfl (Or.inl rfl) (by first | exact .inl rfl | exact .inr rfl)) pgs_nil))))) (fun _ _ _ _ _ => pts_nil) (fun _ _ _ _ _ => (pe_callOk C_bracketed hr (by omega) (by rfl) (pa_cons (pe_lst (pa_cons pe_str (pa_cons (pv 4) (pa_cons (pe_callOk C_kind_text hr (by omega) (by rfl) (pa_cons (pv 6) pa_nil)) (pa_cons (pe_callOk C_term_text hr (by omega) (by rfl) (pa_cons (pv 7) pa_nil)) pa_nil))))) pa_nil)))) pa_nil)))
        (pss_one (ps_ret (pe_join pe_str (pv 3))))))), ?_⟩
    obtain ⟨t, va, vb, rfl, hT, hda, hdb⟩ := Da.tup2 hd
    obtain ⟨ta, us, rfl, hTa, hA⟩ := hda.tupInv
    obtain ⟨tb, xs, rfl, hTb, hB⟩ := hdb.tupInv
    have hlu := hA.length
    have hlx := hB.length
    rw [List.length_map] at hlu hlx
    refine ⟨_, rfl, t, _, rfl, hT, rfl, _, _, rfl, _, _, rfl, rfl, ?_⟩
    have p6 := hW.p6
    have w16 := hW.w16
    refine ⟨_, rfl, ta, rfl, ⟨_, hTa⟩, fun L hL => ?_⟩
    refine lc_tup (K := K) (xs := us) (fun i H' => H' L = some (.lst ((txts ((ps.take i).map dtTx)).map V.str)) ∧ Same H H') ⟨upd_same, same_new hL⟩ (fun i H' _ ⟨_, s9⟩ => sqT_same s9 hTa) ?_ ?_
    · rintro i o H1 ho ⟨eL, s1⟩
      obtain ⟨d1, hd1, dd1⟩ := hA.get ho
      obtain ⟨p, hp, rfl⟩ := map_get hd1
      have hpo := hW.pok p (List.mem_of_getElem? hp)
      obtain ⟨t1, t2, us2, rfl, hT1, hT2, hA2⟩ := dd1.dt
      refine ⟨t1, _, rfl, sqT_same s1 hT1, rfl, _, _, rfl, _, _, rfl, rfl, rfl, ?_⟩
      simp only [tYes, if_true]
      refine ⟨_, rfl, _, rfl, N, p.1, t2, us2, p.2, rfl, sqT_same s1 hT2, hA2.same s1, hpo.all, hpo.len, hpo.nm, fun H2 s2 => ?_⟩
      refine ⟨_, s2 _ _ eL, lt_line (by rw [List.length_map, txts_len, List.length_map, List.length_take]; omega), ?_, Same.mut (s1.trans s2) hL⟩
      rw [upd_same, List.take_add_one, hp, List.map_append, txts_app, List.map_append]
      rfl
    · rintro H1 ⟨eL, s1⟩
      rw [List.take_of_length_le (by omega)] at eL
      refine ⟨_, rfl, .inl ⟨rfl, _, SqL.of eL⟩, _, rfl, tb, rfl, ⟨_, sqT_same s1 hTb⟩, fun M hM => ?_⟩
      refine lc_tup (K := K) (xs := xs) (fun i H' => H' M = some (.lst ((txts ((ws.take i).map dfTx)).map V.str)) ∧ Same H1 H') ⟨upd_same, same_new hM⟩ (fun i H' _ ⟨_, s9⟩ => sqT_same (s1.trans s9) hTb) ?_ ?_
      · rintro i o H2 ho ⟨eM, s2⟩
        obtain ⟨d1, hd1, dd1⟩ := hB.get ho
        obtain ⟨y, hy, rfl⟩ := map_get hd1
        have hyo := hW.wok y (List.mem_of_getElem? hy)
        obtain ⟨t1, x1, x2, x3, rfl, hT1, g1, g2, g3⟩ := Da.tup3 dd1
        cases g1.strInv
        have s12 := s1.trans s2
        have ltx : (dfTx y).length ≤ 200000 := by
          have := sumL_mem (ws := rowsTx ps ws) (w := dfTx y) (List.mem_append_right _ (List.mem_map_of_mem (List.mem_of_getElem? hy)))
          omega
        have lty : y.tx.length + 6 ≤ (dfTx y).length := by
          unfold dfTx
          simp only [List.length_cons, List.length_append, List.length_nil]
          omega
        refine ⟨t1, _, rfl, sqT_same s12 hT1, rfl, _, _, rfl, _, _, rfl, _, _, rfl, rfl, rfl, ?_⟩
        simp only [tYes, if_true]
        refine ⟨_, rfl, _, rfl, N, x2, y.k, rfl, g2.same s12, hyo.kd, fun H3 s3 => ?_⟩
        refine ⟨_, rfl, N, x3, 30, y.t, y.tx, y.tk, y.m, rfl, (g3.same s12).same s3, hyo.tt, by omega, fun H4 s4 => ?_⟩
        refine ⟨le_line (by show 4 ≤ 16000000; decide), fun q hq => ?_⟩
        refine ⟨q, "@", [y.f, ⟨(ktL 6 y.k).toArray⟩, ⟨y.tx.toArray⟩], rfl, upd_same, ?_, ?_⟩
        · have e := congrArg List.length (dfTx_bl y)
          simp only [List.length_cons, List.length_append, List.length_nil] at e
          have e1 : (Str.ofString "@").length = 1 := rfl
          rw [e1]
          omega
        · rw [← dfTx_bl]
          have s5 := (s3.trans s4).trans (same_new (o := .lst [V.str "@", .str y.f, .str ⟨(ktL 6 y.k).toArray⟩, .str ⟨y.tx.toArray⟩]) hq)
          refine ⟨_, s5 _ _ eM, lt_line (by rw [List.length_map, txts_len, List.length_map, List.length_take]; omega), ?_, Same.mut (s2.trans s5) hM⟩
          rw [upd_same, List.take_add_one, hy, List.map_append, txts_app, List.map_append]
          rfl
      · rintro H2 ⟨eM, s2⟩
        rw [List.take_of_length_le (by omega)] at eM
        refine ⟨L, M, _, _, rfl, rfl, s2 _ _ eL, eM, le_line (by rw [List.length_map, List.length_map, txts_len, txts_len, List.length_map, List.length_map]; omega), ?_⟩
        refine ⟨⟨_, rfl⟩, _, rfl, "\n", L, txts (rowsTx ps ws), rfl, rfl, .inl (SqL.of ?_), ?_, ?_⟩
        · rw [upd_same]
          unfold rowsTx
          rw [txts_app, List.map_append]
        · rw [txts_sum, txts_len]
          have e1 : (Str.ofString "\n").length = 1 := rfl
          have e2 : (rowsTx ps ws).length = ps.length + ws.length := by
            unfold rowsTx
            rw [List.length_append, List.length_map, List.length_map]
          show sumL (rowsTx ps ws) + (rowsTx ps ws).length * 1 ≤ 16777216
          omega
        · rw [join_txts]
          exact k _ (Same.mut (s1.trans s2) hL)
end

section
variable {P : Program} {w : World} {K : PySem.W.Frag} {mg : Str → Option Value} {base : Heap}
theorem ok_any_kind (D : DefAt K mg "_law_any_kind" s_law_any_kind ["_law_pen_here", "_law_deep"]) (T : Bl mg) (C_law_draw : CallOk P w K mg base 2 "_law_draw" ["_law_pen_here", "_law_below"] spDraw)
    (C_law_name : CallOk P w K mg base 3 "_law_name" ["_law_pen_here", "_law_gone"] spName) : ∀ j : Nat, CallOk P w K mg base (j + 3) "_law_any_kind" ["_law_pen_here", "_law_deep"] (spAnyKind K j)
  | 0 => ((D.none sc_law_any_kind).mono (by decide)).imp fun vs H Q E h => by
    obtain ⟨p, c, z, _, _, h0, _⟩ := h
    omega
  | j + 1 => by
    have C_law_any_kind := ok_any_kind D T C_law_draw C_law_name j
    refine D.ok sc_law_any_kind (fun vs H Q E h => ?_) (fun f cdv A outer s H vs Q E hr h => ?_)
    · obtain ⟨p, c, z, rfl, _⟩ := h
      rfl
    · obtain ⟨p, c, z, rfl, hz, _, hj6, hz0, hP, k⟩ := h
      refine ⟨_, (pss_cons (ps_if (PW.pt (pw_or (pt_cmpR op_le (pv 1) pe_int (nomark _)) (pw_or1 (pt_cmpR op_eq (pe_callOk C_law_draw hr (by omega) (by rfl) (pa_cons (pv 0) (pa_cons pe_int pa_nil))) pe_int (nomark _))))) (pss_one (ps_ret (pe_callOk C_law_name hr (by omega) (by rfl) (pa_cons (pv 0) (pa_cons (pe_lst pa_nil) pa_nil))))) pss_nil)
        (pss_one (ps_ret (pe_tup (pa_cons (pe_ix ix_list (pe_lst (pa_cons pe_str (pa_cons pe_str pa_nil))) (pe_callOk C_law_draw hr (by omega) (by rfl) (pa_cons (pv 0) (pa_cons pe_int pa_nil))) (fun _ _ => rfl)) (pa_cons (pe_callOk C_law_any_kind hr (by omega) (by rfl) (pa_cons (pv 0) (pa_cons (pe_op op_sub (pv 1) pe_int) pa_nil))) (pa_cons (pe_callOk C_law_any_kind hr (by omega) (by rfl) (pa_cons (pv 0) (pa_cons (pe_op op_sub (pv 1) pe_int) pa_nil))) pa_nil))))))), ?_⟩
      have named : ∀ H1 : Hp, Pen H1 p c → Kp p H H1 → ∀ q, H1 q = none → spName [.ref p, .ref q] (upd H1 q (.lst [])) Q E0 := fun H1 hP1 k1 q hq =>
        ⟨p, c, q, [], rfl, hP1.new hq, upd_same, hP1.neP hq, by decide, fun x H2 hx hP2 k2 => k (.str x) (.str x) H2 (.str x) (nm_kind hx j) hP2 ((k1.lay hq).trans k2)⟩
      refine ⟨_, rfl, _, _, rfl, rfl, _, rfl, ?_⟩
      by_cases h0 : z ≤ 1
      · rw [decide_eq_true h0]
        refine iteT (iteT ?_)
        exact ⟨_, rfl, Nat.zero_le _, fun q hq => named H hP Kp.refl q hq⟩
      · rw [decide_eq_false h0]
        refine iteF ?_
        refine ⟨_, rfl, p, c, 3, rfl, hP, by decide, by decide, fun m H1 m0 m1 hP1 k1 => ⟨rfl, _, rfl, ?_⟩⟩
        by_cases e0 : m = 0
        · subst e0
          refine iteT ?_
          exact ⟨_, rfl, Nat.zero_le _, fun q hq => named H1 hP1 k1 q hq⟩
        · rw [decide_eq_false (show ¬ V.int m = V.int 0 from fun e => e0 (by injection e))]
          refine iteF ?_
          refine ⟨le_line (by show 2 ≤ 16000000; decide), fun q hq => ?_⟩
          refine ⟨_, rfl, p, c, 2, rfl, hP1.new hq, by decide, by decide, fun l H2 l0 l1 hP2 k2 => ?_⟩
          obtain ⟨x, hx, _, mx⟩ := sign_at l0 l1
          have kq : Kp p H H2 := (k1.lay hq).trans k2
          refine ⟨q, _, l, .str x, rfl, rfl, SqL.of (k2 _ _ upd_same (hP1.neP hq)), hx, ?_⟩
          refine ⟨_, rfl, _, rfl, _, _, rfl, rfl, p, c, _, rfl, by omega, by omega, by omega, by omega, hP2, fun va a H3 ha fa hP3 k3 => ?_⟩
          refine ⟨_, rfl, _, rfl, _, _, rfl, rfl, p, c, _, rfl, by omega, by omega, by omega, by omega, hP3, fun vb b H4 hb fb hP4 k4 => ?_⟩
          refine ⟨le_line (by show 3 ≤ 16000000; decide), fun t ht => ?_⟩
          have k04 : Kp p H H4 := (kq.trans k3).trans k4
          have da : Da K All H4 va a := ha.kp k4 hP3.noTup trivial
          have dt : Da K All (upd H4 t (.tup [.str x, va, vb])) (.ref t) (.tuple [.str x, a, b]) :=
            .tup (SqT.of upd_same) (.cons (.str x) (.cons (da.same (same_new ht)) (.cons (hb.same (same_new ht)) .nil)))
          refine k _ _ _ dt ?_ (hP4.new ht) (k04.lay ht)
          rw [kind_tup, fa, fb, decide_eq_true (show j ≠ 0 by omega)]
          simpa [memD] using mx
end

section
variable {P : Program} {w : World} {K : PySem.W.Frag} {mg : Str → Option Value} {base : Heap}
theorem ok_lunl8 (D : DefAt K mg "_law_unlike" s_law_unlike ["_law_pen_here", "_law_often"]) (T : Bl mg) (C_law_name : CallOk P w K mg base 3 "_law_name" ["_law_pen_here", "_law_gone"] spNameU) :
    CallOk P w K mg base 4 "_law_unlike" ["_law_pen_here", "_law_often"] (spUnl K) := by
  refine D.ok sc_law_unlike (fun vs H Q E h => ?_) (fun f cdv A outer s H vs Q E hr h => ?_)
  · obtain ⟨p, c, z, rfl, _⟩ := h
    rfl
  · obtain ⟨p, c, z, rfl, z0, z1, hP, k⟩ := h
    refine ⟨_, (pss_cons (ps_set (i := 2) sc_law_unlike.nd rfl (Or.inl rfl) (pe_lst pa_nil))
        (pss_cons (ps_for PassesOwn.never rfl (pi_range1 (by rfl) T.range_ (pa_cons (pv 1) pa_nil)) (pg_name (i := 3) sc_law_unlike.nd rfl (Or.inl rfl) (by first | exact .inl rfl | exact .inr rfl)) (pss_one (ps_expr (pe_bm PySem.F.plainAttrs_list PySem.F.slot_list_append PySem.F.type_list_append mt_append (pv 2) (pa_cons (pe_callOk C_law_name hr (by omega) (by rfl) (pa_cons (pv 0) (pa_cons (pv 2) pa_nil))) pa_nil)))))
        (pss_one (ps_ret (pe_callTy call_tuple_of (by rfl) T.tuple_ (by decide +kernel) (pa_cons (pv 2) pa_nil)))))), ?_⟩
    refine ⟨Nat.zero_le _, fun L hL => ?_⟩
    have nLp := hP.neP hL
    have nLc := hP.neC hL
    refine ⟨_, rfl, z, rfl, by omega, by omega, for_range (lo := 0) (n := z.toNat) (fun i σ H' => ∃ (xs : List Str) (v3 : Option V), σ = [some (.ref p), some (.int z), some (.ref L), v3] ∧ H' L = some (.lst (xs.map V.str)) ∧ xs.length = i ∧ (∀ x ∈ xs, Nm x) ∧ dd [] xs = xs ∧ Pen H' p c ∧ Kp p H H')
      ⟨[], none, rfl, upd_same, rfl, (fun x hx => nomatch hx), rfl, hP.new hL, Kp.new hL⟩ ?_ ?_⟩
    · rintro i σ H1 hi ⟨xs, v3, rfl, eL, hl, hn, hd, hP1, k1⟩
      refine ⟨_, rfl, .inl ⟨rfl, _, SqL.of eL⟩, _, rfl, _, rfl, p, c, L, xs, rfl, hP1, eL, nLp, by omega, fun x H2 hx hxs hP2 k2 => ?_⟩
      have eL2 := k2 _ _ eL nLp
      refine ⟨L, _, _, rfl, rfl, eL2, lt_line (by rw [List.length_map]; omega), ?_⟩
      refine ⟨xs ++ [x], _, rfl, ?_, by rw [List.length_append, hl]; rfl, ?_, dd_snoc hd hxs, hP2.keep nLp nLc, (k1.trans k2).mut hL⟩
      · rw [upd_same, List.map_append]
        rfl
      · intro y hy
        rcases List.mem_append.mp hy with hy | hy
        · exact hn y hy
        · rw [List.mem_singleton.mp hy]
          exact hx
    · rintro σ H1 ⟨xs, v3, rfl, eL, hl, hn, hd, hP1, k1⟩
      refine ⟨_, rfl, L, _, rfl, .inl ⟨SqL.of eL, fun t ht => ?_⟩⟩
      exact k t xs _ (SqT.of upd_same) (by omega) hn hd (hP1.new ht) (k1.lay ht)
end

section
variable {P : Program} {w : World} {K : PySem.W.Frag} {mg : Str → Option Value} {base : Heap}
theorem any_step (D : DefAt K mg "_law_any" s_law_any ["_law_pen_here", "_law_deep"]) (T : Bl mg) (C_law_draw : CallOk P w K mg base 2 "_law_draw" ["_law_pen_here", "_law_below"] spDraw)
    (C_law_name : CallOk P w K mg base 3 "_law_name" ["_law_pen_here", "_law_gone"] spName) (C_law_any_kind : CallOk P w K mg base 6 "_law_any_kind" ["_law_pen_here", "_law_deep"] (spAnyKind K 3)) (C_law_unlike : CallOk P w K mg base 4 "_law_unlike" ["_law_pen_here", "_law_often"] (spUnl K)) (j : Nat)
    (C_law_any : CallOk P w K mg base (j + 6) "_law_any" ["_law_pen_here", "_law_deep"] (spRec K j)) : CallOk P w K mg base (j + 7) "_law_any" ["_law_pen_here", "_law_deep"] (spAnyT K j) := by
  refine D.ok sc_law_any (fun vs H Q E h => ?_) (fun f cdv A outer s H vs Q E hr h => ?_)
  · obtain ⟨p, c, z, rfl, _⟩ := h
    rfl
  · obtain ⟨p, c, z, rfl, hz, hz0, hj, hP, k⟩ := h
    have nmd : ∀ (H1 : Hp) (hP1 : Pen H1 p c) (q : Addr) (hq : H1 q = none) (Q' : VK), (∀ x H2, Nm x → Pen H2 p c → Kp p H1 H2 → Q' (.str x) H2) → spName [.ref p, .ref q] (upd H1 q (.lst [])) Q' E0 := fun H1 hP1 q hq Q' kk =>
      ⟨p, c, q, [], rfl, hP1.new hq, upd_same, hP1.neP hq, by decide, fun x H2 hx hP2 k2 => kk x H2 hx hP2 ((Kp.new hq).trans k2)⟩
    have bg := bX_ge j
    refine ⟨_, (Evl.pss_cut (ps_set (i := 2) sc_law_any.nd rfl (Or.inl rfl) (pe_ifExp (pt_cmpR op_gt (pv 1) pe_int (nomark _)) (pe_callOk C_law_draw hr (by omega) (by rfl) (pa_cons (pv 0) (pa_cons pe_int pa_nil))) pe_int))
        (pss_cons (ps_if (pt_cmpR op_eq (pv 2) pe_int (nomark _)) (pss_one (ps_ret (pe_ifExp (pt_cmpR op_eq (pe_callOk C_law_draw hr (by omega) (by rfl) (pa_cons (pv 0) (pa_cons pe_int pa_nil))) pe_int (nomark _)) (pe_tup (pa_cons pe_str (pa_cons (pe_callOk C_law_name hr (by omega) (by rfl) (pa_cons (pv 0) (pa_cons (pe_lst pa_nil) pa_nil))) pa_nil))) (pe_callOk C_law_name hr (by omega) (by rfl) (pa_cons (pv 0) (pa_cons (pe_lst pa_nil) pa_nil)))))) pss_nil)
        (pss_cons (ps_if (pt_cmpR op_eq (pv 2) pe_int (nomark _)) (pss_one (ps_ret (pe_tup (pa_cons pe_str (pa_cons (pe_callOk C_law_name hr (by omega) (by rfl) (pa_cons (pv 0) (pa_cons (pe_lst pa_nil) pa_nil))) (pa_cons (pe_callOk C_law_any_kind hr (by omega) (by rfl) (pa_cons (pv 0) (pa_cons pe_int pa_nil))) (pa_cons (pe_callOk C_law_any hr (by omega) (by rfl) (pa_cons (pv 0) (pa_cons (pe_op op_sub (pv 1) pe_int) pa_nil))) pa_nil))))))) pss_nil)
        (pss_cons (ps_if (pt_cmpR op_eq (pv 2) pe_int (nomark _)) (pss_cons (ps_setLc (i := 3) (own := [("_law_k", 4)]) (g := gName 4) (tt := tYes) rfl sc_law_any.nd rfl rfl (sw_true rfl rfl rfl (by decide +kernel)) (pi_range1 (by rfl) T.range_ (pa_cons (pe_ix ix_list (pe_lst (pa_cons pe_int (pa_cons pe_int (pa_cons pe_int (pa_cons pe_int (pa_cons pe_int pa_nil)))))) (pe_callOk C_law_draw hr (by omega) (by rfl) (pa_cons (pv 0) (pa_cons pe_int pa_nil))) (fun _ _ => rfl)) pa_nil)) (blkOk_by (N := sl_law_any) (sc := defScope s_law_any) (by decide +kernel)) (fun _ _ _ _ _ => pg_name (i := 4) sc_law_any.nd rfl (Or.inl rfl)) (fun _ _ _ _ _ => pts_nil) (fun _ _ _ _ _ => (pe_callOk C_law_any hr (by omega) (by rfl) (pa_cons (pv 0) (pa_cons (pe_op op_sub (pv 1) pe_int) pa_nil)))))
        (pss_one (ps_ret (pe_tup (pa_cons pe_str (pa_cons (pe_callOk C_law_name hr (by omega) (by rfl) (pa_cons (pv 0) (pa_cons (pe_lst pa_nil) pa_nil))) (pa_cons (pe_callTy call_tuple_of (by rfl) T.tuple_ (by decide +kernel) (pa_cons (pv 3) pa_nil)) pa_nil))))))) pss_nil)
        (pss_cons (ps_set (i := 5) sc_law_any.nd rfl (Or.inl rfl) (pe_callOk C_law_any hr (by omega) (by rfl) (pa_cons (pv 0) (pa_cons (pe_op op_sub (pv 1) pe_int) pa_nil))))
        (pss_cons (ps_if (pt_cmpR op_eq (pv 2) pe_int (nomark _)) (pss_cons (ps_set (i := 6) sc_law_any.nd rfl (Or.inl rfl) (pe_lst pa_nil))
        (pss_cons (ps_for PassesOwn.never rfl (pi_range1 (by rfl) T.range_ (pa_cons (pe_ix ix_list (pe_lst (pa_cons pe_int (pa_cons pe_int (pa_cons pe_int (pa_cons pe_int pa_nil))))) (pe_callOk C_law_draw hr (by omega) (by rfl) (pa_cons (pv 0) (pa_cons pe_int pa_nil))) (fun _ _ => rfl)) pa_nil)) (pg_name (i := 7) sc_law_any.nd rfl (Or.inl rfl) (by first | exact .inl rfl | exact .inr rfl)) (pss_cons (ps_set (i := 8) sc_law_any.nd rfl (Or.inl rfl) (pe_callOk C_law_unlike hr (by omega) (by rfl) (pa_cons (pv 0) (pa_cons (pe_callOk C_law_draw hr (by omega) (by rfl) (pa_cons (pv 0) (pa_cons pe_int pa_nil))) pa_nil))))
        (pss_one (ps_expr (pe_bm PySem.F.plainAttrs_list PySem.F.slot_list_append PySem.F.type_list_append mt_append (pv 6) (pa_cons (pe_tup (pa_cons (pe_callOk C_law_name hr (by omega) (by rfl) (pa_cons (pv 0) (pa_cons (pe_lst pa_nil) pa_nil))) (pa_cons (pv 8) (pa_cons (pe_callOk C_law_any hr (by omega) (by rfl) (pa_cons (pv 0) (pa_cons (pe_op op_sub (pv 1) pe_int) pa_nil))) pa_nil)))) pa_nil))))))
        (pss_one (ps_ret (pe_tup (pa_cons pe_str (pa_cons (pv 5) (pa_cons (pe_callTy call_tuple_of (by rfl) T.tuple_ (by decide +kernel) (pa_cons (pv 6) pa_nil)) pa_nil)))))))) pss_nil)
        (pss_cons (ps_if (pt_cmpR op_lt (pv 2) pe_int (nomark _)) (pss_one (ps_ret (pe_tup (pa_cons (pe_ix ix_list (pe_lst (pa_cons pe_str (pa_cons pe_str (pa_cons pe_str pa_nil)))) (pe_op op_sub (pv 2) pe_int) (fun _ _ => rfl)) (pa_cons (pv 5) (pa_cons (pe_callOk C_law_any hr (by omega) (by rfl) (pa_cons (pv 0) (pa_cons (pe_op op_sub (pv 1) pe_int) pa_nil))) pa_nil)))))) pss_nil)
        (pss_cons (ps_asg (pe_callOk C_law_unlike hr (by omega) (by rfl) (pa_cons (pv 0) (pa_cons pe_int pa_nil))) (pg_tup rfl (pgs_cons (pg_name (i := 9) sc_law_any.nd rfl (Or.inl rfl) (by first | exact .inl rfl | exact .inr rfl)) (pgs_cons (pg_name (i := 10) sc_law_any.nd rfl (Or.inl rfl) (by first | exact .inl rfl | exact .inr rfl)) pgs_nil))))
        (pss_one (ps_ret (pe_tup (pa_cons (pe_ix ix_list (pe_lst (pa_cons pe_str (pa_cons pe_str (pa_cons pe_str pa_nil)))) (pe_op op_sub (pv 2) pe_int) (fun _ _ => rfl)) (pa_cons (pv 5) (pa_cons (pv 9) (pa_cons (pv 10) (pa_cons (pe_callOk C_law_any hr (by omega) (by rfl) (pa_cons (pv 0) (pa_cons (pe_op op_sub (pv 1) pe_int) pa_nil))) pa_nil)))))))))))))))), ?_⟩
    refine ⟨fun σ H' => ∃ road : Int, σ = [some (.ref p), some (.int z), some (.int road), none, none, none, none, none, none, none, none] ∧ 0 ≤ road ∧ road < 10 ∧ (road ≠ 9 → 1 < z) ∧ Pen H' p c ∧ Kp p H H', ?_, ?_⟩
    · refine ⟨_, rfl, _, _, rfl, rfl, _, rfl, ?_⟩
      by_cases h1 : 1 < z
      · refine iteTx (decide_eq_true h1) ?_
        exact ⟨_, rfl, p, c, 10, rfl, hP, by decide, by decide, fun road H1 r0 r1 hP1 k1 => ⟨road, rfl, r0, r1, fun _ => h1, hP1, k1⟩⟩
      · refine iteFx (decide_eq_false h1) ?_
        exact ⟨9, rfl, by decide, by decide, fun e => absurd rfl e, hP, Kp.refl⟩
    · rintro σ H1 ⟨road, rfl, r0, r1, hr9, hP1, k1⟩
      refine ⟨_, rfl, rfl, _, rfl, ?_⟩
      by_cases e9 : road = 9
      · refine iteIT e9 ?_
        refine ⟨_, rfl, p, c, 3, rfl, hP1, by decide, by decide, fun m H2 m0 m1 hP2 k2 => ⟨rfl, _, rfl, ?_⟩⟩
        have k02 := k1.trans k2
        by_cases e0 : m = 0
        · refine iteIT e0 ?_
          refine ⟨_, rfl, Nat.zero_le _, fun q hq => ⟨p, c, q, [], rfl, hP2.new hq, upd_same, hP2.neP hq, by decide, fun x H3 hx hP3 k3' => ?_⟩⟩
          have k3 := (Kp.new hq).trans k3'
          refine ⟨le_line (by show 2 ≤ 16000000; decide), fun t ht => ?_⟩
          have := nm_len hx
          exact k _ _ _ _ _ _ (.tup (SqT.of upd_same) (.cons (.str _) (.cons (.str x) .nil))) (.df (nm_name hx)) (by rw [List.length_cons]; omega) (hP3.new ht) ((k02.trans k3).lay ht)
        · refine iteIF e0 ?_
          refine ⟨_, rfl, Nat.zero_le _, fun q hq => ⟨p, c, q, [], rfl, hP2.new hq, upd_same, hP2.neP hq, by decide, fun x H3 hx hP3 k3' => ?_⟩⟩
          have k3 := (Kp.new hq).trans k3'
          have := nm_len hx
          exact k _ _ _ _ _ _ (.str x) (.name (nm_name hx)) (by omega) hP3 (k02.trans k3)
      refine iteIF e9 ?_
      have h1z := hr9 e9
      obtain ⟨i, rfl⟩ : ∃ i, j = i + 1 := ⟨j - 1, by omega⟩
      have bi : bX (i + 1) = 7 * bX i + 500 := rfl
      have bgi := bX_ge i
      refine ⟨_, rfl, rfl, _, rfl, ?_⟩
      by_cases e0 : road = 0
      · refine iteIT e0 ?_
        refine ⟨_, rfl, Nat.zero_le _, fun q hq => ⟨p, c, q, [], rfl, hP1.new hq, upd_same, hP1.neP hq, by decide, fun x H2 hx hP2 k2' => ?_⟩⟩
        have k2 := (Kp.new hq).trans k2'
        refine ⟨_, rfl, p, c, 3, rfl, by decide, by decide, by decide, by decide, hP2, fun vk dk H3 hdk hkk hP3 k3 => ?_⟩
        refine ⟨_, rfl, _, rfl, _, _, rfl, rfl, p, c, z - 1, rfl, by omega, by omega, by omega, hP3, fun v d tx tk m H4 hd hT hx4 hP4 k4 => ?_⟩
        refine ⟨le_line (by show 4 ≤ 16000000; decide), fun t ht => ?_⟩
        obtain ⟨g1, g2, g3⟩ := kt_le (by decide) hkk
        have l8 := nm_len hx
        have dk4 := (hdk.kp k4 hP3.noTup trivial).same (same_new (o := .tup [.str "^", .str x, vk, v]) ht)
        refine k _ _ _ _ _ _ (.tup (SqT.of upd_same) (.cons (.str _) (.cons (.str x) (.cons dk4 (.cons (hd.same (same_new ht)) .nil))))) (.lam (nm_name hx) g1 hT) ?_ (hP4.new ht) ((((k1.trans k2).trans k3).trans k4).lay ht)
        rw [g2]
        simp only [List.length_cons, List.length_append, List.length_nil]
        omega
      refine iteIF e0 ?_
      refine ⟨_, rfl, rfl, _, rfl, ?_⟩
      by_cases e1 : road = 1
      · refine iteIT e1 ?_
        refine ⟨le_line (by show 5 ≤ 16000000; decide), fun q hq => ?_⟩
        refine ⟨_, rfl, p, c, 5, rfl, hP1.new hq, by decide, by decide, fun m H2 m0 m1 hP2 k2 => ?_⟩
        have hat : atI [V.int 0, .int 1, .int 2, .int 3, .int 4] m = some (.int m) := by
          have : m = 0 ∨ m = 1 ∨ m = 2 ∨ m = 3 ∨ m = 4 := by omega
          rcases this with rfl | rfl | rfl | rfl | rfl <;> rfl
        have k02 := (k1.lay hq).trans k2
        refine ⟨q, _, m, .int m, rfl, rfl, SqL.of (k2 _ _ upd_same (hP1.neP hq)), hat, m, rfl, by omega, by omega, fun B hB => ?_⟩
        have nBp := hP2.neP hB
        have nBc := hP2.neC hB
        have hB0 := k02.none hB nBp
        refine lc_range (lo := 0) (n := m.toNat) (fun n H' => ∃ (us : List V) (ts : List PyData) (tx : List Nat) (tk : List (List Nat)) (mm : Nat), H' B = some (.lst us) ∧ DaAll K All H' us ts ∧ TS (i + 1) ts tx tk mm ∧ ts.length = n ∧ tx.length ≤ n * (bX i + 1) ∧ Pen H' p c ∧ Kp p H H')
          ⟨[], [], [], [], 0, upd_same, .nil, .nil, rfl, Nat.zero_le _, hP2.new hB, k02.lay hB⟩ ?_ ?_
        · rintro n H3 hn ⟨us, ts, tx, tk, mm, eB, gu, hTS, hl, hx, hP3, k3⟩
          refine ⟨rfl, ?_⟩
          simp only [tYes, if_true]
          refine ⟨_, rfl, _, rfl, _, _, rfl, rfl, p, c, z - 1, rfl, by omega, by omega, by omega, hP3, fun v d tx1 tk1 m1' H4 hd hT hx4 hP4 k4 => ?_⟩
          have eB4 := k4 _ _ eB nBp
          have lu := gu.length
          refine ⟨us, eB4, lt_line (by omega), us ++ [v], ts ++ [d], _, _, _, upd_same, acc_da eB4 (gu.kp k4 hP3.noTup trivial) hd, hTS.app (.one hT), by rw [List.length_append, hl]; rfl, ?_, hP4.keep nBp nBc, (k3.trans k4).mut hB0⟩
          rw [List.length_append, List.length_cons, Nat.succ_mul]
          omega
        · rintro H3 ⟨us, ts, tx, tk, mm, eB, gu, hTS, hl, hx, hP3, k3⟩
          refine ⟨_, rfl, Nat.zero_le _, fun q2 hq2 => ⟨p, c, q2, [], rfl, hP3.new hq2, upd_same, hP3.neP hq2, by decide, fun x H4 hx4 hP4 k4' => ?_⟩⟩
          have k4 := (Kp.new hq2).trans k4'
          have eB4 := k4 _ _ eB nBp
          refine ⟨_, rfl, B, us, rfl, .inl ⟨SqL.of eB4, fun t ht => ⟨le_line (by show 3 ≤ 16000000; decide), fun t2 ht2 => ?_⟩⟩⟩
          have g4 := ((gu.kp k4 hP3.noTup trivial).same (same_new (o := .tup us) ht)).same (same_new (o := .tup [.str "#", .str x, .ref t]) ht2)
          have l8 := nm_len hx4
          have m4 : m.toNat ≤ 4 := by omega
          refine k _ _ _ _ _ _ (.tup (SqT.of upd_same) (.cons (.str _) (.cons (.str x) (.cons (.tup (sqT_same (same_new ht2) (SqT.of upd_same)) g4) .nil)))) (.mk (nm_name hx4) (by omega) hTS) ?_ ((hP4.new ht).new ht2) (((k3.trans k4).lay ht).lay ht2)
          have : m.toNat * (bX i + 1) ≤ 4 * (bX i + 1) := Nat.mul_le_mul_right _ m4
          simp only [List.length_cons, List.length_append, List.length_nil]
          omega
      refine iteIF e1 ?_
      refine ⟨_, rfl, _, rfl, _, _, rfl, rfl, p, c, z - 1, rfl, by omega, by omega, by omega, hP1, fun vf df fx fk fm H2 hdf hTf hxf hP2 k2 => ?_⟩
      have k02 := k1.trans k2
      refine ⟨_, rfl, rfl, _, rfl, ?_⟩
      by_cases e2 : road = 2
      · refine iteIT e2 ?_
        refine ⟨Nat.zero_le _, fun B hB => ?_⟩
        have nBp := hP2.neP hB
        have nBc := hP2.neC hB
        have hB0 := k02.none hB nBp
        refine ⟨le_line (by show 4 ≤ 16000000; decide), fun q hq => ?_⟩
        have hP3 := hP2.new (o := .lst []) hB
        have k03 := k02.lay (o := .lst []) hB
        have eB : (upd H2 B (.lst [])) B = some (.lst ([] : List V)) := upd_same
        have df3 := hdf.same (same_new (o := .lst []) hB)
        generalize (upd H2 B (.lst [])) = H3 at hP3 k03 eB df3 hq ⊢
        refine ⟨_, rfl, p, c, 4, rfl, hP3.new hq, by decide, by decide, fun m H4 m0 m1 hP4 k4 => ?_⟩
        obtain ⟨o, hat, o1, o6⟩ : ∃ o : Int, atI [V.int 1, .int 2, .int 3, .int 6] m = some (.int o) ∧ 1 ≤ o ∧ o ≤ 6 := by
          have : m = 0 ∨ m = 1 ∨ m = 2 ∨ m = 3 := by omega
          rcases this with rfl | rfl | rfl | rfl
          · exact ⟨1, rfl, by decide, by decide⟩
          · exact ⟨2, rfl, by decide, by decide⟩
          · exact ⟨3, rfl, by decide, by decide⟩
          · exact ⟨6, rfl, by decide, by decide⟩
        have nt3 : NoTup (upd H3 q (.lst [.int 1, .int 2, .int 3, .int 6])) p := (hP3.new hq).noTup
        refine ⟨q, _, m, .int o, rfl, rfl, SqL.of (k4 _ _ upd_same (hP3.neP hq)), hat, o, rfl, by omega, by omega, for_range (lo := 0) (n := o.toNat) (fun n σ H' => ∃ (us : List V) (ts : List PyData) (tx : List Nat) (tk : List (List Nat)) (mm : Nat) (v7 v8 : Option V), σ = [some (.ref p), some (.int z), some (.int road), none, none, some vf, some (.ref B), v7, v8, none, none] ∧ H' B = some (.lst us) ∧ DaAll K All H' us ts ∧ TC (i + 1) ts tx tk mm ∧ ts.length = n ∧ tx.length ≤ n * (bX i + 60) ∧ Da K All H' vf df ∧ Pen H' p c ∧ Kp p H H')
          ⟨[], [], [], [], 0, none, none, rfl, k4 _ _ (same_new hq _ _ eB) nBp, .nil, .nil, rfl, Nat.zero_le _, (df3.same (same_new hq)).kp k4 nt3 trivial, hP4, (k03.lay hq).trans k4⟩ ?_ ?_⟩
        · rintro n σ H5 hn ⟨us, ts, tx, tk, mm, v7, v8, rfl, eB5, gu, hTC, hl, hx, df5, hP5, k5⟩
          refine ⟨_, rfl, _, rfl, p, c, 5, rfl, hP5, by decide, by decide, fun m2 H6 m20 m21 hP6 k6 => ?_⟩
          refine ⟨p, c, m2, rfl, by omega, by omega, hP6, fun tn xs H7 hTn hln hn7 hd7 hP7 k7 => ?_⟩
          have k57 := (k5.trans k6).trans k7
          have eB7 := k7 _ _ (k6 _ _ eB5 nBp) nBp
          refine ⟨_, rfl, .inl ⟨rfl, _, SqL.of eB7⟩, _, rfl, Nat.zero_le _, fun q2 hq2 => ⟨p, c, q2, [], rfl, hP7.new hq2, upd_same, hP7.neP hq2, by decide, fun x H8 hx8 hP8 k8' => ?_⟩⟩
          have k8 := (Kp.new hq2).trans k8'
          refine ⟨_, rfl, _, rfl, _, rfl, _, _, rfl, rfl, p, c, z - 2, rfl, by omega, by omega, by omega, hP8, fun v d tx1 tk1 m1' H9 hd hT hx9 hP9 k9 => ?_⟩
          refine ⟨le_line (by show 3 ≤ 16000000; decide), fun t ht => ?_⟩
          have hTn9 := sqT_kp k9 hP8.noTup (sqT_kp k8 hP7.noTup hTn)
          have sn := same_new (H := H9) (o := .tup [.str x, .ref tn, v]) ht
          have eB9 := sn _ _ (k9 _ _ (k8 _ _ eB7 nBp) nBp)
          have gu9 := (((((gu.kp k6 hP5.noTup trivial).kp k7 hP6.noTup trivial).kp k8 hP7.noTup trivial).kp k9 hP8.noTup trivial).same sn)
          have df9 := (((((df5.kp k6 hP5.noTup trivial).kp k7 hP6.noTup trivial).kp k8 hP7.noTup trivial).kp k9 hP8.noTup trivial).same sn)
          have dc : Da K All (upd H9 t (.tup [.str x, .ref tn, v])) (.ref t) (.tuple [.str x, .tuple (xs.map strD), d]) := .tup (SqT.of upd_same) (.cons (.str x) (.cons (.tup (sqT_same sn hTn9) (da_names xs)) (.cons (hd.same sn) .nil)))
          have lu := gu.length
          have l8 := nm_len hx8
          have l9 := bl_len9 hn7
          refine ⟨B, us, _, rfl, rfl, eB9, lt_line (by omega), us ++ [.ref t], ts ++ [_], _, _, _, _, _, rfl, upd_same, acc_da eB9 gu9 dc, hTC.app (.one (nm_name hx8) (by omega) (fun x h => nm_name (hn7 x h)) (dd_unlike hd7) hT), by rw [List.length_append, hl]; rfl, ?_, df9.put eB9 (fun xs z => nomatch z) (fun _ _ z => nomatch z) trivial, (hP9.new ht).keep nBp nBc, ?_⟩
          · rw [List.length_append, Nat.succ_mul]
            simp only [List.length_cons, List.length_append, List.length_nil]
            omega
          · exact (((k57.trans k8).trans k9).lay ht).mut hB0
        · rintro σ H5 ⟨us, ts, tx, tk, mm, v7, v8, rfl, eB5, gu, hTC, hl, hx, df5, hP5, k5⟩
          refine ⟨_, rfl, _, rfl, B, us, rfl, .inl ⟨SqL.of eB5, fun t ht => ⟨le_line (by show 3 ≤ 16000000; decide), fun t2 ht2 => ?_⟩⟩⟩
          have s6 := (same_new (H := H5) (o := .tup us) ht).trans (same_new (o := .tup [.str "?", vf, .ref t]) ht2)
          have o6' : o.toNat ≤ 6 := by omega
          refine k _ _ _ _ _ _ (.tup (SqT.of upd_same) (.cons (.str _) (.cons (df5.same s6) (.cons (.tup (sqT_same (same_new ht2) (SqT.of upd_same)) (gu.same s6)) .nil)))) (.ch hTf (by omega) (by omega) hTC) ?_ ((hP5.new ht).new ht2) ((k5.lay ht).lay ht2)
          have : o.toNat * (bX i + 60) ≤ 6 * (bX i + 60) := Nat.mul_le_mul_right _ o6'
          simp only [List.length_cons, List.length_append, List.length_nil]
          omega
      refine iteIF e2 ?_
      refine ⟨_, rfl, _, _, rfl, rfl, _, rfl, ?_⟩
      by_cases e6 : road < 6
      · refine iteTx (decide_eq_true e6) ?_
        refine ⟨le_line (by show 3 ≤ 16000000; decide), fun q hq => ?_⟩
        obtain ⟨s, hs, hat⟩ : ∃ s : Nat, (s = 33 ∨ s = 38 ∨ s = 45) ∧ atI [V.str "!", .str "&", .str "-"] (road - 3) = some (.str ⟨#[s]⟩) := by
          have : road = 3 ∨ road = 4 ∨ road = 5 := by omega
          rcases this with rfl | rfl | rfl
          · exact ⟨33, by decide, rfl⟩
          · exact ⟨38, by decide, rfl⟩
          · exact ⟨45, by decide, rfl⟩
        refine ⟨_, rfl, _, _, rfl, rfl, q, _, _, _, rfl, rfl, SqL.of upd_same, hat, _, rfl, ?_⟩
        refine ⟨_, rfl, _, rfl, _, _, rfl, rfl, p, c, z - 1, rfl, by omega, by omega, by omega, hP2.new hq, fun v d tx tk m H4 hd hT hx4 hP4 k4 => ?_⟩
        refine ⟨le_line (by show 3 ≤ 16000000; decide), fun t ht => ?_⟩
        have df4 := ((hdf.same (same_new (o := .lst [.str "!", .str "&", .str "-"]) hq)).kp k4 (hP2.new hq).noTup trivial).same (same_new (o := .tup [.str ⟨#[s]⟩, vf, v]) ht)
        refine k _ _ _ _ _ _ (.tup (SqT.of upd_same) (.cons (.str _) (.cons df4 (.cons (hd.same (same_new ht)) .nil)))) (.two hs hTf hT) ?_ (hP4.new ht) (((k02.lay hq).trans k4).lay ht)
        simp only [List.length_cons, List.length_append, List.length_nil]
        omega
      · refine iteFx (decide_eq_false e6) ?_
        refine ⟨_, rfl, p, c, 2, rfl, by decide, by decide, hP2, fun tn xs H3 hTn hln hn3 hd3 hP3 k3 => ?_⟩
        obtain ⟨x, y, rfl, hxy⟩ := two_of hln hd3
        refine ⟨tn, _, rfl, hTn, rfl, _, _, rfl, _, _, rfl, rfl, ?_⟩
        refine ⟨le_line (by show 3 ≤ 16000000; decide), fun q hq => ?_⟩
        obtain ⟨s, hs, hat⟩ : ∃ s : Nat, (s = 47 ∨ s = 43) ∧ atI [V.str "/", .str "+", .str "/"] (road - 6) = some (.str ⟨#[s]⟩) := by
          have : road = 6 ∨ road = 7 ∨ road = 8 := by omega
          rcases this with rfl | rfl | rfl
          · exact ⟨47, by decide, rfl⟩
          · exact ⟨43, by decide, rfl⟩
          · exact ⟨47, by decide, rfl⟩
        refine ⟨_, rfl, _, _, rfl, rfl, q, _, _, _, rfl, rfl, SqL.of upd_same, hat, _, rfl, _, rfl, _, rfl, ?_⟩
        refine ⟨_, rfl, _, rfl, _, _, rfl, rfl, p, c, z - 1, rfl, by omega, by omega, by omega, hP3.new hq, fun v d tx tk m H4 hd hT hx4 hP4 k4 => ?_⟩
        refine ⟨le_line (by show 5 ≤ 16000000; decide), fun t ht => ?_⟩
        have hx := hn3 x (List.mem_cons_self ..)
        have hy := hn3 y (List.mem_cons_of_mem _ (List.mem_cons_self ..))
        have lx := nm_len hx
        have ly := nm_len hy
        have df4 := (((hdf.kp k3 hP2.noTup trivial).same (same_new (o := .lst [.str "/", .str "+", .str "/"]) hq)).kp k4 (hP3.new hq).noTup trivial).same (same_new (o := .tup [.str ⟨#[s]⟩, vf, .str x, .str y, v]) ht)
        refine k _ _ _ _ _ _ (.tup (SqT.of upd_same) (.cons (.str _) (.cons df4 (.cons (.str x) (.cons (.str y) (.cons (hd.same (same_new ht)) .nil)))))) (.five hs (nm_name hx) (nm_name hy) hxy hTf hT) ?_ (hP4.new ht) ((((k02.trans k3).lay hq).trans k4).lay ht)
        simp only [List.length_cons, List.length_append, List.length_nil]
        omega
theorem ok_any (D : DefAt K mg "_law_any" s_law_any ["_law_pen_here", "_law_deep"]) (T : Bl mg) (C_law_draw : CallOk P w K mg base 2 "_law_draw" ["_law_pen_here", "_law_below"] spDraw)
    (C_law_name : CallOk P w K mg base 3 "_law_name" ["_law_pen_here", "_law_gone"] spName) (C_law_any_kind : CallOk P w K mg base 6 "_law_any_kind" ["_law_pen_here", "_law_deep"] (spAnyKind K 3)) (C_law_unlike : CallOk P w K mg base 4 "_law_unlike" ["_law_pen_here", "_law_often"] (spUnl K)) :
    ∀ j : Nat, CallOk P w K mg base (j + 7) "_law_any" ["_law_pen_here", "_law_deep"] (spAnyT K j)
  | 0 => any_step D T C_law_draw C_law_name C_law_any_kind C_law_unlike 0 ((D.none sc_law_any).mono (by decide))
  | j + 1 => any_step D T C_law_draw C_law_name C_law_any_kind C_law_unlike (j + 1) (ok_any D T C_law_draw C_law_name C_law_any_kind C_law_unlike j)
end

section
variable {P : Program} {w : World} {K : PySem.W.Frag} {mg : Str → Option Value} {base : Heap}
theorem ok_ltext (D : DefAt K mg "_law_term_text" s_law_term_text ["_law_term"]) (T : Bl mg) (C_law_kind_text : CallOk P w K mg base 7 "_law_kind_text" ["_law_kind"] (spKText K 6)) : ∀ j : Nat, CallOk P w K mg base (j + 7) "_law_term_text" ["_law_term"] (spLText K j)
  | 0 => ((D.none sc_law_term_text).mono (by decide)).imp fun vs H Q E h => by
    obtain ⟨N, v, d, tx, tk, m, _, _, hT, _⟩ := h
    cases hT
  | j + 1 => by
    have C_law_term_text := ok_ltext D T C_law_kind_text j
    refine D.ok sc_law_term_text (fun vs H Q E h => ?_) (fun f cdv A outer s H vs Q E hr h => ?_)
    · obtain ⟨N, v, d, tx, tk, m, rfl, _⟩ := h
      rfl
    · obtain ⟨N, v, d, tx, tk, m, rfl, hd, hT, hx, k⟩ := h
      refine ⟨_, (pss_cons (ps_if (pt_val (pe_callB call_isD (by rfl) T.isinstance_ (by decide +kernel) (pa_cons (pv 0) (pa_cons (pe_bltn (v := .ty "str") (by rfl) T.str_ (by decide +kernel) rfl) pa_nil)))) (pss_one (ps_ret (pv 0))) pss_nil)
        (pss_cons (ps_if (pt_cmpR op_eq (pe_ix ix_tup (pv 0) pe_int (fun _ _ => rfl)) pe_str (nomark _)) (pss_one (ps_ret (pe_op opAdd pe_str (pe_ix ix_tup (pv 0) pe_int (fun _ _ => rfl))))) pss_nil)
        (Evl.pss_cut (ps_if (pt_cmpR op_eq (pe_ix ix_tup (pv 0) pe_int (fun _ _ => rfl)) pe_str (nomark _)) (pss_one (ps_set (i := 1) sc_law_term_text.nd rfl (Or.inl rfl) (pe_lst (pa_cons (pe_ix ix_tup (pv 0) pe_int (fun _ _ => rfl)) (pa_cons (pe_callOk C_law_kind_text hr (by omega) (by rfl) (pa_cons (pe_ix ix_tup (pv 0) pe_int (fun _ _ => rfl)) pa_nil)) (pa_cons (pe_callOk C_law_term_text hr (by omega) (by rfl) (pa_cons (pe_ix ix_tup (pv 0) pe_int (fun _ _ => rfl)) pa_nil)) pa_nil)))))) (pss_one (ps_if (pt_cmpR op_eq (pe_ix ix_tup (pv 0) pe_int (fun _ _ => rfl)) pe_str (nomark _)) (pss_one (ps_set (i := 1) sc_law_term_text.nd rfl (Or.inl rfl) (pe_op opAdd (pe_lst (pa_cons (pe_ix ix_tup (pv 0) pe_int (fun _ _ => rfl)) pa_nil)) (pe_lc (own := [("_law_one", 2)]) (g := gName 2) (tt := tYes) rfl sc_law_term_text.nd (pi_tup (pe_ix ix_tup (pv 0) pe_int (fun _ _ => rfl))) (blkOk_by (N := sl_law_term_text) (sc := defScope s_law_term_text) (by decide +kernel)) (fun _ _ _ _ _ => pg_name (i := 2) sc_law_term_text.nd rfl (Or.inl rfl)) (fun _ _ _ _ _ => pts_nil) (fun _ _ _ _ _ => (pe_callOk C_law_term_text hr (by omega) (by rfl) (pa_cons (pv 2) pa_nil))))))) (pss_one (ps_if (pt_cmpR op_eq (pe_ix ix_tup (pv 0) pe_int (fun _ _ => rfl)) pe_str (nomark _)) (pss_cons (ps_set (i := 1) sc_law_term_text.nd rfl (Or.inl rfl) (pe_lst (pa_cons (pe_callOk C_law_term_text hr (by omega) (by rfl) (pa_cons (pe_ix ix_tup (pv 0) pe_int (fun _ _ => rfl)) pa_nil)) pa_nil)))
        (pss_one (ps_for PassesOwn.never rfl (pi_tup (pe_ix ix_tup (pv 0) pe_int (fun _ _ => rfl))) (pg_tup rfl (pgs_cons (pg_name (i := 3) sc_law_term_text.nd rfl (Or.inl rfl) (by first | exact .inl rfl | exact .inr rfl)) (pgs_cons (pg_name (i := 4) sc_law_term_text.nd rfl (Or.inl rfl) (by first | exact .inl rfl | exact .inr rfl)) (pgs_cons (pg_name (i := 2) sc_law_term_text.nd rfl (Or.inl rfl) (by first | exact .inl rfl | exact .inr rfl)) pgs_nil)))) (pss_one (ps_expr (pe_bm PySem.F.plainAttrs_list PySem.F.slot_list_append PySem.F.type_list_append mt_append (pv 1) (pa_cons (pe_op opAdd (pe_op opAdd pe_str (pe_join pe_str (pe_op opAdd (pe_op opAdd (pe_lst (pa_cons (pv 3) pa_nil)) (pe_callTy call_list_of (by rfl) T.list_ (by decide +kernel) (pa_cons (pv 4) pa_nil))) (pe_lst (pa_cons pe_str (pa_cons (pe_callOk C_law_term_text hr (by omega) (by rfl) (pa_cons (pv 2) pa_nil)) pa_nil)))))) pe_str) pa_nil))))))) (pss_one (ps_if (pt_cmpR op_in_seq (pe_ix ix_tup (pv 0) pe_int (fun _ _ => rfl)) (pe_tup (pa_cons pe_str (pa_cons pe_str pa_nil))) (by rfl)) (pss_one (ps_set (i := 1) sc_law_term_text.nd rfl (Or.inl rfl) (pe_lst (pa_cons (pe_callOk C_law_term_text hr (by omega) (by rfl) (pa_cons (pe_ix ix_tup (pv 0) pe_int (fun _ _ => rfl)) pa_nil)) (pa_cons (pe_ix ix_tup (pv 0) pe_int (fun _ _ => rfl)) (pa_cons (pe_ix ix_tup (pv 0) pe_int (fun _ _ => rfl)) (pa_cons (pe_callOk C_law_term_text hr (by omega) (by rfl) (pa_cons (pe_ix ix_tup (pv 0) pe_int (fun _ _ => rfl)) pa_nil)) pa_nil))))))) (pss_one (ps_set (i := 1) sc_law_term_text.nd rfl (Or.inl rfl) (pe_lst (pa_cons (pe_callOk C_law_term_text hr (by omega) (by rfl) (pa_cons (pe_ix ix_tup (pv 0) pe_int (fun _ _ => rfl)) pa_nil)) (pa_cons (pe_callOk C_law_term_text hr (by omega) (by rfl) (pa_cons (pe_ix ix_tup (pv 0) pe_int (fun _ _ => rfl)) pa_nil)) pa_nil))))))))))))
        (pss_one (ps_ret (pe_op opAdd (pe_op opAdd pe_str (pe_join pe_str (pe_op opAdd (pe_lst (pa_cons (pe_ix ix_tup (pv 0) pe_int (fun _ _ => rfl)) pa_nil)) (pv 1)))) pe_str)))))), ?_⟩
      refine ⟨_, rfl, N, v, d, "str", rfl, hd, .inl rfl, _, rfl, ?_⟩
      rcases tt_ty hT with ⟨z, rfl, rfl, hz⟩ | hty
      · refine iteTx (by simp [tyD]) ⟨_, rfl, ?_⟩
        cases hd.strInv
        have z1 := k H (Same.refl H)
        rw [← str_of] at z1
        exact z1
      refine iteFx (decide_eq_false hty) ?_
      -- what is behind the choice
      have fin : ∀ (t : Addr) (s0 : Nat) (ys : List V) (H1 : Hp) (B : Addr) (bits : List Str) (v2 v3 v4 : Option V), SqT K H t (.str ⟨#[s0]⟩ :: ys) → Same H H1 → H1 B = some (.lst (bits.map V.str)) → tx = 40 :: s0 :: (blN bits ++ [41]) →
          tRet (tOp (rAddAny K) (tOp (rAddAny K) (tC (.str "(")) (tM1 (fun x xs H Q => ∃ a p, ∃ ys : List Str, x = .str a ∧ xs = [.ref p] ∧ (SqL K H p (ys.map V.str) ∨ SqT K H p (ys.map V.str)) ∧ (ys.map (·.length)).sum + ys.length * a.length ≤ 16777216 ∧ Q (.str (Txt.join a ys)) H) (tC (.str " ")) (tOp (rAddAny K) (tLst (tCons (tOp (rIxT K) (tVar 0) (tC (.int 0))) tNil)) (tVar 1)))) (tC (.str ")")))
            { nx := fun x H' => Q .non H', rt := Q } [some (.ref t), some (.ref B), v2, v3, v4] H1 := by
        intro t s0 ys H1 B bits v2 v3 v4 hTt s1 eB etx
        have ltx := congrArg List.length etx
        simp only [List.length_cons, List.length_append, List.length_nil] at ltx
        have lb := bl_len bits
        refine ⟨⟨_, rfl⟩, _, rfl, t, _, 0, _, rfl, rfl, sqT_same s1 hTt, at_zero, le_line (by show 1 ≤ 16000000; decide), fun q hq => ⟨_, rfl, .inr (.inr (.inr ⟨q, B, [V.str ⟨#[s0]⟩], bits.map V.str, rfl, rfl, upd_same, same_new hq _ _ eB, le_line (by rw [List.length_map]; show 1 + bits.length ≤ 16000000; omega), fun p hp => ?_⟩))⟩⟩
        refine ⟨" ", p, ⟨#[s0]⟩ :: bits, rfl, rfl, .inl (SqL.of upd_same), ?_, ?_⟩
        · show 1 + (bits.map (·.length)).sum + (bits.length + 1) * 1 ≤ 16777216
          omega
        have lj := join_len ⟨#[s0]⟩ bits
        have e1 : (nmL ⟨#[s0]⟩).length = 1 := rfl
        refine .inr (.inl ⟨_, _, rfl, rfl, le_line (by show 1 + (Txt.join " " (⟨#[s0]⟩ :: bits)).length ≤ 16000000; omega), .inr (.inl ⟨_, _, rfl, rfl, le_line (by rw [app_len]; show 1 + (Txt.join " " (⟨#[s0]⟩ :: bits)).length + 1 ≤ 16000000; omega), ?_⟩)⟩)
        rw [brack_gen]
        have e2 : (40 :: (nmL ⟨#[s0]⟩ ++ (blN bits ++ [41]))) = tx := by rw [etx]; rfl
        rw [e2]
        exact k _ (s1.trans ((same_new hq).trans (same_new hp)))
      cases hT with
      | name h => exact absurd rfl hty
      | @df _ x h =>
        obtain ⟨t, v1, v2, rfl, hT0, g1, g2⟩ := hd.tup2
        cases g1.strInv
        cases g2.strInv
        refine ⟨_, rfl, t, _, 0, _, rfl, rfl, hT0, at_zero, rfl, _, rfl, iteST rfl ?_⟩
        have l8 := (nm_cases h).2.1
        refine ⟨_, rfl, t, _, 1, _, rfl, rfl, hT0, rfl, .inr (.inl ⟨_, _, rfl, rfl, le_line (by show 1 + x.length ≤ 16000000; omega), ?_⟩)⟩
        have e : (("@" : Str) ++ x) = ⟨(64 :: nmL x).toArray⟩ := str_ext (by rw [app_list]; simp; rfl)
        rw [e]
        exact k H (Same.refl H)
      | @lam _ m x kd u ux uk h hk hu =>
        obtain ⟨t, a1, a2, a3, a4, rfl, hT0, g1, g2, g3, g4⟩ := hd.tup4
        cases g1.strInv
        cases g2.strInv
        refine ⟨_, rfl, t, _, 0, _, rfl, rfl, hT0, at_zero, rfl, _, rfl, iteSF (by decide +kernel) ?_⟩
        refine ⟨fun σ H1 => ∃ (s0 : Nat) (ys : List V) (B : Addr) (bits : List Str) (v2 v3 v4 : Option V), σ = [some (.ref t), some (.ref B), v2, v3, v4] ∧ SqT K H t (.str ⟨#[s0]⟩ :: ys) ∧ Same H H1 ∧ H1 B = some (.lst (bits.map V.str)) ∧ _ = 40 :: s0 :: (blN bits ++ [41]), ?_, fun σ H1 ⟨s0, ys, B, bits, v2, v3, v4, e0, e1, e2, e3, e4⟩ => e0 ▸ fin t s0 ys H1 B bits v2 v3 v4 e1 e2 e3 e4⟩
        refine ⟨_, rfl, t, _, 0, _, rfl, rfl, hT0, at_zero, rfl, _, rfl, iteST rfl ?_⟩
        refine ⟨_, rfl, t, _, 1, _, rfl, rfl, hT0, rfl, ?_⟩
        refine ⟨_, rfl, t, _, 2, _, rfl, rfl, hT0, rfl, N, a3, kd, rfl, g3, hk, fun H1 s1 => ?_⟩
        refine ⟨_, rfl, t, _, 3, _, rfl, rfl, sqT_same s1 hT0, rfl, N, a4, u, ux, uk, m, rfl, g4.same s1, hu, ?_, fun H2 s2 => ?_⟩
        · simp only [List.length_cons, List.length_append] at hx
          omega
        refine ⟨le_line (by show 3 ≤ 16000000; decide), fun B hB => ⟨94, _, B, [x, ⟨(ktL 6 kd).toArray⟩, ⟨ux.toArray⟩], _, _, _, rfl, hT0, (s1.trans s2).trans (same_new hB), upd_same, ?_⟩⟩
        rw [bl_cons, bl_cons, bl_one]
        simp
      | @two _ m m' s0 u1 u2 tx1 ux1 tk1 uk1 hs hu1 hu2 =>
        obtain ⟨t, a1, a2, a3, rfl, hT0, g1, g2, g3⟩ := hd.tup3
        cases g1.strInv
        simp only [List.length_cons, List.length_append] at hx
        refine ⟨_, rfl, t, _, 0, _, rfl, rfl, hT0, at_zero, rfl, _, rfl, iteSF (sgn_ne (c := 64) (by omega)) ?_⟩
        refine ⟨fun σ H1 => ∃ (s0 : Nat) (ys : List V) (B : Addr) (bits : List Str) (v2 v3 v4 : Option V), σ = [some (.ref t), some (.ref B), v2, v3, v4] ∧ SqT K H t (.str ⟨#[s0]⟩ :: ys) ∧ Same H H1 ∧ H1 B = some (.lst (bits.map V.str)) ∧ _ = 40 :: s0 :: (blN bits ++ [41]), ?_, fun σ H1 ⟨s0, ys, B, bits, v2, v3, v4, e0, e1, e2, e3, e4⟩ => e0 ▸ fin t s0 ys H1 B bits v2 v3 v4 e1 e2 e3 e4⟩
        refine ⟨_, rfl, t, _, 0, _, rfl, rfl, hT0, at_zero, rfl, _, rfl, iteSF (sgn_ne (c := 94) (by omega)) ?_⟩
        refine ⟨_, rfl, t, _, 0, _, rfl, rfl, hT0, at_zero, rfl, _, rfl, iteSF (sgn_ne (c := 35) (by omega)) ?_⟩
        refine ⟨_, rfl, t, _, 0, _, rfl, rfl, hT0, at_zero, rfl, _, rfl, iteSF (sgn_ne (c := 63) (by omega)) ?_⟩
        refine ⟨_, rfl, t, _, 0, _, rfl, rfl, hT0, at_zero, le_line (by show 2 ≤ 16000000; decide), fun q hq => ⟨q, m2.map V.str, rfl, .inr (SqT.of upd_same), rfl, rfl, _, rfl, ?_⟩⟩
        have sq : Same H (upd H q (.tup (m2.map V.str))) := same_new hq
        refine iteInF (fun bad => by
          simp only [List.mem_cons, List.not_mem_nil, or_false] at bad
          rcases bad with bad | bad
          · exact sgn_ne (c := 47) (by omega) bad
          · exact sgn_ne (c := 43) (by omega) bad) ?_
        refine ⟨_, rfl, t, _, 1, _, rfl, rfl, sqT_same sq hT0, rfl, N, a2, u1, tx1, tk1, m, rfl, g2.same sq, hu1, by omega, fun H1 s1 => ?_⟩
        refine ⟨_, rfl, t, _, 2, _, rfl, rfl, sqT_same (sq.trans s1) hT0, rfl, N, a3, u2, ux1, uk1, m', rfl, g3.same (sq.trans s1), hu2, by omega, fun H2 s2 => ?_⟩
        refine ⟨le_line (by show 2 ≤ 16000000; decide), fun B hB => ⟨s0, _, B, [⟨tx1.toArray⟩, ⟨ux1.toArray⟩], _, _, _, rfl, hT0, ((sq.trans s1).trans s2).trans (same_new hB), upd_same, ?_⟩⟩
        rw [bl_cons, bl_one]
        simp
      | @five _ m m' s0 x y u1 u2 tx1 ux1 tk1 uk1 hs hx1 hy1 hne hu1 hu2 =>
        obtain ⟨t, a1, a2, a3, a4, a5, rfl, hT0, g1, g2, g3, g4, g5⟩ := hd.tup5
        cases g1.strInv
        cases g3.strInv
        cases g4.strInv
        simp only [List.length_cons, List.length_append] at hx
        refine ⟨_, rfl, t, _, 0, _, rfl, rfl, hT0, at_zero, rfl, _, rfl, iteSF (sgn_ne (c := 64) (by omega)) ?_⟩
        refine ⟨fun σ H1 => ∃ (s0 : Nat) (ys : List V) (B : Addr) (bits : List Str) (v2 v3 v4 : Option V), σ = [some (.ref t), some (.ref B), v2, v3, v4] ∧ SqT K H t (.str ⟨#[s0]⟩ :: ys) ∧ Same H H1 ∧ H1 B = some (.lst (bits.map V.str)) ∧ _ = 40 :: s0 :: (blN bits ++ [41]), ?_, fun σ H1 ⟨s0, ys, B, bits, v2, v3, v4, e0, e1, e2, e3, e4⟩ => e0 ▸ fin t s0 ys H1 B bits v2 v3 v4 e1 e2 e3 e4⟩
        refine ⟨_, rfl, t, _, 0, _, rfl, rfl, hT0, at_zero, rfl, _, rfl, iteSF (sgn_ne (c := 94) (by omega)) ?_⟩
        refine ⟨_, rfl, t, _, 0, _, rfl, rfl, hT0, at_zero, rfl, _, rfl, iteSF (sgn_ne (c := 35) (by omega)) ?_⟩
        refine ⟨_, rfl, t, _, 0, _, rfl, rfl, hT0, at_zero, rfl, _, rfl, iteSF (sgn_ne (c := 63) (by omega)) ?_⟩
        refine ⟨_, rfl, t, _, 0, _, rfl, rfl, hT0, at_zero, le_line (by show 2 ≤ 16000000; decide), fun q hq => ⟨q, m2.map V.str, rfl, .inr (SqT.of upd_same), rfl, rfl, _, rfl, ?_⟩⟩
        have sq : Same H (upd H q (.tup (m2.map V.str))) := same_new hq
        refine iteInT (five_m2 hs) ?_
        refine ⟨_, rfl, t, _, 1, _, rfl, rfl, sqT_same sq hT0, rfl, N, a2, u1, tx1, tk1, m, rfl, g2.same sq, hu1, by omega, fun H1 s1 => ?_⟩
        have s01 := sq.trans s1
        refine ⟨_, rfl, t, _, 2, _, rfl, rfl, sqT_same s01 hT0, rfl, _, rfl, t, _, 3, _, rfl, rfl, sqT_same s01 hT0, rfl, ?_⟩
        refine ⟨_, rfl, t, _, 4, _, rfl, rfl, sqT_same s01 hT0, rfl, N, a5, u2, ux1, uk1, m', rfl, g5.same s01, hu2, by omega, fun H2 s2 => ?_⟩
        refine ⟨le_line (by show 4 ≤ 16000000; decide), fun B hB => ⟨s0, _, B, [⟨tx1.toArray⟩, x, y, ⟨ux1.toArray⟩], _, _, _, rfl, hT0, (s01.trans s2).trans (same_new hB), upd_same, ?_⟩⟩
        rw [bl_cons, bl_cons, bl_cons, bl_one]
        simp
      | @mk _ m c ts tx1 tk1 hc hl hu =>
        obtain ⟨t, a1, a2, a3, rfl, hT0, g1, g2, g3⟩ := hd.tup3
        cases g1.strInv
        cases g2.strInv
        simp only [List.length_cons, List.length_append] at hx
        refine ⟨_, rfl, t, _, 0, _, rfl, rfl, hT0, at_zero, rfl, _, rfl, iteSF (by decide +kernel) ?_⟩
        refine ⟨fun σ H1 => ∃ (s0 : Nat) (ys : List V) (B : Addr) (bits : List Str) (v2 v3 v4 : Option V), σ = [some (.ref t), some (.ref B), v2, v3, v4] ∧ SqT K H t (.str ⟨#[s0]⟩ :: ys) ∧ Same H H1 ∧ H1 B = some (.lst (bits.map V.str)) ∧ _ = 40 :: s0 :: (blN bits ++ [41]), ?_, fun σ H1 ⟨s0, ys, B, bits, v2, v3, v4, e0, e1, e2, e3, e4⟩ => e0 ▸ fin t s0 ys H1 B bits v2 v3 v4 e1 e2 e3 e4⟩
        refine ⟨_, rfl, t, _, 0, _, rfl, rfl, hT0, at_zero, rfl, _, rfl, iteSF (by decide +kernel) ?_⟩
        refine ⟨_, rfl, t, _, 0, _, rfl, rfl, hT0, at_zero, rfl, _, rfl, iteST rfl ?_⟩
        obtain ⟨ta, zs, rfl, hTa, hAa⟩ := g3.tupInv
        have hlz := hAa.length
        refine ⟨_, rfl, t, _, 1, _, rfl, rfl, hT0, rfl, le_line (by show 1 ≤ 16000000; decide), fun q hq => ?_⟩
        have sq : Same H (upd H q (.lst [V.str c])) := same_new hq
        refine ⟨_, rfl, t, _, 2, _, rfl, rfl, sqT_same sq hT0, rfl, ta, rfl, ⟨_, sqT_same sq hTa⟩, fun L hL => ?_⟩
        refine lc_tup (K := K) (xs := zs) (fun i H' => ∃ (ts1 ts2 : List PyData) (sx2 : List Nat) (sk2 : List (List Nat)) (m2 : Nat) (bits : List Str), ts = ts1 ++ ts2 ∧ ts1.length = i ∧ TS j ts2 sx2 sk2 m2 ∧ tx1 = blN bits ++ sx2 ∧ H' L = some (.lst (bits.map V.str)) ∧ bits.length = i ∧ Same (upd H q (.lst [V.str c])) H') ⟨[], ts, tx1, tk1, m, [], rfl, rfl, hu, rfl, upd_same, rfl, same_new hL⟩ (fun i H' _ ⟨_, _, _, _, _, _, _, _, _, _, _, _, s9⟩ => sqT_same (sq.trans s9) hTa) ?_ ?_
        · rintro i o H1 ho ⟨ts1, ts2, sx2, sk2, m2, bits, ets, el1, hTS, etx, eL, lbits, s1⟩
          obtain ⟨d1, hd1, dd1⟩ := hAa.get ho
          have hj : i < ts.length := (List.getElem?_eq_some_iff.mp hd1).1
          cases hTS with
          | nil =>
            rw [ets, List.append_nil] at hj
            omega
          | @cons _ m3 m4 t1 ts3 tx3 sx3 tk3 sk3 h3 hr3 =>
            have e1 : d1 = t1 := by
              rw [ets, List.getElem?_append_right (by omega), el1, Nat.sub_self] at hd1
              exact (Option.some.inj hd1).symm
            subst e1
            have l3 := congrArg List.length etx
            rw [List.length_append, List.length_cons, List.length_append] at l3
            refine ⟨rfl, ?_⟩
            simp only [tYes, if_true]
            refine ⟨_, rfl, N, o, d1, tx3, tk3, m3, rfl, dd1.same (sq.trans s1), h3, by omega, fun H2 s2 => ?_⟩
            refine ⟨_, s2 _ _ eL, lt_line (by rw [List.length_map]; omega), ts1 ++ [d1], ts3, sx3, sk3, m4, bits ++ [⟨tx3.toArray⟩], by rw [ets, List.append_assoc]; rfl, by rw [List.length_append, el1]; rfl, hr3, ?_, ?_, by rw [List.length_append, lbits]; rfl, Same.mut (s1.trans s2) hL⟩
            · rw [etx, bl_app, bl_one, List.append_assoc, str_mk]
              rfl
            · rw [upd_same, List.map_append]
              rfl
        · rintro H1 ⟨ts1, ts2, sx2, sk2, m2, bits, ets, el1, hTS, etx, eL, lbits, s1⟩
          have e0 : ts2 = [] := by
            have e := congrArg List.length ets
            rw [List.length_append] at e
            exact List.length_eq_zero_iff.mp (by omega)
          subst e0
          cases hTS
          rw [List.append_nil] at etx
          subst etx
          refine .inr (.inr (.inr ⟨q, L, [V.str c], bits.map V.str, rfl, rfl, s1 _ _ upd_same, eL, le_line (by rw [List.length_map]; show 1 + bits.length ≤ 16000000; omega), fun B hB => ?_⟩))
          refine ⟨35, _, B, c :: bits, _, _, _, rfl, hT0, (sq.trans s1).trans (same_new hB), upd_same, ?_⟩
          rw [bl_cons]
          simp
      | @ch _ m m' u1 cs tx1 cx1 tk1 ck1 hu h1 h6 hC =>
        obtain ⟨t, a1, a2, a3, rfl, hT0, g1, g2, g3⟩ := hd.tup3
        cases g1.strInv
        simp only [List.length_cons, List.length_append] at hx
        refine ⟨_, rfl, t, _, 0, _, rfl, rfl, hT0, at_zero, rfl, _, rfl, iteSF (by decide +kernel) ?_⟩
        refine ⟨fun σ H1 => ∃ (s0 : Nat) (ys : List V) (B : Addr) (bits : List Str) (v2 v3 v4 : Option V), σ = [some (.ref t), some (.ref B), v2, v3, v4] ∧ SqT K H t (.str ⟨#[s0]⟩ :: ys) ∧ Same H H1 ∧ H1 B = some (.lst (bits.map V.str)) ∧ _ = 40 :: s0 :: (blN bits ++ [41]), ?_, fun σ H1 ⟨s0, ys, B, bits, v2, v3, v4, e0, e1, e2, e3, e4⟩ => e0 ▸ fin t s0 ys H1 B bits v2 v3 v4 e1 e2 e3 e4⟩
        refine ⟨_, rfl, t, _, 0, _, rfl, rfl, hT0, at_zero, rfl, _, rfl, iteSF (by decide +kernel) ?_⟩
        refine ⟨_, rfl, t, _, 0, _, rfl, rfl, hT0, at_zero, rfl, _, rfl, iteSF (by decide +kernel) ?_⟩
        refine ⟨_, rfl, t, _, 0, _, rfl, rfl, hT0, at_zero, rfl, _, rfl, iteST rfl ?_⟩
        refine ⟨_, rfl, t, _, 1, _, rfl, rfl, hT0, rfl, N, a2, u1, tx1, tk1, m, rfl, g2, hu, by omega, fun H1 s1 => ?_⟩
        refine ⟨le_line (by show 1 ≤ 16000000; decide), fun L hL => ?_⟩
        have sL := s1.trans (same_new (o := .lst [V.str ⟨tx1.toArray⟩]) hL)
        have hL0 := none_same s1 hL
        obtain ⟨ta, zs, rfl, hTa, hAa⟩ := g3.tupInv
        have hlz := hAa.length
        refine ⟨_, rfl, t, _, 2, _, rfl, rfl, sqT_same sL hT0, rfl, ta, rfl, ⟨_, sqT_same sL hTa⟩, for_tup (K := K) (xs := zs) (fun i σ H' => ∃ (cs1 cs2 : List PyData) (sx2 : List Nat) (sk2 : List (List Nat)) (m2 : Nat) (bits : List Str) (v2 v3 v4 : Option V), σ = [some (.ref t), some (.ref L), v2, v3, v4] ∧ cs = cs1 ++ cs2 ∧ cs1.length = i ∧ TC j cs2 sx2 sk2 m2 ∧ 32 :: (tx1 ++ cx1) = blN bits ++ sx2 ∧ H' L = some (.lst (bits.map V.str)) ∧ bits.length = i + 1 ∧ Same H H')
          ⟨[], cs, cx1, ck1, m', [⟨tx1.toArray⟩], none, none, none, rfl, rfl, rfl, hC, by rw [bl_one, str_mk]; rfl, upd_same, rfl, sL⟩ (fun i σ H' _ ⟨_, _, _, _, _, _, _, _, _, _, _, _, _, _, _, _, s9⟩ => sqT_same s9 hTa) ?_ ?_⟩
        · rintro i o σ H2 ho ⟨cs1, cs2, sx2, sk2, m2, bits, v2, v3, v4, rfl, ecs, el1, hTC, etx, eL, lbits, s2⟩
          obtain ⟨d1, hd1, dd1⟩ := hAa.get ho
          have hj : i < cs.length := (List.getElem?_eq_some_iff.mp hd1).1
          cases hTC with
          | nil =>
            rw [ecs, List.append_nil] at hj
            omega
          | @cons _ m3 m4 c xs' u cs3 ux cx uk ck hc hl hxs hu' h3 hr3 =>
            have e1 : d1 = .tuple [.str c, .tuple (xs'.map strD), u] := by
              rw [ecs, List.getElem?_append_right (by omega), el1, Nat.sub_self] at hd1
              exact (Option.some.inj hd1).symm
            subst e1
            obtain ⟨t3, x3, y3, z3, rfl, hT3, g1, g2, g3⟩ := dd1.tup3
            cases g1.strInv
            obtain ⟨tn, rfl, hTn⟩ := g2.names
            have l3 := congrArg List.length etx
            simp only [List.length_cons, List.length_append] at l3
            refine ⟨t3, _, rfl, sqT_same s2 hT3, rfl, _, _, rfl, _, _, rfl, _, _, rfl, rfl, ?_⟩
            refine ⟨_, rfl, .inl ⟨rfl, _, SqL.of eL⟩, ⟨_, rfl⟩, ?_⟩
            refine ⟨_, rfl, le_line (by show 1 ≤ 16000000; decide), fun q1 hq1 => ?_⟩
            have sa := s2.trans (same_new (o := .lst [V.str c]) hq1)
            refine ⟨_, rfl, tn, _, rfl, .inr (sqT_same sa hTn), fun q2 hq2 => ?_⟩
            have sb := sa.trans (same_new (o := .lst (xs'.map V.str)) hq2)
            refine .inr (.inr (.inr ⟨q1, q2, [V.str c], xs'.map V.str, rfl, rfl, same_new hq2 _ _ upd_same, upd_same, le_line (by rw [List.length_map]; show 1 + xs'.length ≤ 16000000; omega), fun q3 hq3 => ?_⟩))
            have sc := sb.trans (same_new (o := .lst ([V.str c] ++ xs'.map V.str)) hq3)
            have e3 : (upd (upd (upd H2 q1 (.lst [V.str c])) q2 (.lst (xs'.map V.str))) q3 (.lst ([V.str c] ++ xs'.map V.str))) q3 = some (.lst ([V.str c] ++ xs'.map V.str)) := upd_same
            have eLc := (((same_new (o := .lst [V.str c]) hq1).trans (same_new (o := .lst (xs'.map V.str)) hq2)).trans (same_new (o := .lst ([V.str c] ++ xs'.map V.str)) hq3)) _ _ eL
            generalize (upd (upd (upd H2 q1 (.lst [V.str c])) q2 (.lst (xs'.map V.str))) q3 (.lst ([V.str c] ++ xs'.map V.str))) = H5 at sc e3 eLc
            refine ⟨_, rfl, N, z3, u, ux, uk, m3, rfl, g3.same sc, h3, by omega, fun H6 s6 => ?_⟩
            refine ⟨le_line (by show 2 ≤ 16000000; decide), fun q4 hq4 => ?_⟩
            have s64 := s6.trans (same_new (o := .lst [V.str ":", .str ⟨ux.toArray⟩]) hq4)
            refine .inr (.inr (.inr ⟨q3, q4, _, _, rfl, rfl, s64 _ _ e3, upd_same, le_line (by rw [List.length_append, List.length_map]; show 1 + xs'.length + 2 ≤ 16000000; omega), fun q5 hq5 => ?_⟩))
            have s65 := s64.trans (same_new (o := .lst (([V.str c] ++ xs'.map V.str) ++ [V.str ":", .str ⟨ux.toArray⟩])) hq5)
            have lxs := bl_len (xs' ++ [Str.ofString ":", ⟨ux.toArray⟩])
            have lbl : (blN (xs' ++ [Str.ofString ":", ⟨ux.toArray⟩])).length = (blN xs').length + (2 + (1 + ux.length)) := by
              rw [bl_app, List.length_append, bl_cons, bl_one]
              simp only [List.length_cons, List.length_append, str_mk]
              have : (nmL (Str.ofString ":")).length = 1 := rfl
              omega
            have lc8 := (nm_cases hc).2.1
            have ec : (nmL c).length = c.length := rfl
            refine ⟨" ", q5, c :: (xs' ++ [Str.ofString ":", ⟨ux.toArray⟩]), rfl, rfl, .inl (SqL.of (by rw [upd_same]; simp)), ?_, ?_⟩
            · show c.length + ((xs' ++ [Str.ofString ":", ⟨ux.toArray⟩]).map (·.length)).sum + ((xs' ++ [Str.ofString ":", ⟨ux.toArray⟩]).length + 1) * 1 ≤ 16777216
              omega
            have lj := join_len c (xs' ++ [Str.ofString ":", ⟨ux.toArray⟩])
            refine .inr (.inl ⟨_, _, rfl, rfl, le_line (by show 1 + (Txt.join " " (c :: (xs' ++ [Str.ofString ":", ⟨ux.toArray⟩]))).length ≤ 16000000; omega), .inr (.inl ⟨_, _, rfl, rfl, le_line (by rw [app_len]; show 1 + (Txt.join " " (c :: (xs' ++ [Str.ofString ":", ⟨ux.toArray⟩]))).length + 1 ≤ 16000000; omega), ?_⟩)⟩)
            rw [brack_gen]
            refine ⟨L, _, _, rfl, rfl, s65 _ _ eLc, lt_line (by rw [List.length_map]; omega), ?_⟩
            refine ⟨cs1 ++ [_], cs3, cx, ck, m4, bits ++ [⟨(40 :: (nmL c ++ (blN (xs' ++ [Str.ofString ":", ⟨ux.toArray⟩]) ++ [41]))).toArray⟩], _, _, _, rfl, by rw [ecs, List.append_assoc]; rfl, by rw [List.length_append, el1]; rfl, hr3, ?_, ?_, by rw [List.length_append, lbits]; rfl, Same.mut (sc.trans s65) hL0⟩
            · rw [etx, bl_app, bl_one, List.append_assoc, str_mk, bl_app, bl_cons, bl_one, str_mk]
              have : nmL (Str.ofString ":") = [58] := rfl
              rw [this]
              simp
            · rw [upd_same, List.map_append]
              rfl
        · rintro σ H2 ⟨cs1, cs2, sx2, sk2, m2, bits, v2, v3, v4, rfl, ecs, el1, hTC, etx, eL, lbits, s2⟩
          have e0 : cs2 = [] := by
            have e := congrArg List.length ecs
            rw [List.length_append] at e
            exact List.length_eq_zero_iff.mp (by omega)
          subst e0
          cases hTC
          rw [List.append_nil] at etx
          refine ⟨63, _, L, bits, v2, v3, v4, rfl, hT0, s2, eL, ?_⟩
          rw [← etx]
          simp
end

section
variable {P : Program} {w : World} {K : PySem.W.Frag} {mg : Str → Option Value} {base : Heap}
theorem ok_tokensT (D : DefAt K mg "_law_tokens" s_law_tokens ["_law_text"]) (T : Bl mg) : CallOk P w K mg base 1 "_law_tokens" ["_law_text"] (spTokensT K) := by
  refine D.ok sc_law_tokens (fun vs H Q E h => ?_) (fun f cdv A outer s H vs Q E hr h => ?_)
  · obtain ⟨x, rfl, _⟩ := h
    rfl
  · obtain ⟨x, rfl, hx, k⟩ := h
    refine ⟨_, (pss_cons (ps_set (i := 1) sc_law_tokens.nd rfl (Or.inl rfl) (pe_lst pa_nil))
        (pss_cons (ps_set (i := 2) sc_law_tokens.nd rfl (Or.inl rfl) pe_bl)
        (pss_cons (ps_for PassesOwn.never rfl (pi_str (pv 0)) (pg_name (i := 3) sc_law_tokens.nd rfl (Or.inl rfl) (by first | exact .inl rfl | exact .inr rfl)) (pss_cons (ps_set (i := 4) sc_law_tokens.nd rfl (Or.inl rfl) (pe_cmpR op_in_sign (pv 3) pe_str (by rfl)))
        (Evl.pss_cut (ps_if (PW.pt (pw_and (pt_val (pv 4)) (pw_and1 (pt_val (pv 2))))) (pss_one (ps_asg (pe_op opAdd (pe_ix ix_list (pv 1) (pe_un un_neg pe_int) (fun _ _ => rfl)) (pv 3)) (pg_sub (pv 1) (pe_un un_neg pe_int) set_list))) (pss_one (ps_if (pt_cmpR op_notIn_sign (pv 3) pe_str (by rfl)) (pss_one (ps_expr (pe_bm PySem.F.plainAttrs_list PySem.F.slot_list_append PySem.F.type_list_append mt_append (pv 1) (pa_cons (pv 3) pa_nil)))) pss_nil)))
        (pss_one (ps_set (i := 2) sc_law_tokens.nd rfl (Or.inl rfl) (pv 4))))))
        (pss_one (ps_ret (pv 1)))))), ?_⟩
    refine ⟨Nat.zero_le _, fun q hq => ?_⟩
    refine ⟨_, rfl, x, rfl, for_str (fun i σ H' => ∃ v3 v4, σ = [some (.str x), some (.ref q), some (.bl ((x.cps.toList.take i).foldl tstep ([], false)).2), v3, v4] ∧ H' q = some (.lst (((x.cps.toList.take i).foldl tstep ([], false)).1.map vW)) ∧ Same H H' ∧ TSt ((x.cps.toList.take i).foldl tstep ([], false)) i)
      ⟨none, none, rfl, upd_same, same_new hq, ⟨(fun z => nomatch z), Nat.le_refl _, fun w hw => nomatch hw⟩⟩ ?_ ?_⟩
    · rintro i c σ H1 hc ⟨v3, v4, rfl, e1, s1, st⟩
      have hi : i < 1000000 := by
        have := (List.getElem?_eq_some_iff.mp hc).1
        have l : x.cps.toList.length = x.length := rfl
        omega
      have enext : (x.cps.toList.take (i + 1)).foldl tstep ([], false) = tstep ((x.cps.toList.take i).foldl tstep ([], false)) c := by
        rw [List.take_add_one, hc, List.foldl_append]
        rfl
      rw [enext]
      have st' := st.step (c := c)
      generalize (x.cps.toList.take i).foldl tstep ([], false) = z at e1 st st' ⊢
      obtain ⟨ws, b⟩ := z
      dsimp only at e1
      refine ⟨_, rfl, c, abc, rfl, rfl, ?_⟩
      refine ⟨fun σ H' => σ = [some (.str x), some (.ref q), some (.bl b), some (.str ⟨#[c]⟩), some (.bl (ltr c))] ∧ H' q = some (.lst ((tstep (ws, b) c).1.map vW)) ∧ Same H H', ?_, ?_⟩
      · show tIfS _ _ _ _ [some (.str x), some (.ref q), some (.bl b), some (.str ⟨#[c]⟩), some (.bl (ltr c))] H1
        cases hl : (ltr c && b) with
        | true =>
          simp only [Bool.and_eq_true] at hl
          obtain ⟨hl, rfl⟩ := hl
          obtain ⟨us, u, eu⟩ := st.op rfl
          dsimp only at eu
          subst eu
          have hu := st.wl u (by simp)
          have lu : (⟨u.toArray⟩ : Str).length ≤ 1000000 := by
            show u.toArray.size ≤ 1000000
            rw [List.size_toArray]
            omega
          rw [tstep_more hl, hl]
          rw [List.map_append] at e1
          have eat : atI (us.map vW ++ [u].map vW) (-1) = some (vW u) := at_last0 _ _
          refine ⟨_, rfl, _, rfl, iteTx rfl ⟨_, rfl, _, rfl, iteTx rfl ?_⟩⟩
          refine ⟨_, rfl, _, rfl, q, _, -1, vW u, rfl, rfl, SqL.of e1, eat, _, rfl, .inr (.inl ⟨_, _, rfl, rfl, le_line ?_, ?_⟩)⟩
          · show (⟨u.toArray⟩ : Str).length + 1 ≤ 16000000
            omega
          · refine ⟨_, rfl, _, rfl, q, _, -1, (us.map vW).length, rfl, rfl, e1, ix_last0 _ _, rfl, ?_, Same.mut s1 hq⟩
            rw [upd_same]
            show some (HO.lst ((us.map vW ++ [vW u]).set (us.map vW).length _)) = _
            rw [set_last0, List.map_append]
            congr 3
            show _ = [V.str ⟨(u ++ [c]).toArray⟩]
            congr 2
            refine str_ext ?_
            rw [app_list]
        | false =>
          have step2 : tIfS (tTest (tOp (fun x y H Q => ∃ c z, x = V.str { cps := #[c] } ∧ y = V.str z ∧ Q (V.bl !decide (c ∈ z.cps.toList)) H) (tVar 3) (tC (V.str (Str.ofString " \n"))))) (tDrop (tBM K "list" rAppend (tVar 1) (tCons (tVar 3) tNil))) tNext
              { nx := fun σ H' => σ = [some (.str x), some (.ref q), some (.bl b), some (.str ⟨#[c]⟩), some (.bl (ltr c))] ∧ H' q = some (.lst ((tstep (ws, b) c).1.map vW)) ∧ Same H H', rt := Q } [some (.str x), some (.ref q), some (.bl b), some (.str ⟨#[c]⟩), some (.bl (ltr c))] H1 := by
            refine ⟨_, rfl, c, blanks, rfl, rfl, _, rfl, ?_⟩
            cases hb : bl c with
            | true =>
              refine iteFx (by show (!bl c) = false; rw [hb]; rfl) ?_
              exact ⟨rfl, by rw [tstep_bl hb]; exact e1, s1⟩
            | false =>
              refine iteTx (by show (!bl c) = true; rw [hb]; rfl) ?_
              have lw : (ws.map vW).length ≤ 1000000 := by
                rw [List.length_map]
                have := st.len
                dsimp only at this
                omega
              refine ⟨_, rfl, .inl ⟨rfl, _, SqL.of e1⟩, _, rfl, q, _, _, rfl, rfl, e1, lt_line (by omega), ?_⟩
              refine ⟨rfl, ?_, Same.mut s1 hq⟩
              rw [upd_same, tstep_new hl hb, List.map_append]
              rfl
          cases hlt : ltr c with
          | true =>
            rw [hlt] at hl step2
            have hb0 : b = false := by simpa using hl
            subst hb0
            exact ⟨_, rfl, _, rfl, iteTx rfl ⟨_, rfl, _, rfl, iteF step2⟩⟩
          | false =>
            rw [hlt] at step2
            exact ⟨_, rfl, _, rfl, iteF (iteF step2)⟩
      · rintro σ H2 ⟨rfl, e2, s2⟩
        refine ⟨_, rfl, some (.str ⟨#[c]⟩), some (.bl (ltr c)), ?_, e2, s2, st'⟩
        rw [tstep_snd]
        rfl
    · rintro σ H1 ⟨v3, v4, rfl, e1, s1, _⟩
      rw [List.take_of_length_le (Nat.le_refl _)] at e1
      exact ⟨_, rfl, k q H1 e1 s1⟩
end

section
variable {P : Program} {w : World} {K : PySem.W.Frag} {mg : Str → Option Value} {base : Heap}
theorem ok_dressedT (D : DefAt K mg "_law_dressed" s_law_dressed ["_law_pen_here", "_law_text"]) (T : Bl mg) (C_law_draw : CallOk P w K mg base 2 "_law_draw" ["_law_pen_here", "_law_below"] spDraw) (C_law_tokens : CallOk P w K mg base 1 "_law_tokens" ["_law_text"] (spTokensT K)) :
    CallOk P w K mg base 3 "_law_dressed" ["_law_pen_here", "_law_text"] (spDressedT K) := by
  refine D.ok sc_law_dressed (fun vs H Q E h => ?_) (fun f cdv A outer s H vs Q E hr h => ?_)
  · obtain ⟨p, c, tx, tk, rfl, _⟩ := h
    rfl
  · obtain ⟨p, c, tx, tk, rfl, hP, hq0, hk0, hl0, k⟩ := h
    refine ⟨_, (pss_cons (ps_set (i := 2) sc_law_dressed.nd rfl (Or.inl rfl) pe_str)
        (pss_cons (ps_set (i := 3) sc_law_dressed.nd rfl (Or.inl rfl) pe_str)
        (pss_cons (ps_for PassesOwn.never rfl (pi_list (pe_callOk C_law_tokens hr (by omega) (by rfl) (pa_cons (pv 1) pa_nil))) (pg_name (i := 4) sc_law_dressed.nd rfl (Or.inl rfl) (by first | exact .inl rfl | exact .inr rfl)) (pss_cons (ps_set (i := 5) sc_law_dressed.nd rfl (Or.inl rfl) (pe_callTy call_int1 (by rfl) T.int_ (by decide +kernel) (pa_cons (pe_and (pe_cmpR op_in_sign (pe_ix ix_str (pv 3) (pe_un un_neg pe_int) (fun _ _ => rfl)) pe_str (by rfl)) (pe_one (pe_cmpR op_in_sign (pe_ix ix_str (pv 4) pe_int (fun _ _ => rfl)) pe_str (by rfl)))) pa_nil)))
        (pss_cons (ps_set (i := 6) sc_law_dressed.nd rfl (Or.inl rfl) (pe_callB (call_max2 rfl) (by rfl) T.max_ (by decide +kernel) (pa_cons (pv 5) (pa_cons (pe_ix ix_list (pe_lst (pa_cons pe_int (pa_cons pe_int (pa_cons pe_int (pa_cons pe_int pa_nil))))) (pe_callOk C_law_draw hr (by omega) (by rfl) (pa_cons (pv 0) (pa_cons pe_int pa_nil))) (fun _ _ => rfl)) pa_nil))))
        (pss_cons (ps_set (i := 2) sc_law_dressed.nd rfl (Or.inl rfl) (pe_op opAdd (pe_op opAdd (pv 2) (pe_join pe_str (pe_lc (own := [("_law_k", 7)]) (g := gName 7) (tt := tYes) rfl sc_law_dressed.nd (pi_range1 (by rfl) T.range_ (pa_cons (pv 6) pa_nil)) (blkOk_by (N := sl_law_dressed) (sc := defScope s_law_dressed) (by decide +kernel)) (fun _ _ _ _ _ => pg_name (i := 7) sc_law_dressed.nd rfl (Or.inl rfl)) (fun _ _ _ _ _ => pts_nil) (fun _ _ _ _ _ => (pe_ix ix_str pe_str (pe_callOk C_law_draw hr (by omega) (by rfl) (pa_cons (pv 0) (pa_cons pe_int pa_nil))) (fun _ _ => rfl)))))) (pv 4)))
        (pss_one (ps_set (i := 3) sc_law_dressed.nd rfl (Or.inl rfl) (pv 4)))))))
        (pss_one (ps_ret (pe_op opAdd (pv 2) (pe_slice sl_str pe_str po_none (po_some (pe_callOk C_law_draw hr (by omega) (by rfl) (pa_cons (pv 0) (pa_cons pe_int pa_nil))))))))))), ?_⟩
    obtain ⟨lw, ww, smw, etk⟩ := tq_sizes hq0
    have hne : ∀ w ∈ tk, w ≠ [] := fun w hw => (hq0.ne w hw).ne
    refine ⟨_, rfl, _, rfl, by rw [len_mk]; omega, fun L H1 hL s1 => ?_⟩
    have hL' : H1 L = some (.lst (tk.map vW)) := by
      rw [← etk]
      exact hL
    have hP1 : Pen H1 p c := hP.same s1
    have nLp : L ≠ p := fun e => by
      rw [e] at hL'
      obtain ⟨⟨z, r, h1⟩, _⟩ := hP1
      rw [h1] at hL'
      cases ht : tk with
      | nil =>
        rw [ht] at hL'
        cases hL'
      | cons a b =>
        rw [ht] at hL'
        cases hL'
    generalize hws : tk = ws at k lw ww smw hne hL'
    refine ⟨L, rfl, ⟨_, SqL.of hL'⟩, for_list (K := K) (xs := ws.map vW) (fun i σ H' => ∃ (f l : Str) (v4 v5 v6 v7 : Option V), σ = [some (.ref p), some (.str ⟨tx.toArray⟩), some (.str f), some (.str l), v4, v5, v6, v7] ∧ l.cps.toList ≠ [] ∧ l.length ≤ 300000 ∧ f.length ≤ 2 * i + sumL (ws.take i) ∧
        (∀ r t, Dr (lastL l.cps.toList) (ws.drop i) r t → Dr false ws (f.cps.toList ++ r) t) ∧ Pen H' p c ∧ Kp p H1 H') ⟨"", "(", none, none, none, none, rfl, (by decide), (by decide), (Nat.zero_le _), fun r t h => h, hP1, Kp.refl⟩ (fun i σ H' _ ⟨_, _, _, _, _, _, _, _, _, _, _, _, k2⟩ => SqL.of (k2 _ _ hL' nLp)) ?_ ?_⟩
    · rintro i y σ H2 hy ⟨f0, l, v4, v5, v6, v7, rfl, hl, hl8, hf, hD, hP2, k2⟩
      obtain ⟨u, hu, rfl⟩ := map_get hy
      have hun := hne u (List.mem_of_getElem? hu)
      have hu8 := ww u (List.mem_of_getElem? hu)
      have hst := sumL_take_succ hu
      have hst2 := sumL_take ws (i + 1)
      have hi : i < 300000 := by
        have := (List.getElem?_eq_some_iff.mp hu).1
        omega
      obtain ⟨cl, hcl, ecl⟩ := last_ch hl
      obtain ⟨cf, hcf, ecf⟩ := first_ch hun
      refine ⟨_, rfl, _, rfl, l, -1, cl, rfl, rfl, le_line (by omega), hcl, cl, abc, rfl, rfl, _, rfl, ?_⟩
      rw [show decide (cl ∈ abc.cps.toList) = lastL l.cps.toList from ecl]
      have hdrop : ws.drop i = u :: ws.drop (i + 1) := by
        obtain ⟨hlt, e⟩ := List.getElem?_eq_some_iff.mp hu
        rw [List.drop_eq_getElem_cons hlt, e]
      cases hla : lastL l.cps.toList
      case' true =>
        refine iteTx rfl ⟨_, rfl, ⟨u.toArray⟩, 0, cf, rfl, rfl, le_line (by show u.toArray.size ≤ 16000000; rw [List.size_toArray]; omega), hcf, cf, abc, rfl, rfl, .inr ⟨ltr cf, rfl, ?_⟩⟩
        obtain ⟨least, ele, l0, l1, lt1⟩ : ∃ least : Int, (if ltr cf = true then (1 : Int) else 0) = least ∧ 0 ≤ least ∧ least ≤ 1 ∧ (lastL l.cps.toList = true → firstL u = true → least = 1) := by
          rw [ecf]
          cases firstL u
          · exact ⟨0, rfl, by decide, by decide, fun _ z => nomatch z⟩
          · exact ⟨1, rfl, by decide, by decide, fun _ _ => rfl⟩
        rw [ele]
      case' false =>
        refine iteFx rfl (.inr ⟨false, rfl, ?_⟩)
        obtain ⟨least, ele, l0, l1, lt1⟩ : ∃ least : Int, (if false = true then (1 : Int) else 0) = least ∧ 0 ≤ least ∧ least ≤ 1 ∧ (lastL l.cps.toList = true → firstL u = true → least = 1) :=
          ⟨0, rfl, by decide, by decide, fun z => by rw [hla] at z; cases z⟩
        rw [ele]
      all_goals
        refine ⟨_, rfl, le_line (by show 4 ≤ 16000000; decide), fun q hq => ⟨_, rfl, p, c, 4, rfl, hP2.new hq, by decide, by decide, fun n H3 n0 n1 hP3 k3 => ?_⟩⟩
        have k13 : Kp p H1 H3 := (k2.lay hq).trans k3
        obtain ⟨o4, hat, o0, o2⟩ : ∃ o4 : Int, atI [V.int 0, .int 0, .int 1, .int 2] n = some (.int o4) ∧ 0 ≤ o4 ∧ o4 ≤ 2 := by
          have : n = 0 ∨ n = 1 ∨ n = 2 ∨ n = 3 := by omega
          rcases this with rfl | rfl | rfl | rfl
          · exact ⟨0, rfl, by decide, by decide⟩
          · exact ⟨0, rfl, by decide, by decide⟩
          · exact ⟨1, rfl, by decide, by decide⟩
          · exact ⟨2, rfl, by decide, by decide⟩
        refine ⟨q, _, n, .int o4, rfl, rfl, SqL.of (k3 _ _ upd_same (hP2.neP hq)), hat, _, _, rfl, ?_⟩
        obtain ⟨often, eof, f0', f2', fl⟩ : ∃ often : Int, (if o4 > least then o4 else least) = often ∧ 0 ≤ often ∧ often ≤ 2 ∧ least ≤ often := by
          by_cases z : o4 > least
          · exact ⟨o4, if_pos z, by omega, by omega, by omega⟩
          · exact ⟨least, if_neg z, by omega, by omega, by omega⟩
        rw [eof]
        refine ⟨_, rfl, ⟨_, rfl⟩, _, rfl, often, rfl, by omega, by omega, fun D hD' => ?_⟩
        have nDp : D ≠ p := hP3.neP hD'
        refine lc_range (lo := 0) (n := often.toNat) (fun j H' => ∃ bs : List Nat, bs.length = j ∧ (∀ c ∈ bs, bl c = true) ∧ H' D = some (.lst (bs.map fun c => V.str ⟨#[c]⟩)) ∧ Pen H' p c ∧ Kp p H1 H' ∧ D ≠ c ∧ H1 D = none) ⟨[], rfl, (fun c hc => nomatch hc), upd_same, hP3.new hD', k13.lay hD', hP3.neC hD', k13.none hD' nDp⟩ ?_ ?_
        · rintro j' H4 hj' ⟨bs, hbl, hbb, e4, hP4, k4, nDc, hD1⟩
          refine ⟨rfl, ?_⟩
          simp only [tYes, if_true]
          refine ⟨_, rfl, p, c, 2, rfl, hP4, by decide, by decide, fun m H5 m0 m1 hP5 k5 => ?_⟩
          obtain ⟨cb, hcb, bcb⟩ := blank_at m0 m1
          refine ⟨blanks, m, cb, rfl, rfl, le_line (by decide), hcb, _, k5 _ _ e4 nDp, ?_, bs ++ [cb], ?_, ?_, ?_, hP5.keep nDp nDc, Kp.mut (k4.trans k5) hD1, nDc, hD1⟩
          · rw [List.length_map]
            exact lt_line (by omega)
          · rw [List.length_append, hbl]
            rfl
          · intro c' hc'
            rcases List.mem_append.mp hc' with hc' | hc'
            · exact hbb c' hc'
            · have e : c' = cb := by simpa using hc'
              rw [e]
              exact bcb
          · rw [upd_same, List.map_append]
            rfl
        · rintro H4 ⟨bs, hbl, hbb, e4, hP4, k4, _, _⟩
          have bl2 : bs.length ≤ 2 := by omega
          have hsum : ((bs.map fun c => (⟨#[c]⟩ : Str)).map (fun x => x.length)).sum ≤ 2 := by
            match bs, bl2 with
            | [], _ => decide
            | [_], _ => show 1 + 0 ≤ 2; decide
            | [_, _], _ => show 1 + (1 + 0) ≤ 2; decide
          have ej := join_signs bs
          have jl : (Txt.join "" (bs.map fun c => (⟨#[c]⟩ : Str))).length ≤ 2 := by
            show (Txt.join "" (bs.map fun c => (⟨#[c]⟩ : Str))).cps.toList.length ≤ 2
            rw [ej]
            exact bl2
          have ul : (⟨u.toArray⟩ : Str).length ≤ 300000 := by
            rw [len_mk]
            omega
          refine ⟨"", D, bs.map fun c => ⟨#[c]⟩, rfl, rfl, .inl (SqL.of (by rw [e4, List.map_map]; rfl)), ?_, ?_⟩
          · have e0 : (("" : Str)).length = 0 := rfl
            rw [e0, Nat.mul_zero]
            omega
          generalize Txt.join "" (bs.map fun c => (⟨#[c]⟩ : Str)) = J at ej jl ⊢
          have a1 : (f0 ++ J).length = f0.length + J.length := by
            have := congrArg List.length (app_list f0 J)
            rw [List.length_append] at this
            exact this
          have a2 : ((f0 ++ J) ++ (⟨u.toArray⟩ : Str)).length = f0.length + J.length + (⟨u.toArray⟩ : Str).length := by
            have := congrArg List.length (app_list (f0 ++ J) ⟨u.toArray⟩)
            rw [List.length_append] at this
            rw [← a1]
            exact this
          refine .inr (.inl ⟨_, _, rfl, rfl, le_line (by omega), _, rfl, .inr (.inl ⟨_, _, rfl, rfl, le_line (by omega), ?_⟩)⟩)
          have lu9 : (⟨u.toArray⟩ : Str).length = u.length := len_mk u
          refine ⟨_, rfl, (f0 ++ J) ++ (⟨u.toArray⟩ : Str), ⟨u.toArray⟩, _, _, _, _, rfl, hun, ul, by rw [a2]; omega, ?_, hP4, k4⟩
          intro r t hr
          rw [app_list, app_list, ej, List.append_assoc, List.append_assoc]
          refine hD _ _ ?_
          rw [hdrop]
          refine Dr.cons hbb (fun h1 h2 => ?_) hr
          have := lt1 h1 h2
          intro e
          rw [e] at hbl
          have : often.toNat = 0 := hbl.symm
          omega
    · rintro σ H2 ⟨f0, l, v4, v5, v6, v7, rfl, hl, hl8, hf, hD, hP2, k2⟩
      refine ⟨_, rfl, _, rfl, p, c, 3, rfl, hP2, by decide, by decide, fun m H3 m0 m1 hP3 k3 => ?_⟩
      obtain ⟨hb, h2⟩ := blank_cut m0 m1
      have hdl : ws.drop (ws.map vW).length = [] := by rw [List.length_map]; exact List.drop_eq_nil_of_le (Nat.le_refl _)
      rw [hdl] at hD
      rw [List.length_map] at hf
      have hsA := sumL_take ws ws.length
      refine ⟨_, rfl, blanks, rfl, le_line (by decide), .inr (.inl ⟨_, _, rfl, rfl, le_line (by omega), ?_⟩)⟩
      refine k _ (cutS blanks none (some m)).cps.toList H3 ?_ hb ?_ hP3 ((Kp.of s1).trans (k2.trans k3))
      · rw [app_list]
        exact hD _ _ .nil
      · have := congrArg List.length (app_list f0 (cutS blanks none (some m)))
        rw [List.length_append] at this
        have e : (f0 ++ cutS blanks none (some m)).length = f0.length + (cutS blanks none (some m)).length := this
        omega
end

section
variable {P : Program} {w : World} {K : PySem.W.Frag} {mg : Str → Option Value} {base : Heap}
/-- amid the drawing of data kinds -/
def PgI (K : PySem.W.Frag) (H : Hp) (p c tS B : Addr) (S M0 : List Str) (i : Nat) (L : Addr) (ms : List Str) (us : List V) (ps : List DtT) (H' : Hp) : Prop :=
  H' L = some (.lst (ms.map V.str)) ∧ (mksOf ps).map (·.1) ++ ms = M0 ∧ 2 * S.length ≤ ms.length + 2 * i ∧ H' B = some (.lst us) ∧ DaAll K All H' us (ps.map dtD) ∧ ps.map (·.1) = S.take i ∧ (∀ q ∈ ps, DtOk q) ∧ (∀ x ∈ fldsOf ps, x ∈ S) ∧
    SqT K H' tS (S.map V.str) ∧ L ≠ B ∧ L ≠ p ∧ Pen H' p c ∧ Kp p H H'
theorem PgI.kp {H H1 H2 : Hp} {p c tS B : Addr} {S M0 : List Str} {i : Nat} {L : Addr} {ms : List Str} {us : List V} {ps : List DtT} (h : PgI K H p c tS B S M0 i L ms us ps H1) (hB : B ≠ p) (k : Kp p H1 H2) (hP : Pen H2 p c) : PgI K H p c tS B S M0 i L ms us ps H2 := by
  obtain ⟨a1, a2, a3, a4, a5, a6, a7, a8, a9, a10, a11, a12, a13⟩ := h
  exact ⟨k _ _ a1 a11, a2, a3, k _ _ a4 hB, a5.kp k a12.noTup trivial, a6, a7, a8, sqT_kp k a12.noTup a9, a10, a11, hP, a13.trans k⟩
theorem ok_any_prog (D : DefAt K mg "_law_any_program" s_law_any_program ["_law_pen_here"]) (T : Bl mg) (C_law_draw : CallOk P w K mg base 2 "_law_draw" ["_law_pen_here", "_law_below"] spDraw) (C_law_unlike : CallOk P w K mg base 4 "_law_unlike" ["_law_pen_here", "_law_often"] (spUnl K))
    (C_law_any_kind : CallOk P w K mg base 6 "_law_any_kind" ["_law_pen_here", "_law_deep"] (spAnyKind K 3)) (C_law_any : CallOk P w K mg base 8 "_law_any" ["_law_pen_here", "_law_deep"] (spAnyT K 1)) : CallOk P w K mg base 9 "_law_any_program" ["_law_pen_here"] (spAnyProg K) := by
  refine D.ok sc_law_any_program (fun vs H Q E h => ?_) (fun f cdv A outer s H vs Q E hr h => ?_)
  · obtain ⟨p, c, rfl, _⟩ := h
    rfl
  · obtain ⟨p, c, rfl, hP, k⟩ := h
    refine ⟨_, (pss_cons (ps_set (i := 1) sc_law_any_program.nd rfl (Or.inr rfl) (pe_callOk C_law_unlike hr (by omega) (by rfl) (pa_cons (pv 0) (pa_cons (pe_ix ix_list (pe_lst (pa_cons pe_int (pa_cons pe_int (pa_cons pe_int (pa_cons pe_int pa_nil))))) (pe_callOk C_law_draw hr (by omega) (by rfl) (pa_cons (pv 0) (pa_cons pe_int pa_nil))) (fun _ _ => rfl)) pa_nil))))
        (pss_cons (ps_set (i := 2) sc_law_any_program.nd rfl (Or.inl rfl) (pe_callTy call_list_of (by rfl) T.list_ (by decide +kernel) (pa_cons (pe_callOk C_law_unlike hr (by omega) (by rfl) (pa_cons (pv 0) (pa_cons (pe_op opAdd (pe_op op_mul (pe_callB call_len_seq (by rfl) T.len_ (by decide +kernel) (pa_cons (pv 1) pa_nil)) pe_int) (pe_callOk C_law_draw hr (by omega) (by rfl) (pa_cons (pv 0) (pa_cons pe_int pa_nil)))) pa_nil))) pa_nil)))
        (pss_cons (ps_set (i := 3) sc_law_any_program.nd rfl (Or.inl rfl) (pe_lst pa_nil))
        (pss_cons (ps_for PassesOwn.never rfl (pi_range1 (by rfl) T.range_ (pa_cons (pe_callB call_len_seq (by rfl) T.len_ (by decide +kernel) (pa_cons (pv 1) pa_nil)) pa_nil)) (pg_name (i := 4) sc_law_any_program.nd rfl (Or.inl rfl) (by first | exact .inl rfl | exact .inr rfl)) (Evl.pss_cut (ps_set (i := 5) sc_law_any_program.nd rfl (Or.inl rfl) (pe_ifExp (pt_cmpR op_lt (pe_op opAdd (pv 4) pe_int) (pe_callB call_len_seq (by rfl) T.len_ (by decide +kernel) (pa_cons (pv 1) pa_nil)) (nomark _)) (pe_op opAdd pe_int (pe_callOk C_law_draw hr (by omega) (by rfl) (pa_cons (pv 0) (pa_cons pe_int pa_nil)))) (pe_callB call_len_seq (by rfl) T.len_ (by decide +kernel) (pa_cons (pv 2) pa_nil))))
        (pss_cons (ps_set (i := 6) sc_law_any_program.nd rfl (Or.inl rfl) (pe_lst pa_nil))
        (pss_cons (ps_for PassesOwn.never rfl (pi_list (pe_slice sl_list (pv 2) po_none (po_some (pe_callB (call_min2 rfl) (by rfl) T.min_ (by decide +kernel) (pa_cons (pv 5) (pa_cons pe_int pa_nil)))))) (pg_name (i := 7) sc_law_any_program.nd rfl (Or.inl rfl) (by first | exact .inl rfl | exact .inr rfl)) (pss_cons (ps_setLc (i := 8) (own := [("_law_k", 9)]) (g := gName 9) (tt := tYes) rfl sc_law_any_program.nd rfl rfl (sw_true rfl rfl rfl (by decide +kernel)) (pi_range1 (by rfl) T.range_ (pa_cons (pe_callOk C_law_draw hr (by omega) (by rfl) (pa_cons (pv 0) (pa_cons pe_int pa_nil))) pa_nil)) (blkOk_by (N := sl_law_any_program) (sc := defScope s_law_any_program) (by decide +kernel)) (fun _ _ _ _ _ => pg_name (i := 9) sc_law_any_program.nd rfl (Or.inl rfl)) (fun _ _ _ _ _ => pts_nil) (fun _ _ _ _ _ => (pe_ix (ix_tupK (K := K) rfl) (pv 1) (pe_callOk C_law_draw hr (by omega) (by rfl) (pa_cons (pv 0) (pa_cons (pe_callB (lenK (K := K) rfl) (by rfl) T.len_ (by decide +kernel) (pa_cons (pv 1) pa_nil)) pa_nil))) (fun _ _ => rfl))))
        (pss_one (ps_expr (pe_bm PySem.F.plainAttrs_list PySem.F.slot_list_append PySem.F.type_list_append mt_append (pv 6) (pa_cons (pe_tup (pa_cons (pv 7) (pa_cons (pe_callTy call_tuple_of (by rfl) T.tuple_ (by decide +kernel) (pa_cons (pv 8) pa_nil)) pa_nil))) pa_nil))))))
        (pss_cons (ps_set (i := 2) sc_law_any_program.nd rfl (Or.inl rfl) (pe_slice sl_list (pv 2) (po_some (pe_callB (call_min2 rfl) (by rfl) T.min_ (by decide +kernel) (pa_cons (pv 5) (pa_cons pe_int pa_nil)))) po_none))
        (pss_one (ps_expr (pe_bm PySem.F.plainAttrs_list PySem.F.slot_list_append PySem.F.type_list_append mt_append (pv 3) (pa_cons (pe_tup (pa_cons (pe_ix ix_tup (pv 1) (pv 4) (fun _ _ => rfl)) (pa_cons (pe_callTy call_tuple_of (by rfl) T.tuple_ (by decide +kernel) (pa_cons (pv 6) pa_nil)) pa_nil))) pa_nil)))))))))
        (pss_cons (ps_set (i := 10) sc_law_any_program.nd rfl (Or.inl rfl) (pe_lst pa_nil))
        (pss_cons (ps_for PassesOwn.never rfl (pi_tup (pe_callOk C_law_unlike hr (by omega) (by rfl) (pa_cons (pv 0) (pa_cons (pe_ix ix_list (pe_lst (pa_cons pe_int (pa_cons pe_int (pa_cons pe_int (pa_cons pe_int (pa_cons pe_int pa_nil)))))) (pe_callOk C_law_draw hr (by omega) (by rfl) (pa_cons (pv 0) (pa_cons pe_int pa_nil))) (fun _ _ => rfl)) pa_nil)))) (pg_name (i := 11) sc_law_any_program.nd rfl (Or.inl rfl) (by first | exact .inl rfl | exact .inr rfl)) (pss_one (ps_expr (pe_bm PySem.F.plainAttrs_list PySem.F.slot_list_append PySem.F.type_list_append mt_append (pv 10) (pa_cons (pe_tup (pa_cons (pv 11) (pa_cons (pe_callOk C_law_any_kind hr (by omega) (by rfl) (pa_cons (pv 0) (pa_cons pe_int pa_nil))) (pa_cons (pe_callOk C_law_any hr (by omega) (by rfl) (pa_cons (pv 0) (pa_cons pe_int pa_nil))) pa_nil)))) pa_nil)))))
        (pss_one (ps_ret (pe_tup (pa_cons (pe_callTy call_tuple_of (by rfl) T.tuple_ (by decide +kernel) (pa_cons (pv 3) pa_nil)) (pa_cons (pe_callTy call_tuple_of (by rfl) T.tuple_ (by decide +kernel) (pa_cons (pv 10) pa_nil)) pa_nil))))))))))), ?_⟩
    refine ⟨_, rfl, le_line (by show 4 ≤ 16000000; decide), fun q hq => ⟨_, rfl, p, c, 4, rfl, hP.new hq, by decide, by decide, fun m H1 m0 m1 hP1 k1 => ?_⟩⟩
    obtain ⟨a, hat, a1, a6⟩ : ∃ a : Int, atI [V.int 1, .int 2, .int 3, .int 6] m = some (.int a) ∧ 1 ≤ a ∧ a ≤ 6 := by
      have : m = 0 ∨ m = 1 ∨ m = 2 ∨ m = 3 := by omega
      rcases this with rfl | rfl | rfl | rfl
      · exact ⟨1, rfl, by decide, by decide⟩
      · exact ⟨2, rfl, by decide, by decide⟩
      · exact ⟨3, rfl, by decide, by decide⟩
      · exact ⟨6, rfl, by decide, by decide⟩
    refine ⟨q, _, m, .int a, rfl, rfl, SqL.of (k1 _ _ upd_same (hP.neP hq)), hat, p, c, a, rfl, by omega, by omega, hP1, fun tS S H2 hTS hlS hnS hdS hP2 k2 => ?_⟩
    have k02 : Kp p H H2 := (((Kp.new hq).trans k1).trans k2)
    have lS : (S.map V.str).length = S.length := List.length_map _
    refine ⟨_, rfl, _, rfl, tS, _, rfl, .inr hTS, _, _, rfl, rfl, .inr ⟨by decide, by decide⟩, ?_⟩
    refine ⟨_, rfl, p, c, 6, rfl, hP2, by decide, by decide, fun m2 H3 m20 m21 hP3 k3 => .inl ⟨_, _, rfl, rfl, ?_⟩⟩
    refine ⟨p, c, _, rfl, by omega, by omega, hP3, fun tM M0 H4 hTM hlM hnM hdM hP4 k4 => ?_⟩
    refine ⟨tM, _, rfl, .inr hTM, fun L hL => ?_⟩
    have k04 := (k02.trans k3).trans k4
    have hTS4 := sqT_kp k4 hP3.noTup (sqT_kp k3 hP2.noTup hTS)
    refine ⟨Nat.zero_le _, fun B hB => ?_⟩
    have sL := same_new (H := H4) (o := .lst (M0.map V.str)) hL
    have sB := same_new (o := .lst []) hB
    have nLB : L ≠ B := ne_of_none (upd_same (H := H4) (o := .lst (M0.map V.str))) hB
    have nLp := hP4.neP hL
    have nBp := (hP4.new (o := .lst (M0.map V.str)) hL).neP hB
    have nBc := (hP4.new (o := .lst (M0.map V.str)) hL).neC hB
    have hB0 : H B = none := (k04.lay (o := .lst (M0.map V.str)) hL).none hB nBp
    have I0 : PgI K H p c tS B S M0 0 L M0 [] [] (upd (upd H4 L (.lst (M0.map V.str))) B (.lst [])) := ⟨sB _ _ upd_same, rfl, by omega, upd_same, .nil, rfl, (fun q hq => nomatch hq), (fun x hx => nomatch hx), sqT_same (sL.trans sB) hTS4, nLB, nLp, (hP4.new hL).new hB, (k04.lay hL).lay hB⟩
    generalize (upd (upd H4 L (.lst (M0.map V.str))) B (.lst [])) = H5 at I0
    refine ⟨_, rfl, tS, _, rfl, .inr I0.2.2.2.2.2.2.2.2.1, ((S.map V.str).length : Int), rfl, by omega, by omega, for_range (lo := 0) (n := ((S.map V.str).length : Int).toNat) (fun i σ H' => ∃ (L : Addr) (ms : List Str) (us : List V) (ps : List DtT) (v4 v5 v6 v7 v8 v9 : Option V), σ = [some (.ref p), some (.ref tS), some (.ref L), some (.ref B), v4, v5, v6, v7, v8, v9, none, none] ∧ PgI K H p c tS B S M0 i L ms us ps H')
      ⟨L, M0, [], [], none, none, none, none, none, none, rfl, I0⟩ ?_ ?_⟩
    · rintro i σ H6 hi ⟨L, ms, us, ps, v4, v5, v6, v7, v8, v9, rfl, hI⟩
      have hiS : i < S.length := by omega
      refine ⟨fun σ H' => ∃ o : Nat, σ = [some (.ref p), some (.ref tS), some (.ref L), some (.ref B), some (.int (0 + (i : Int))), some (.int (o : Int)), v6, v7, v8, v9, none, none] ∧ 1 ≤ o ∧ o ≤ ms.length ∧ (i + 1 < S.length → o ≤ 2) ∧ PgI K H p c tS B S M0 i L ms us ps H', ?_, ?_⟩
      · have hm2 := hI.2.2.1
        refine ⟨_, rfl, .inl ⟨_, _, rfl, rfl, _, rfl, tS, _, rfl, .inr hI.2.2.2.2.2.2.2.2.1, _, _, rfl, rfl, _, rfl, ?_⟩⟩
        by_cases hlast : (0 + (i : Int)) + 1 < ((S.map V.str).length : Int)
        · refine iteTx (decide_eq_true hlast) ?_
          refine ⟨_, rfl, p, c, 2, rfl, hI.2.2.2.2.2.2.2.2.2.2.2.1, by decide, by decide, fun n H7 n0 n1 hP7 k7 => .inl ⟨_, _, rfl, rfl, ?_⟩⟩
          obtain ⟨n', rfl⟩ : ∃ n' : Nat, n = (n' : Int) := ⟨n.toNat, by omega⟩
          exact ⟨1 + n', by rw [show ((1 + n' : Nat) : Int) = 1 + (n' : Int) by omega]; rfl, by omega, by omega, fun _ => by omega, hI.kp nBp k7 hP7⟩
        · refine iteFx (decide_eq_false hlast) ?_
          have e : (ms.map V.str).length = ms.length := List.length_map _
          refine ⟨_, rfl, L, _, rfl, .inl (SqL.of hI.1), ms.length, by rw [e]; rfl, by omega, Nat.le_refl _, fun z => by omega, hI⟩
      · rintro σ H7 ⟨o, rfl, o1, oms, o2, hI⟩
        obtain ⟨b1, b2, b3, b4, b5, b6, b7, b8, b9, b10, b11, b12, b13⟩ := id hI
        refine ⟨Nat.zero_le _, fun O hO => ?_⟩
        have nOp := b12.neP hO
        have nOc := b12.neC hO
        have nOB : O ≠ B := (ne_of_none b4 hO).symm
        have nOL : O ≠ L := (ne_of_none b1 hO).symm
        have hO0 : H O = none := b13.none hO nOp
        have sO := same_new (H := H7) (o := .lst []) hO
        have I8 : PgI K H p c tS B S M0 i L ms us ps (upd H7 O (.lst [])) := ⟨sO _ _ b1, b2, b3, sO _ _ b4, b5.same sO, b6, b7, b8, sqT_same sO b9, b10, b11, b12.new hO, b13.lay hO⟩
        have eO : (upd H7 O (.lst [])) O = some (.lst ([] : List V)) := upd_same
        generalize (upd H7 O (.lst [])) = H8 at I8 eO
        obtain ⟨zn, hzn, z1, z6, zms⟩ : ∃ zn : Nat, (if (6 : Int) < (o : Int) then (6 : Int) else (o : Int)) = (zn : Int) ∧ 1 ≤ zn ∧ zn ≤ 6 ∧ zn ≤ ms.length := by
          by_cases h6 : (6 : Int) < (o : Int)
          · exact ⟨6, by rw [if_pos h6]; rfl, by decide, by decide, by omega⟩
          · exact ⟨o, by rw [if_neg h6], o1, by omega, oms⟩
        refine ⟨_, rfl, _, rfl, _, _, rfl, ?_⟩
        rw [hzn]
        refine ⟨(zn : Int), rfl, L, _, rfl, SqL.of I8.1, fun q2 hq2 => ?_⟩
        rw [cut_take, ← List.map_take]
        have nq2p := I8.2.2.2.2.2.2.2.2.2.2.2.1.neP hq2
        have nq2O : q2 ≠ O := (ne_of_none eO hq2).symm
        have sq2 := same_new (H := H8) (o := .lst ((ms.take zn).map V.str)) hq2
        have I9 : PgI K H p c tS B S M0 i L ms us ps (upd H8 q2 (.lst ((ms.take zn).map V.str))) := by
          obtain ⟨a1, a2, a3, a4, a5, a6, a7, a8, a9, a10, a11, a12, a13⟩ := I8
          exact ⟨sq2 _ _ a1, a2, a3, sq2 _ _ a4, a5.same sq2, a6, a7, a8, sqT_same sq2 a9, a10, a11, a12.new hq2, a13.lay hq2⟩
        have eO9 := sq2 _ _ eO
        have eq9 : (upd H8 q2 (.lst ((ms.take zn).map V.str))) q2 = some (.lst ((ms.take zn).map V.str)) := upd_same
        generalize (upd H8 q2 (.lst ((ms.take zn).map V.str))) = H9 at I9 eO9 eq9
        have lmt : ((ms.take zn).map V.str).length = zn := by
          rw [List.length_map, List.length_take]
          omega
        refine ⟨q2, rfl, ⟨_, SqL.of eq9⟩, for_list (K := K) (xs := (ms.take zn).map V.str) (fun j σ H' => ∃ (rs : List MkT) (ous : List V) (v7 v8 v9 : Option V), σ = [some (.ref p), some (.ref tS), some (.ref L), some (.ref B), some (.int (0 + (i : Int))), some (.int (o : Int)), some (.ref O), v7, v8, v9, none, none] ∧
          H' O = some (.lst ous) ∧ DaAll K All H' ous (rs.map mkD) ∧ rs.map (·.1) = (ms.take zn).take j ∧ (∀ r ∈ rs, MkOk r) ∧ (∀ r ∈ rs, ∀ x ∈ r.2, x ∈ S) ∧ H' q2 = some (.lst ((ms.take zn).map V.str)) ∧ PgI K H p c tS B S M0 i L ms us ps H') ⟨[], [], v7, v8, v9, rfl, eO9, .nil, rfl, (fun r hr => nomatch hr), (fun r hr => nomatch hr), eq9, I9⟩ (fun j σ H' _ ⟨_, _, _, _, _, _, _, _, _, _, _, e9, _⟩ => SqL.of e9) ?_ ?_⟩
        · rintro j y σ HA hy ⟨rs, ous, v7, v8, v9, rfl, eOA, gO, ers, hrs, hrf, eqA, IA⟩
          obtain ⟨mk, hmk, rfl⟩ := map_get hy
          have hmk0 : Nm mk := hnM mk (by rw [← b2]; exact List.mem_append_right _ (List.mem_of_mem_take (List.mem_of_getElem? hmk)))
          have hPA := IA.2.2.2.2.2.2.2.2.2.2.2.1
          refine ⟨_, rfl, p, c, 5, rfl, hPA, by decide, by decide, fun nf HB nf0 nf1 hPB kB => ?_⟩
          have IB := IA.kp nBp kB hPB
          have eOB := kB _ _ eOA nOp
          have eqB := kB _ _ eqA nq2p
          have gOB := gO.kp kB hPA.noTup trivial
          refine ⟨nf, rfl, by omega, by omega, fun F hF => ?_⟩
          have nFp := hPB.neP hF
          have nFc := hPB.neC hF
          have nFO : F ≠ O := (ne_of_none eOB hF).symm
          have nFq : F ≠ q2 := (ne_of_none eqB hF).symm
          have nFL : F ≠ L := (ne_of_none IB.1 hF).symm
          have nFB : F ≠ B := (ne_of_none IB.2.2.2.1 hF).symm
          refine lc_range (lo := 0) (n := nf.toNat) (fun n H' => ∃ fs : List Str, H' F = some (.lst (fs.map V.str)) ∧ fs.length = n ∧ (∀ x ∈ fs, x ∈ S) ∧ Kp p HB H' ∧ Pen H' p c) ⟨[], upd_same, rfl, (fun x hx => nomatch hx), Kp.new hF, hPB.new hF⟩ ?_ ?_
          · rintro n HC hn ⟨fs, eF, hfl, hfs, kC, hPC⟩
            refine ⟨rfl, ?_⟩
            simp only [tYes, if_true]
            have hTSC := sqT_kp kC hPB.noTup IB.2.2.2.2.2.2.2.2.1
            refine ⟨_, rfl, _, rfl, _, rfl, tS, _, rfl, .inr hTSC, p, c, _, rfl, hPC, by omega, by omega, fun mx HD mx0 mx1 hPD kD => ?_⟩
            obtain ⟨x, hxS⟩ : ∃ x, S[mx.toNat]? = some x := ⟨_, List.getElem?_eq_getElem (by omega)⟩
            have hat : atI (S.map V.str) mx = some (.str x) := by
              rw [show mx = ((mx.toNat : Nat) : Int) by omega]
              refine atI_nat ?_
              rw [List.getElem?_map, hxS]
              rfl
            refine ⟨tS, _, mx, .str x, rfl, rfl, sqT_kp kD hPC.noTup hTSC, hat, ?_⟩
            have eFD := kD _ _ eF nFp
            refine ⟨_, eFD, lt_line (by rw [List.length_map]; omega), fs ++ [x], ?_, by rw [List.length_append, hfl]; rfl, ?_, (kC.trans kD).mut hF, hPD.keep nFp nFc⟩
            · rw [upd_same, List.map_append]
              rfl
            · intro y hy
              rcases List.mem_append.mp hy with hy | hy
              · exact hfs y hy
              · rw [List.mem_singleton.mp hy]
                exact List.mem_of_getElem? hxS
          · rintro HC ⟨fs, eF, hfl, hfs, kC, hPC⟩
            have IC := IB.kp nBp kC hPC
            have eOC := kC _ _ eOB nOp
            have eqC := kC _ _ eqB nq2p
            have gOC := gOB.kp kC hPB.noTup trivial
            refine ⟨_, rfl, .inl ⟨rfl, _, SqL.of eOC⟩, _, rfl, _, rfl, F, _, rfl, .inl ⟨SqL.of eF, fun t1 ht1 => ⟨le_line (by show 2 ≤ 16000000; decide), fun t2 ht2 => ?_⟩⟩⟩
            have st := (same_new (H := HC) (o := .tup (fs.map V.str)) ht1).trans (same_new (o := .tup [.str mk, .ref t1]) ht2)
            have lO := gO.length
            have lrs := congrArg List.length ers
            rw [List.length_map] at lO lrs
            have lj : rs.length ≤ 6 := by
              rw [lrs, List.length_take, List.length_take]
              omega
            have eOt := st _ _ eOC
            refine ⟨O, ous, _, rfl, rfl, eOt, lt_line (by omega), rs ++ [(mk, fs)], ous ++ [.ref t2], _, _, _, rfl, upd_same, ?_, ?_, ?_, ?_, ?_, ?_⟩
            · rw [List.map_append]
              exact acc_da eOt (gOC.same st) (.tup (SqT.of upd_same) (.cons (.str mk) (.cons (.tup (sqT_same (same_new ht2) (SqT.of upd_same)) (da_names fs)) .nil)))
            · rw [List.map_append, ers, take_succ_app hmk]
              rfl
            · intro r hr
              rcases List.mem_append.mp hr with hr | hr
              · exact hrs r hr
              · rw [List.mem_singleton.mp hr]
                exact ⟨nm_name hmk0, by show fs.length ≤ 4; omega, fun x hx => nm_name (hnS x (hfs x hx))⟩
            · intro r hr
              rcases List.mem_append.mp hr with hr | hr
              · exact hrf r hr
              · rw [List.mem_singleton.mp hr]
                exact hfs
            · rw [upd_ne nq2O]
              exact st _ _ eqC
            · obtain ⟨a1, a2, a3, a4, a5, a6, a7, a8, a9, a10, a11, a12, a13⟩ := IC
              refine ⟨?_, a2, a3, ?_, (a5.same st).put eOt (fun xs z => nomatch z) (fun _ _ z => nomatch z) trivial, a6, a7, a8, Ts.put eOt _ _ (sqT_same st a9), a10, a11, ((a12.new ht1).new ht2).keep nOp nOc, ((a13.lay ht1).lay ht2).mut hO0⟩
              · rw [upd_ne nOL.symm]
                exact st _ _ a1
              · rw [upd_ne nOB.symm]
                exact st _ _ a4
        · rintro σ HA ⟨rs, ous, v7, v8, v9, rfl, eOA, gO, ers, hrs, hrf, eqA, IA⟩
          rw [lmt, List.take_of_length_le (by rw [List.length_take]; omega)] at ers
          obtain ⟨a1, a2, a3, a4, a5, a6, a7, a8, a9, a10, a11, a12, a13⟩ := IA
          refine ⟨_, rfl, _, rfl, _, _, rfl, ?_⟩
          rw [hzn]
          refine ⟨(zn : Int), rfl, L, _, rfl, SqL.of a1, fun L2 hL2 => ?_⟩
          rw [cut_drop, ← List.map_drop]
          have sL2 := same_new (H := HA) (o := .lst ((ms.drop zn).map V.str)) hL2
          have nL2B : L2 ≠ B := (ne_of_none a4 hL2).symm
          have nL2p := a12.neP hL2
          have eL2 : (upd HA L2 (.lst ((ms.drop zn).map V.str))) L2 = some (.lst ((ms.drop zn).map V.str)) := upd_same
          have eB2 := sL2 _ _ a4
          have eO2 := sL2 _ _ eOA
          have g2 := a5.same sL2
          have gO2 := gO.same sL2
          have hT2 := sqT_same sL2 a9
          have hP2' := a12.new (o := .lst ((ms.drop zn).map V.str)) hL2
          have k2' := a13.lay (o := .lst ((ms.drop zn).map V.str)) hL2
          generalize (upd HA L2 (.lst ((ms.drop zn).map V.str))) = HB at eL2 eB2 eO2 g2 gO2 hT2 hP2' k2'
          obtain ⟨x, hxS⟩ : ∃ x, S[i]? = some x := ⟨_, List.getElem?_eq_getElem hiS⟩
          have hat : atI (S.map V.str) (0 + (i : Int)) = some (.str x) := by
            rw [Int.zero_add]
            refine atI_nat ?_
            rw [List.getElem?_map, hxS]
            rfl
          refine ⟨_, rfl, .inl ⟨rfl, _, SqL.of eB2⟩, _, rfl, _, rfl, tS, _, _, .str x, rfl, rfl, hT2, hat, ?_⟩
          refine ⟨_, rfl, O, _, rfl, .inl ⟨SqL.of eO2, fun t1 ht1 => ⟨le_line (by show 2 ≤ 16000000; decide), fun t2 ht2 => ?_⟩⟩⟩
          have st := (same_new (H := HB) (o := .tup ous) ht1).trans (same_new (o := .tup [.str x, .ref t1]) ht2)
          have eBt := st _ _ eB2
          have lu := a5.length
          have lps := congrArg List.length a6
          rw [List.length_map] at lu lps
          rw [List.length_take] at lps
          have lrs := congrArg List.length ers
          rw [List.length_map, List.length_take] at lrs
          refine ⟨B, us, _, rfl, rfl, eBt, lt_line (by omega), L2, ms.drop zn, us ++ [.ref t2], ps ++ [(x, rs)], _, _, _, _, _, _, rfl, ?_, ?_, ?_, upd_same, ?_, ?_, ?_, ?_, Ts.put eBt _ _ (sqT_same st hT2), nL2B, nL2p, ((hP2'.new ht1).new ht2).keep nBp nBc, ((k2'.lay ht1).lay ht2).mut hB0⟩
          · rw [upd_ne nL2B]
            exact st _ _ eL2
          · rw [mksOf_app, List.map_append, ers, List.append_assoc, List.take_append_drop]
            exact a2
          · rw [List.length_drop]
            by_cases hlast : i + 1 < S.length
            · have := o2 hlast
              have hz : zn ≤ 2 := by
                have : ((zn : Nat) : Int) ≤ (o : Int) := by
                  rw [← hzn]
                  by_cases h6 : (6 : Int) < (o : Int)
                  · rw [if_pos h6]; omega
                  · rw [if_neg h6]; exact Int.le_refl _
                omega
              omega
            · omega
          · rw [List.map_append]
            exact acc_da eBt (g2.same st) (.tup (SqT.of upd_same) (.cons (.str x) (.cons (.tup (sqT_same (same_new ht2) (SqT.of upd_same)) (gO2.same st)) .nil)))
          · rw [List.map_append, a6, take_succ_app hxS]
            rfl
          · intro q hq
            rcases List.mem_append.mp hq with hq | hq
            · exact a7 q hq
            · rw [List.mem_singleton.mp hq]
              exact ⟨nm_name (hnS x (List.mem_of_getElem? hxS)), by show 1 ≤ rs.length; omega, by show rs.length ≤ 6; omega, hrs⟩
          · intro y hy
            rw [fldsOf_app] at hy
            rcases List.mem_append.mp hy with hy | hy
            · exact a8 y hy
            · obtain ⟨r, hr, hyr⟩ := List.mem_flatMap.mp hy
              exact hrf r hr y hyr
    · rintro σ H6 ⟨L, ms, us, ps, v4, v5, v6, v7, v8, v9, rfl, a1, a2, a3, a4, a5, a6, a7, a8, a9, a10, a11, a12, a13⟩
      have eS : S.take ((S.map V.str).length : Int).toNat = S := List.take_of_length_le (by omega)
      rw [eS] at a6
      have lps := congrArg List.length a6
      rw [List.length_map] at lps
      refine ⟨Nat.zero_le _, fun G hG => ?_⟩
      have nGp := a12.neP hG
      have nGc := a12.neC hG
      have nGB : G ≠ B := (ne_of_none a4 hG).symm
      have hG0 := a13.none hG nGp
      have sG := same_new (H := H6) (o := .lst []) hG
      have eB6 := sG _ _ a4
      have eG6 : (upd H6 G (.lst [])) G = some (.lst ([] : List V)) := upd_same
      have g6 := a5.same sG
      have hP6 := a12.new (o := .lst []) hG
      have k6 := a13.lay (o := .lst []) hG
      generalize (upd H6 G (.lst [])) = H7 at eB6 eG6 g6 hP6 k6
      refine ⟨_, rfl, le_line (by show 5 ≤ 16000000; decide), fun q2 hq2 => ⟨_, rfl, p, c, 5, rfl, hP6.new hq2, by decide, by decide, fun n H8 n0 n1 hP8 k8 => ?_⟩⟩
      obtain ⟨b, hbt, b0, b16⟩ : ∃ b : Int, atI [V.int 0, .int 1, .int 2, .int 3, .int 16] n = some (.int b) ∧ 0 ≤ b ∧ b ≤ 16 := by
        have : n = 0 ∨ n = 1 ∨ n = 2 ∨ n = 3 ∨ n = 4 := by omega
        rcases this with rfl | rfl | rfl | rfl | rfl
        · exact ⟨0, rfl, by decide, by decide⟩
        · exact ⟨1, rfl, by decide, by decide⟩
        · exact ⟨2, rfl, by decide, by decide⟩
        · exact ⟨3, rfl, by decide, by decide⟩
        · exact ⟨16, rfl, by decide, by decide⟩
      refine ⟨q2, _, n, .int b, rfl, rfl, SqL.of (k8 _ _ upd_same (hP6.neP hq2)), hbt, p, c, b, rfl, by omega, by omega, hP8, fun tF Fs H9 hTF hlF hnF hdF hP9 k9 => ?_⟩
      have k79 : Kp p H7 H9 := ((Kp.new hq2).trans k8).trans k9
      have nt7 : NoTup H7 p := hP6.noTup
      refine ⟨tF, rfl, ⟨_, hTF⟩, for_tup (K := K) (xs := Fs.map V.str) (fun j σ H' => ∃ (vs : List V) (ws : List DfW) (v11 : Option V), σ = [some (.ref p), some (.ref tS), some (.ref L), some (.ref B), v4, v5, v6, v7, v8, v9, some (.ref G), v11] ∧ H' B = some (.lst us) ∧ H' G = some (.lst vs) ∧ DaAll K All H' us (ps.map dtD) ∧ DaAll K All H' vs (ws.map DfW.d) ∧
        ws.map (·.f) = Fs.take j ∧ (∀ y ∈ ws, y.Ok ∧ (dfTx y).length ≤ 800) ∧ SqT K H' tF (Fs.map V.str) ∧ Pen H' p c ∧ Kp p H H') ⟨[], [], none, rfl, k79 _ _ eB6 nBp, k79 _ _ eG6 nGp, g6.kp k79 nt7 trivial, .nil, rfl, (fun y hy => nomatch hy), hTF, hP9, k6.trans k79⟩ (fun j σ H' _ ⟨_, _, _, _, _, _, _, _, _, _, e9, _⟩ => e9) ?_ ?_⟩
      · rintro j y σ HA hy ⟨vs, ws, v11, rfl, eBA, eGA, gA, gvA, ewf, hws, hTFA, hPA, kA⟩
        obtain ⟨fn, hfn, rfl⟩ := map_get hy
        refine ⟨_, rfl, .inl ⟨rfl, _, SqL.of eGA⟩, _, rfl, _, rfl, p, c, 3, rfl, by decide, by decide, by decide, by decide, hPA, fun vk dk HB hdk hkk hPB kB => ?_⟩
        refine ⟨_, rfl, p, c, 2, rfl, by decide, by decide, by decide, hPB, fun vt dt tx tk mt HC hdt hTt hxt hPC kC => ?_⟩
        refine ⟨le_line (by show 3 ≤ 16000000; decide), fun t1 ht1 => ?_⟩
        have kAC := kB.trans kC
        have st := same_new (H := HC) (o := .tup [.str fn, vk, vt]) ht1
        have ntA := hPA.noTup
        have ntB := hPB.noTup
        have eGt := st _ _ (kAC _ _ eGA nGp)
        obtain ⟨g1, g2, g3⟩ := kt_le (by decide) hkk
        have hfn0 := hnF fn (List.mem_of_getElem? hfn)
        have lv := gvA.length
        have lw := congrArg List.length ewf
        rw [List.length_map] at lv lw
        rw [List.length_take] at lw
        have b1 : bX 1 = 570 := rfl
        refine ⟨G, vs, _, rfl, rfl, eGt, lt_line (by omega), vs ++ [.ref t1], ws ++ [⟨fn, dk, dt, tx, tk, mt⟩], _, rfl, ?_, upd_same, ?_, ?_, ?_, ?_, ?_, (hPC.new ht1).keep nGp nGc, ((kA.trans kAC).lay ht1).mut hG0⟩
        · rw [upd_ne nGB.symm]
          exact st _ _ (kAC _ _ eBA nBp)
        · exact (((gA.kp kB ntA trivial).kp kC ntB trivial).same st).put eGt (fun xs z => nomatch z) (fun _ _ z => nomatch z) trivial
        · rw [List.map_append]
          exact acc_da eGt (((gvA.kp kB ntA trivial).kp kC ntB trivial).same st) (.tup (SqT.of upd_same) (.cons (.str fn) (.cons ((hdk.kp kC ntB trivial).same st) (.cons (hdt.same st) .nil))))
        · rw [List.map_append, ewf, take_succ_app hfn]
          rfl
        · intro y hy
          rcases List.mem_append.mp hy with hy | hy
          · exact hws y hy
          · rw [List.mem_singleton.mp hy]
            refine ⟨⟨nm_name hfn0, g1, hTt.up (by decide), by have := tt_small hTt; show mt ≤ 200; omega⟩, ?_⟩
            have l8 := nm_len hfn0
            have lk : (ktL 6 dk).length ≤ 104 := by rw [g2]; exact g3
            show (40 :: 64 :: 32 :: (nmL fn ++ 32 :: (ktL 6 dk ++ 32 :: (tx ++ [41])))).length ≤ 800
            simp only [List.length_cons, List.length_append, List.length_nil]
            omega
        · exact Ts.put eGt _ _ (sqT_same st (sqT_kp kC ntB (sqT_kp kB ntA hTFA)))
      · rintro σ HA ⟨vs, ws, v11, rfl, eBA, eGA, gA, gvA, ewf, hws, hTFA, hPA, kA⟩
        rw [List.length_map, List.take_of_length_le (Nat.le_refl _)] at ewf
        refine ⟨_, rfl, B, us, rfl, .inl ⟨SqL.of eBA, fun t1 ht1 => ?_⟩⟩
        refine ⟨_, rfl, G, vs, rfl, .inl ⟨SqL.of (same_new ht1 _ _ eGA), fun t2 ht2 => ⟨le_line (by show 2 ≤ 16000000; decide), fun t3 ht3 => ?_⟩⟩⟩
        have sa := same_new (H := HA) (o := .tup us) ht1
        have sb := same_new (o := .tup vs) ht2
        have sc := same_new (o := .tup [.ref t1, .ref t2]) ht3
        have sac := (sa.trans sb).trans sc
        have lw := congrArg List.length ewf
        rw [List.length_map] at lw
        have hW : ProgW ps ws := by
          refine ⟨by omega, by omega, a7, ?_, unlike_front (b := ms) (by rw [a2]; exact hdM), ?_, by omega, fun y hy => (hws y hy).1, ?_⟩
          · rw [a6]
            exact dd_unlike hdS
          · rw [a6]
            exact a8
          · rw [ewf]
            exact dd_unlike hdF
        refine k _ ps ws _ (.tup (SqT.of upd_same) (.cons (.tup (sqT_same (sb.trans sc) (SqT.of upd_same)) (gA.same sac)) (.cons (.tup (sqT_same sc (SqT.of upd_same)) (gvA.same sac)) .nil))) hW ?_ (((hPA.new ht1).new ht2).new ht3) (((kA.lay ht1).lay ht2).lay ht3)
        have z1 := sumL_dts a7
        have z2 := sumL_dfs fun y hy => (hws y hy).2
        unfold rowsTx
        rw [sumL_app]
        omega
end

section
variable {P : Program} {w : World} {K : PySem.W.Frag} {mg : Str → Option Value} {base : Heap} {C : Addr}
theorem ok_lptext (D : DefAt K mg "_law_program_text" s_law_program_text ["_law_program"]) (T : Bl mg) (C_law_kind_text : CallOk P w K mg base 7 "_law_kind_text" ["_law_kind"] (spKText K 6)) (C_law_term_text : CallOk P w K mg base 37 "_law_term_text" ["_law_term"] (spLText K 30)) :
    CallOk P w K mg base 38 "_law_program_text" ["_law_program"] (spPText K) := by
  refine D.ok sc_law_program_text (fun vs H Q E h => ?_) (fun f cdv A outer s H vs Q E hr h => ?_)
  · obtain ⟨N, v, ps, ws, rfl, _⟩ := h
    rfl
  · obtain ⟨N, v, ps, ws, rfl, hd, hW, hsz, k⟩ := h
    refine ⟨_, (pss_cons (ps_set (i := 1) sc_law_program_text.nd rfl (Or.inl rfl) (pe_lst pa_nil))
        (pss_cons (ps_for PassesOwn.never rfl (pi_tup (pe_ix ix_tup (pv 0) pe_int (fun _ _ => rfl))) (pg_tup rfl (pgs_cons (pg_name (i := 2) sc_law_program_text.nd rfl (Or.inl rfl) (by first | exact .inl rfl | exact .inr rfl)) (pgs_cons (pg_name (i := 3) sc_law_program_text.nd rfl (Or.inl rfl) (by first | exact .inl rfl | exact .inr rfl)) pgs_nil))) (pss_cons (ps_setLc (i := 4) (own := [("_law_maker", 5), ("_law_fields", 6)]) (g := (gTup K 2 (gCons (gName 5) (gCons (gName 6) gNil)))) (tt := tYes) rfl sc_law_program_text.nd rfl rfl (sw_true rfl rfl rfl (by decide +kernel)) (pi_tup (pv 3)) (blkOk_by (N := sl_law_program_text) (sc := defScope s_law_program_text) (by decide +kernel)) (fun _ _ _ _ _ => (pg_tup rfl (pgs_cons (pg_name (i := 5) sc_law_program_text.nd rfl (Or.inl rfl) (by first | exact .inl rfl | exact .inr rfl)) (pgs_cons (pg_name (i := 6) sc_law_program_text.nd rfl (Or.inl rfl) (by first | exact .inl rfl | exact .inr rfl)) pgs_nil)))) (fun _ _ _ _ _ => pts_nil) (fun _ _ _ _ _ => (pe_op (opAddK (K := K) rfl) (pe_op (opAddK (K := K) rfl) pe_str (pe_joinK (K := K) rfl pe_str (pe_op (opAddK (K := K) rfl) (pe_lst (pa_cons (pv 5) pa_nil)) (pe_callTy (listOfK (K := K) rfl) (by rfl) T.list_ (by decide +kernel) (pa_cons (pv 6) pa_nil))))) pe_str)))
        (pss_one (ps_expr (pe_bm PySem.F.plainAttrs_list PySem.F.slot_list_append PySem.F.type_list_append mt_append (pv 1) (pa_cons (pe_op opAdd (pe_op opAdd pe_str (pe_join pe_str (pe_op opAdd (pe_lst (pa_cons pe_str (pa_cons (pv 2) pa_nil))) (pv 4)))) pe_str) pa_nil))))))
        (pss_cons (ps_for PassesOwn.never rfl (pi_tup (pe_ix ix_tup (pv 0) pe_int (fun _ _ => rfl))) (pg_tup rfl (pgs_cons (pg_name (i := 7) sc_law_program_text.nd rfl (Or.inl rfl) (by first | exact .inl rfl | exact .inr rfl)) (pgs_cons (pg_name (i := 2) sc_law_program_text.nd rfl (Or.inl rfl) (by first | exact .inl rfl | exact .inr rfl)) (pgs_cons (pg_name (i := 8) sc_law_program_text.nd rfl (Or.inl rfl) (by first | exact .inl rfl | exact .inr rfl)) pgs_nil)))) (pss_one (ps_expr (pe_bm PySem.F.plainAttrs_list PySem.F.slot_list_append PySem.F.type_list_append mt_append (pv 1) (pa_cons (pe_op opAdd (pe_op opAdd pe_str (pe_join pe_str (pe_lst (pa_cons pe_str (pa_cons (pv 7) (pa_cons (pe_callOk C_law_kind_text hr (by omega) (by rfl) (pa_cons (pv 2) pa_nil)) (pa_cons (pe_callOk C_law_term_text hr (by omega) (by rfl) (pa_cons (pv 8) pa_nil)) pa_nil))))))) pe_str) pa_nil)))))
        (pss_one (ps_ret (pe_join pe_str (pv 1))))))), ?_⟩
    obtain ⟨t, va, vb, rfl, hT, hda, hdb⟩ := Da.tup2 hd
    obtain ⟨ta, us, rfl, hTa, hA⟩ := hda.tupInv
    obtain ⟨tb, xs, rfl, hTb, hB⟩ := hdb.tupInv
    have hlu := hA.length
    have hlx := hB.length
    rw [List.length_map] at hlu hlx
    have p6 := hW.p6
    have w16 := hW.w16
    refine ⟨Nat.zero_le _, fun L hL => ?_⟩
    have sL : Same H (upd H L (.lst [])) := same_new hL
    refine ⟨_, rfl, t, _, 0, _, rfl, rfl, sqT_same sL hT, rfl, ta, rfl, ⟨_, sqT_same sL hTa⟩, for_tup (K := K) (xs := us) (fun i σ H' => ∃ (v2 v3 v4 v5 v6 v7 v8 : Option V), σ = [some (.ref t), some (.ref L), v2, v3, v4, v5, v6, v7, v8] ∧ H' L = some (.lst ((txts ((ps.take i).map dtTx)).map V.str)) ∧ Same H H') ⟨none, none, none, none, none, none, none, rfl, upd_same, sL⟩ (fun i σ H' _ ⟨_, _, _, _, _, _, _, _, _, s9⟩ => sqT_same s9 hTa) ?_ ?_⟩
    · rintro i o σ H1 ho ⟨v2, v3, v4, v5, v6, v7, v8, rfl, eL, s1⟩
      obtain ⟨d1, hd1, dd1⟩ := hA.get ho
      obtain ⟨p, hp, rfl⟩ := map_get hd1
      have hpo := hW.pok p (List.mem_of_getElem? hp)
      obtain ⟨t1, t2, us2, rfl, hT1, hT2, hA2⟩ := dd1.dt
      refine ⟨t1, _, rfl, sqT_same s1 hT1, rfl, _, _, rfl, _, _, rfl, rfl, ?_⟩
      have hl2 := hA2.length
      rw [List.length_map] at hl2
      have l6 := hpo.len
      refine ⟨_, rfl, t2, rfl, ⟨_, sqT_same s1 hT2⟩, fun B hB => ?_⟩
      refine lc_tup (K := K) (xs := us2) (fun j H' => H' B = some (.lst ((txts ((p.2.take j).map mkTx)).map V.str)) ∧ Same H1 H') ⟨upd_same, same_new hB⟩ (fun j H' _ ⟨_, s9⟩ => sqT_same (s1.trans s9) hT2) ?_ ?_
      · rintro j o2 H2 ho2 ⟨eB, s2⟩
        obtain ⟨d2, hd2, dd2⟩ := hA2.get ho2
        obtain ⟨m, hm, rfl⟩ := map_get hd2
        have hmo := hpo.all m (List.mem_of_getElem? hm)
        obtain ⟨t3, t4, rfl, hT3, hT4⟩ := dd2.mk
        have s12 := s1.trans s2
        have l4 := hmo.len
        have l8 := (nm_cases hmo.nm).2.1
        have lb := bl_names8 hmo.all
        have lbl := bl_len m.2
        refine ⟨t3, _, rfl, sqT_same s12 hT3, rfl, _, _, rfl, _, _, rfl, rfl, rfl, ?_⟩
        simp only [tYes, if_true]
        refine ⟨⟨_, rfl⟩, _, rfl, le_line (by show 1 ≤ 16000000; decide), fun q1 hq1 => ⟨_, rfl, t4, _, rfl, .inr (sqT_same (s12.trans (same_new hq1)) hT4), fun q2 hq2 => ?_⟩⟩
        have sa := (same_new (H := H2) (o := .lst [V.str m.1]) hq1).trans (same_new (o := .lst (m.2.map V.str)) hq2)
        refine .inr (.inr (.inr ⟨q1, q2, _, _, rfl, rfl, same_new hq2 _ _ upd_same, upd_same, le_line (by rw [List.length_map]; show 1 + m.2.length ≤ 16000000; omega), fun q3 hq3 => ?_⟩))
        have sb := sa.trans (same_new (o := .lst ([V.str m.1] ++ m.2.map V.str)) hq3)
        refine ⟨" ", q3, m.1 :: m.2, rfl, rfl, .inl (SqL.of upd_same), ?_, ?_⟩
        · show m.1.length + (m.2.map (·.length)).sum + (m.2.length + 1) * 1 ≤ 16777216
          omega
        have lj := join_len m.1 m.2
        have e1 : (nmL m.1).length = m.1.length := rfl
        refine .inr (.inl ⟨_, _, rfl, rfl, le_line (by show 1 + (Txt.join " " (m.1 :: m.2)).length ≤ 16000000; omega), .inr (.inl ⟨_, _, rfl, rfl, le_line (by rw [app_len]; show 1 + (Txt.join " " (m.1 :: m.2)).length + 1 ≤ 16000000; omega), ?_⟩)⟩)
        rw [brack_gen]
        refine ⟨_, sb _ _ eB, lt_line (by rw [List.length_map, txts_len, List.length_map, List.length_take]; omega), ?_, Same.mut (s2.trans sb) hB⟩
        rw [upd_same, List.take_add_one, hm, List.map_append, txts_app, List.map_append]
        rfl
      · rintro H2 ⟨eB, s2⟩
        rw [List.take_of_length_le (by omega)] at eB
        have s12 := s1.trans s2
        have eL2 := s2 _ _ eL
        have l8 := (nm_cases hpo.nm).2.1
        have ebl := bl_flat p.2
        have etx : (p.2.map fun m => (⟨(mkTx m).toArray⟩ : Str)) = txts (p.2.map mkTx) := by
          unfold txts
          rw [List.map_map]
          rfl
        rw [etx] at ebl
        have lms := mksTx_len hpo.all
        have lbl := bl_len (p.1 :: txts (p.2.map mkTx))
        have lbl2 : (blN (p.1 :: txts (p.2.map mkTx))).length ≤ 9 + 47 * 6 := by
          have e2 : (nmL p.1).length = p.1.length := rfl
          rw [bl_cons, List.length_cons, List.length_append, ebl]
          omega
        refine ⟨_, rfl, .inl ⟨rfl, _, SqL.of eL2⟩, ⟨_, rfl⟩, ?_⟩
        refine ⟨_, rfl, le_line (by show 2 ≤ 16000000; decide), fun q1 hq1 => ⟨_, rfl, .inr (.inr (.inr ⟨q1, B, _, _, rfl, rfl, upd_same, same_new hq1 _ _ eB, le_line (by rw [List.length_map, txts_len, List.length_map]; show 2 + p.2.length ≤ 16000000; omega), fun q2 hq2 => ?_⟩))⟩⟩
        have sa := (same_new (H := H2) (o := .lst [V.str "=", .str p.1]) hq1).trans (same_new (o := .lst ([V.str "=", .str p.1] ++ (txts (p.2.map mkTx)).map V.str)) hq2)
        refine ⟨" ", q2, Str.ofString "=" :: p.1 :: txts (p.2.map mkTx), rfl, rfl, .inl (SqL.of upd_same), ?_, ?_⟩
        · show 1 + ((p.1 :: txts (p.2.map mkTx)).map (·.length)).sum + ((p.1 :: txts (p.2.map mkTx)).length + 1) * 1 ≤ 16777216
          omega
        have lj := join_len (Str.ofString "=") (p.1 :: txts (p.2.map mkTx))
        have e1 : (nmL (Str.ofString "=")).length = 1 := rfl
        refine .inr (.inl ⟨_, _, rfl, rfl, le_line (by show 1 + (Txt.join " " (Str.ofString "=" :: p.1 :: txts (p.2.map mkTx))).length ≤ 16000000; omega), .inr (.inl ⟨_, _, rfl, rfl, le_line (by rw [app_len]; show 1 + (Txt.join " " (Str.ofString "=" :: p.1 :: txts (p.2.map mkTx))).length + 1 ≤ 16000000; omega), ?_⟩)⟩)
        have ed := dtTx_bl p.1 p.2
        rw [etx] at ed
        rw [brack_gen, ← ed]
        refine ⟨L, _, _, rfl, rfl, sa _ _ eL2, lt_line (by rw [List.length_map, txts_len, List.length_map, List.length_take]; omega), ?_⟩
        refine ⟨_, _, _, _, _, _, _, rfl, ?_, Same.mut (s12.trans sa) hL⟩
        rw [upd_same, List.take_add_one, hp, List.map_append, txts_app, List.map_append]
        rfl
    · rintro σ H1 ⟨v2, v3, v4, v5, v6, v7, v8, rfl, eL, s1⟩
      rw [List.take_of_length_le (by omega)] at eL
      refine ⟨_, rfl, t, _, 1, _, rfl, rfl, sqT_same s1 hT, rfl, tb, rfl, ⟨_, sqT_same s1 hTb⟩, for_tup (K := K) (xs := xs) (fun i σ H' => ∃ (v2 v3 v4 v5 v6 v7 v8 : Option V), σ = [some (.ref t), some (.ref L), v2, v3, v4, v5, v6, v7, v8] ∧ H' L = some (.lst ((txts (ps.map dtTx ++ (ws.take i).map dfTx)).map V.str)) ∧ Same H H') ⟨v2, v3, v4, v5, v6, v7, v8, rfl, by rw [List.take_zero, List.map_nil, List.append_nil]; exact eL, s1⟩ (fun i σ H' _ ⟨_, _, _, _, _, _, _, _, _, s9⟩ => sqT_same s9 hTb) ?_ ?_⟩
      · rintro i o σ H2 ho ⟨v2, v3, v4, v5, v6, v7, v8, rfl, eL, s2⟩
        obtain ⟨d1, hd1, dd1⟩ := hB.get ho
        obtain ⟨y, hy, rfl⟩ := map_get hd1
        have hyo := hW.wok y (List.mem_of_getElem? hy)
        obtain ⟨t1, x1, x2, x3, rfl, hT1, g1, g2, g3⟩ := Da.tup3 dd1
        cases g1.strInv
        have ltx : (dfTx y).length ≤ 200000 := by
          have := sumL_mem (ws := rowsTx ps ws) (w := dfTx y) (List.mem_append_right _ (List.mem_map_of_mem (List.mem_of_getElem? hy)))
          omega
        have lty : y.tx.length + 6 ≤ (dfTx y).length := by
          unfold dfTx
          simp only [List.length_cons, List.length_append, List.length_nil]
          omega
        refine ⟨t1, _, rfl, sqT_same s2 hT1, rfl, _, _, rfl, _, _, rfl, _, _, rfl, rfl, ?_⟩
        refine ⟨_, rfl, .inl ⟨rfl, _, SqL.of eL⟩, ⟨_, rfl⟩, ?_⟩
        refine ⟨_, rfl, _, rfl, N, x2, y.k, rfl, g2.same s2, hyo.kd, fun H3 s3 => ?_⟩
        refine ⟨_, rfl, N, x3, y.t, y.tx, y.tk, y.m, rfl, (g3.same s2).same s3, hyo.tt, by omega, fun H4 s4 => ?_⟩
        refine ⟨le_line (by show 4 ≤ 16000000; decide), fun q hq => ?_⟩
        have s5 := (s3.trans s4).trans (same_new (o := .lst [V.str "@", .str y.f, .str ⟨(ktL 6 y.k).toArray⟩, .str ⟨y.tx.toArray⟩]) hq)
        have elen := congrArg List.length (dfTx_bl y)
        simp only [List.length_cons, List.length_append, List.length_nil] at elen
        have lbl := bl_len [y.f, ⟨(ktL 6 y.k).toArray⟩, ⟨y.tx.toArray⟩]
        refine ⟨" ", q, [Str.ofString "@", y.f, ⟨(ktL 6 y.k).toArray⟩, ⟨y.tx.toArray⟩], rfl, rfl, .inl (SqL.of upd_same), ?_, ?_⟩
        · show 1 + ([y.f, ⟨(ktL 6 y.k).toArray⟩, ⟨y.tx.toArray⟩].map (·.length)).sum + ([y.f, (⟨(ktL 6 y.k).toArray⟩ : Str), ⟨y.tx.toArray⟩].length + 1) * 1 ≤ 16777216
          omega
        have lj := join_len (Str.ofString "@") [y.f, ⟨(ktL 6 y.k).toArray⟩, ⟨y.tx.toArray⟩]
        refine .inr (.inl ⟨_, _, rfl, rfl, le_line (by show 1 + (Txt.join " " [Str.ofString "@", y.f, ⟨(ktL 6 y.k).toArray⟩, ⟨y.tx.toArray⟩]).length ≤ 16000000; omega), .inr (.inl ⟨_, _, rfl, rfl, le_line (by rw [app_len]; show 1 + (Txt.join " " [Str.ofString "@", y.f, ⟨(ktL 6 y.k).toArray⟩, ⟨y.tx.toArray⟩]).length + 1 ≤ 16000000; omega), ?_⟩)⟩)
        rw [brack_gen, ← dfTx_bl]
        refine ⟨L, _, _, rfl, rfl, s5 _ _ eL, lt_line (by rw [List.length_map, txts_len, List.length_append, List.length_map, List.length_map, List.length_take]; omega), ?_⟩
        refine ⟨_, _, _, _, _, _, _, rfl, ?_, Same.mut (s2.trans s5) hL⟩
        have et : txts (ps.map dtTx ++ (ws.take (i + 1)).map dfTx) = txts (ps.map dtTx ++ (ws.take i).map dfTx) ++ [⟨(dfTx y).toArray⟩] := by
          rw [List.take_add_one, hy, List.map_append, ← List.append_assoc, txts_app]
          rfl
        rw [upd_same, et, List.map_append]
        rfl
      · rintro σ H2 ⟨v2, v3, v4, v5, v6, v7, v8, rfl, eL, s2⟩
        rw [List.take_of_length_le (by omega)] at eL
        refine ⟨⟨_, rfl⟩, _, rfl, "\n", L, txts (rowsTx ps ws), rfl, rfl, .inl (SqL.of eL), ?_, ?_⟩
        · rw [txts_sum, txts_len]
          have e2 : (rowsTx ps ws).length = ps.length + ws.length := by
            unfold rowsTx
            rw [List.length_append, List.length_map, List.length_map]
          show sumL (rowsTx ps ws) + (rowsTx ps ws).length * 1 ≤ 16777216
          omega
        · rw [join_txts]
          exact k _ s2
end

section
variable {P : Program} {w : World} {K : PySem.W.Frag} {mg : Str → Option Value} {base : Heap} {C fI fS fH : Addr} {fdI : FuncData}
theorem ok_signs_of_program {jR : Nat} (D : DefAt K mg "signs_of_program" s_signs_of_program ["reader"]) (C_signs_of_rows : CallOk P w K mg base jR "signs_of_rows" ["reader", "signs"] (spRowsR K C)) : CallOk P w K mg base (jR + 1) "signs_of_program" ["reader"] (spProgR K C) := by
  refine D.ok sc_signs_of_program (fun vs H Q E h => ?_) (fun f cdv A outer s H vs Q E hr h => ?_)
  · obtain ⟨r, x, n, ps, ws, rfl, _⟩ := h
    rfl
  · obtain ⟨r, x, n, ps, ws, rfl, h0, hx, hp1, hpl, hwl, hpo, hwo, hA, k⟩ := h
    refine ⟨_, (pss_one (ps_ret (pe_callOk C_signs_of_rows hr (by omega) (by rfl) (pa_cons (pv 0) (pa_cons pe_str pa_nil))))), ?_⟩
    exact ⟨_, rfl, r, x, n, ps, ws, rfl, h0, hx, hp1, hpl, hwl, hpo, hwo, hA, k⟩
theorem ok_read_wholeP {jH : Nat} (hj : 3 ≤ jH) (D : DefAt K mg "read_whole" s_read_whole ["text", "read", "holds"]) (R : RdC K C) (T : Bl mg) (M_Reader : Mk K C fI) (F_Reader : FnOk P w K mg base CX0 1 fI fdI ["self", "text"] (spReaderInit C)) (g_Reader : mg "Reader" = some (.ref C)) (B_Reader : L2.Binds K fdI ["self", "text"] [])
    (M_Reader_finish : MethOk P w K mg base 2 C "finish" ["self"] (spFinT C)) (hRead : Held P w K mg base jH fS (spProgR K C)) (hHolds : Held P w K mg base jH fH (spOf K progOk)) : CallOk P w K mg base (jH + 1) "read_whole" ["text", "read", "holds"] (spReadWholeP K fS fH) := by
  refine D.ok sc_read_whole (fun vs H Q E h => ?_) (fun f cdv A outer s H vs Q E hr h => ?_)
  · obtain ⟨x, ps, ws, t, rfl, _⟩ := h
    rfl
  · obtain ⟨x, ps, ws, t, rfl, hx, hW, hsz, hD, ht, k⟩ := h
    refine ⟨_, (pss_cons (ps_set (i := 3) sc_read_whole.nd rfl (Or.inl rfl) (pe_make M_Reader F_Reader (hr.mono (by omega)) (by rfl) g_Reader B_Reader .nil pass0 (pa_cons (pv 0) pa_nil)))
        (pss_cons (ps_set (i := 4) sc_read_whole.nd rfl (Or.inl rfl) (pe_callH (k := jH) (i := 1) hr (by omega) rfl (.inl rfl) (pa_cons (pv 3) pa_nil)))
        (pss_cons (ps_expr (pe_methOk0 M_Reader_finish R.cl hr (by omega) (pv 3)))
        (pss_cons (ps_if (pt_not (pt_val (pe_callH (k := jH) (i := 2) hr (by omega) rfl (.inl rfl) (pa_cons (pv 4) pa_nil)))) (pss_one ps_never) pss_nil)
        (pss_one (ps_ret (pv 4))))))), ?_⟩
    refine ⟨_, rfl, fun r dx nr ndx ne => ⟨r, dx, x, rfl, upd_same, fun H1 h1 k1 => ⟨rfl, ?_⟩⟩⟩
    have s1 : Same H H1 := fun b o e => by
      have n1 : b ≠ r := ne_of_none e nr
      have n2 : b ≠ dx := ne_of_none e ndx
      exact k1 b o (by rw [upd_ne n1, upd_ne n2]; exact e) n1
    have hA0 : At x 0 (rowsTk ps ws) := At.start hD (tq_prog (s := []) (.inl rfl) hW.p1 hW.pok hW.wok).ne ht
    have p6 := hW.p6
    have w16 := hW.w16
    refine ⟨fS, _, rfl, hRead, _, rfl, r, x, 0, ps, ws, rfl, h1, hx, hW.p1, by omega, by omega, hW.pok, hW.wok, hA0, fun v e H2 hd h2 hA2 k2 => ?_⟩
    have s2 : Same H H2 := fun b o q => k2 b o (s1 b o q) (ne_of_none q nr)
    obtain ⟨d2, h2'⟩ := h2
    refine ⟨_, rfl, r, d2, _, rfl, h2', rd_no (by decide +kernel) (by decide +kernel) x _, r, x, e, rfl, ⟨d2, h2'⟩, hx, hA2, fun H3 h3 k3 => ?_⟩
    have s3 : Same H H3 := fun b o q => k3 b o (s2 b o q) (ne_of_none q nr)
    have hd3 := hd.kp k3 (RdAt.noTup ⟨d2, h2'⟩) trivial
    refine ⟨fH, _, rfl, hHolds, _, rfl, All, v, progT ps ws, _, _, rfl, hd3, prog_fit hW, by omega, fun H4 s4 => ?_⟩
    rw [hW.ok]
    refine ⟨_, rfl, iteF ?_⟩
    exact ⟨_, rfl, k v H4 (hd3.same s4) (s3.trans s4)⟩
theorem ok_read_program {jH : Nat} (D : DefAt K mg "read_program" s_read_program ["text"]) (C_read_whole : CallOk P w K mg base jH "read_whole" ["text", "read", "holds"] (spReadWholeP K fS fH)) (G_signs_of_program : GV mg "signs_of_program" (.ref fS)) (G_is_program : GV mg "is_program" (.ref fH)) :
    CallOk P w K mg base (jH + 1) "read_program" ["text"] (spReadProg K) := by
  refine D.ok sc_read_program (fun vs H Q E h => ?_) (fun f cdv A outer s H vs Q E hr h => ?_)
  · obtain ⟨x, ps, ws, t, rfl, _⟩ := h
    rfl
  · obtain ⟨x, ps, ws, t, rfl, hx, hW, hsz, hD, ht, k⟩ := h
    refine ⟨_, (pss_one (ps_ret (pe_callOk C_read_whole hr (by omega) (by rfl) (pa_cons (pv 0) (pa_cons (pe_gv G_signs_of_program rfl) (pa_cons (pe_gv G_is_program rfl) pa_nil)))))), ?_⟩
    exact ⟨_, rfl, x, ps, ws, t, rfl, hx, hW, hsz, hD, ht, k⟩
end

section
variable {P : Program} {w : World} {K : PySem.W.Frag} {mg : Str → Option Value} {base : Heap}
theorem ok_law09 {fL : Addr} {fdL : FuncData} (F : Fun K "law" "law" s_law fL fdL) (T : Bl mg) (C_law_pen : CallOk P w K mg base 1 "_law_pen" ["_law_script"] (spPen K)) (C_law_any_program : CallOk P w K mg base 9 "_law_any_program" ["_law_pen_here"] (spAnyProg K))
    (C_law_program_text : CallOk P w K mg base 38 "_law_program_text" ["_law_program"] (spPText K)) (C_program_text : CallOk P w K mg base 11 "program_text" ["program"] (spPText K))
    (C_law_dressed : CallOk P w K mg base 3 "_law_dressed" ["_law_pen_here", "_law_text"] (spDressedT K)) (C_read_program : CallOk P w K mg base 170 "read_program" ["text"] (spReadProg K)) : FnG P w K mg base 171 fL fdL ["_law_script"] (spLaw K) := by
  refine Fun.okG F sc_law (fun vs H Q E h => ?_) (fun cdv A outer s H vs Q E hg hr h => ?_)
  · obtain ⟨a, ns, rfl, _⟩ := h
    rfl
  · obtain ⟨a, ns, rfl, hS, hl, k⟩ := h
    refine ⟨_, (pss_cons (ps_set (i := 1) sc_law.nd rfl (Or.inl rfl) (pe_callOk C_law_pen hr (by omega) (by rfl) (pa_cons (pv 0) pa_nil)))
        (pss_cons (ps_for PassesOwn.never rfl (pi_range1 (by rfl) T.range_ (pa_cons pe_int pa_nil)) (pg_name (i := 2) sc_law.nd rfl (Or.inl rfl) (by first | exact .inl rfl | exact .inr rfl)) (pss_cons (ps_set (i := 3) sc_law.nd rfl (Or.inl rfl) (pe_callOk C_law_any_program hr (by omega) (by rfl) (pa_cons (pv 1) pa_nil)))
        (pss_cons (ps_set (i := 4) sc_law.nd rfl (Or.inl rfl) (pe_callB (call_reprD hg) (by rfl) T.repr_ (by decide +kernel) (pa_cons (pv 3) pa_nil)))
        (pss_cons (ps_set (i := 5) sc_law.nd rfl (Or.inl rfl) (pe_callOk C_law_program_text hr (by omega) (by rfl) (pa_cons (pv 3) pa_nil)))
        (pss_cons (ps_if (PW.pt (pw_or (pt_cmpR op_ne (pe_callOk C_program_text hr (by omega) (by rfl) (pa_cons (pv 3) pa_nil)) (pv 5) (nomark _)) (pw_or1 (pt_cmpR op_ne (pe_callB (call_reprD hg) (by rfl) T.repr_ (by decide +kernel) (pa_cons (pv 3) pa_nil)) (pv 4) (nomark _))))) (pss_one (ps_ret pe_bl)) pss_nil)
        (pss_one (ps_for PassesOwn.never rfl (pi_tup (pe_tup (pa_cons (pv 5) (pa_cons (pe_callOk C_law_dressed hr (by omega) (by rfl) (pa_cons (pv 1) (pa_cons (pv 5) pa_nil))) (pa_grow (peg_join (pe_split (pv 5) pe_str)) (pat_cons (CwR.pet_replC (pv 5)) pat_nil)))))) (pg_name (i := 6) sc_law.nd rfl (Or.inl rfl) (by first | exact .inl rfl | exact .inr rfl)) (pss_one (ps_if (pt_cmpR op_ne (pe_callB (call_reprD hg) (by rfl) T.repr_ (by decide +kernel) (pa_cons (pe_callOk C_read_program hr (by omega) (by rfl) (pa_cons (pv 6) pa_nil)) pa_nil)) (pv 4) (nomark _)) (pss_one (ps_ret pe_bl)) pss_nil)))))))))
        (pss_one (ps_ret pe_bl)))), ?_⟩
    refine ⟨_, rfl, a, ns, rfl, hS, hl, fun p c H0 hP0 s0 _ _ => ?_⟩
    refine ⟨4, rfl, by decide, by decide, for_range (lo := 0) (n := 4) (fun i σ H' => ∃ v2 v3 v4 v5 v6, σ = [some (.ref a), some (.ref p), v2, v3, v4, v5, v6] ∧ Pen H' p c) ⟨none, none, none, none, none, rfl, hP0⟩ ?_ ?_⟩
    · rintro i σ H1 hi ⟨v2, v3, v4, v5, v6, rfl, hP1⟩
      refine ⟨_, rfl, p, c, rfl, hP1, fun v ps ws H2 hd hW hsz hP2 k2 => ?_⟩
      have fit : Fit 2520020 150 (progT ps ws) := (prog_fit hW).le (by omega) (by decide)
      have p6 := hW.p6
      have w16 := hW.w16
      have hrl : (rowsTx ps ws).length = ps.length + ws.length := by
        unfold rowsTx
        rw [List.length_append, List.length_map, List.length_map]
      have jl : (joinL [10] (rowsTx ps ws)).length ≤ 60022 := by
        have := joinL_len [10] (rowsTx ps ws)
        have e : ([10] : List Nat).length = 1 := rfl
        rw [e] at this
        omega
      have hq : Tq false (joinL [10] (rowsTx ps ws)) (rowsTk ps ws) := tq_prog (.inr ⟨10, rfl, by decide +kernel⟩) hW.p1 hW.pok hW.wok
      have hq2 : Tq false (joinL [32] (rowsTx ps ws)) (rowsTk ps ws) := tq_prog (.inr ⟨32, rfl, by decide +kernel⟩) hW.p1 hW.pok hW.wok
      have hq3 : Tq false (joinL [] (rowsTx ps ws)) (rowsTk ps ws) := tq_prog (.inl rfl) hW.p1 hW.pok hW.wok
      have hkn := rows_ne (ws := ws) hW.p1
      have hno := non_rows hW.pok hW.wok
      refine ⟨_, rfl, All, v, progT ps ws, 2520020, rfl, hd, fit, le_line (by decide), room_un (k := 170) hr.un, ?_⟩
      refine ⟨_, rfl, All, v, ps, ws, rfl, hd, hW, by omega, fun H4 s4 => ?_⟩
      refine ⟨_, rfl, All, v, ps, ws, rfl, hd.same s4, hW, by omega, fun H5 s5 => ⟨_, rfl, rfl, _, rfl, iteFx (ne_selfV _) ?_⟩⟩
      refine ⟨_, rfl, All, v, progT ps ws, 2520020, rfl, (hd.same s4).same s5, fit, le_line (by decide), room_un (k := 170) hr.un, _, rfl, rfl, _, rfl, iteFx (ne_selfV _) ?_⟩
      have hP5 : Pen H5 p c := (hP2.same s4).same s5
      generalize hX : (⟨(joinL [10] (rowsTx ps ws)).toArray⟩ : Str) = X
      have eX : nmL X = joinL [10] (rowsTx ps ws) := by rw [← hX]
      have lX : X.length ≤ 60022 := by rw [← hX, len_mk]; exact jl
      refine ⟨_, rfl, _, rfl, _, rfl, p, c, joinL [10] (rowsTx ps ws), rowsTk ps ws, by rw [hX]; rfl, hP5, hq, hkn, by omega, fun y t H6 hy ht ly hP6 k6 => ?_⟩
      obtain ⟨parts, epa, _, _, lpa⟩ := split_parts X
      refine ⟨⟨_, rfl⟩, _, rfl, ⟨_, rfl⟩, X, "\n", rfl, rfl, rfl, le_line (by omega), fun q hq6 => ?_⟩
      rw [epa]
      refine ⟨" ", q, parts, rfl, rfl, .inl (SqL.of upd_same), by show (parts.map (·.length)).sum + parts.length * 1 ≤ 16777216; omega, ?_⟩
      have e3 := join_split_sp eX hno
      rw [epa] at e3
      have l3 : (Txt.join " " parts).length ≤ 1000000 := by
        have z := congrArg List.length e3
        have z2 := joinL_len [32] (rowsTx ps ws)
        have e : ([32] : List Nat).length = 1 := rfl
        rw [e] at z2
        have z3 : (nmL (Txt.join " " parts)).length = (Txt.join " " parts).length := rfl
        omega
      generalize Txt.join " " parts = x3 at e3 l3
      refine ⟨_, rfl, X, rfl, by show X.length + (X.length + 1) * 0 ≤ 16777216; omega, ?_⟩
      have e4 := replace_none eX hno
      have l4 : (Txt.replace X "\n" "").length ≤ 1000000 := by
        have z := congrArg List.length e4
        have z2 := joinL_len [] (rowsTx ps ws)
        have e : ([] : List Nat).length = 0 := rfl
        rw [e] at z2
        have z3 : (nmL (Txt.replace X "\n" "")).length = (Txt.replace X "\n" "").length := rfl
        omega
      generalize Txt.replace X "\n" "" = x4 at e4 l4
      have good : ∀ (i' : Nat) (o : V), ([V.str X, V.str y, V.str x3, V.str x4] : List V)[i']? = some o → ∃ (s0 : Str) (t0 : List Nat), o = .str s0 ∧ s0.length ≤ 1000000 ∧ Dr false (rowsTk ps ws) s0.cps.toList t0 ∧ ∀ c ∈ t0, bl c = true := by
        intro i' o ho
        match i', ho with
        | 0, ho =>
          cases ho
          refine ⟨X, [], rfl, by omega, ?_, fun c hc => nomatch hc⟩
          have e : X.cps.toList = joinL [10] (rowsTx ps ws) := eX
          rw [e]
          exact tq_text hq
        | 1, ho =>
          cases ho
          exact ⟨y, t, rfl, ly, hy, ht⟩
        | 2, ho =>
          cases ho
          refine ⟨x3, [], rfl, l3, ?_, fun c hc => nomatch hc⟩
          have e : x3.cps.toList = joinL [32] (rowsTx ps ws) := e3
          rw [e]
          exact tq_text hq2
        | 3, ho =>
          cases ho
          refine ⟨x4, [], rfl, l4, ?_, fun c hc => nomatch hc⟩
          have e : x4.cps.toList = joinL [] (rowsTx ps ws) := e4
          rw [e]
          exact tq_text hq3
        | n + 4, ho => cases ho
      have sq := same_new (H := H6) (o := .lst (parts.map V.str)) hq6
      refine ⟨le_line (by show 4 ≤ 16000000; decide), fun tp htp => ?_⟩
      have e8 : SqT K (upd (upd H6 q (.lst (parts.map V.str))) tp (.tup [V.str X, .str y, .str x3, .str x4])) tp [V.str X, .str y, .str x3, .str x4] := SqT.of upd_same
      have hP8 := (hP6.new (o := .lst (parts.map V.str)) hq6).new (o := .tup [V.str X, .str y, .str x3, .str x4]) htp
      generalize (upd (upd H6 q (.lst (parts.map V.str))) tp (.tup [V.str X, .str y, .str x3, .str x4])) = H8 at e8 hP8
      refine ⟨tp, rfl, ⟨_, e8⟩, for_tup (K := K) (xs := [V.str X, .str y, .str x3, .str x4]) (fun i' σ H' => ∃ v6, σ = [some (.ref a), some (.ref p), some (.int (0 + (i : Int))), some v, some (.str (progT ps ws).shown), some (.str X), v6] ∧ Same H8 H') ⟨v6, rfl, Same.refl _⟩ (fun i' σ H' _ ⟨_, _, s9⟩ => sqT_same s9 e8) ?_ ?_⟩
      · rintro i' o σ H9 ho ⟨v6, rfl, s9⟩
        obtain ⟨s0, t0, rfl, ls0, w0, b0'⟩ := good i' o ho
        refine ⟨_, rfl, s0, ps, ws, t0, rfl, ls0, hW, by omega, w0, b0', fun v' HA hv' sA => ?_⟩
        refine ⟨All, v', progT ps ws, 2520020, rfl, hv', fit, le_line (by decide), room_un (k := 170) hr.un, _, rfl, rfl, _, rfl, iteFx (ne_selfV _) ?_⟩
        exact ⟨_, rfl, s9.trans sA⟩
      · rintro σ H9 ⟨v6, rfl, s9⟩
        exact ⟨_, _, _, _, _, rfl, hP8.same s9⟩
    · rintro σ H1 ⟨v2, v3, v4, v5, v6, rfl, hP1⟩
      exact k H1
end

section
variable {P : Program} {w : World} {K : PySem.W.Frag} {mg : Str → Option Value} {base : Heap} {C : Addr}
theorem signs_all {fN fK fT fS fA fC dF dR : Addr} {fdN fdT fdS fdA fdC : FuncData} (R : RdC K C) (T : Bl mg) (D_U : DefAt K mg "read_until" s_read_until ["reader", "read", "sign"]) (D_N : DefF K mg "read_name" s_read_name ["reader"] fN fdN) (D_T : DefF K mg "signs_of_term" s_signs_of_term ["reader"] fT fdT)
    (D_S : DefF K mg "signs_of_terms" s_signs_of_terms ["reader"] fS fdS) (D_A : DefF K mg "signs_of_case" s_signs_of_case ["reader"] fA fdA) (D_C : DefF K mg "signs_of_cases" s_signs_of_cases ["reader"] fC fdC)
    (mp : MethOk P w K mg base 1 C "peek" ["self"] (spPeekT C)) (mt : MethOk P w K mg base 2 C "take" ["self", "signs"] (spTakeT C)) (mn : MethOk P w K mg base 2 C "take_name" ["self"] (spNameT C)) (G_TERM_SIGNS : GV mg "TERM_SIGNS" (.str "^!&/#?+-"))
    (G_FORMS : GV mg "FORMS" (.ref dF)) (FT : Forms K w dF) (G_SLOT_READERS : GV mg "SLOT_READERS" (.ref dR)) (RD : Rds K w dR fN fK fT fS fC) (hK : Held P w K mg base 8 fK (Rd1 K C RKind FAny)) : ∀ k : Nat, FnOk P w K mg base CX0 (5 * k + 9) fT fdT ["reader"] (Rd1 K C (RTerm k) FAny)
  | 0 => ((D_T.none sc_signs_of_term).mono (by decide)).imp fun vs H Q E h => by
    obtain ⟨r, x, n, d, tk, ws, _, _, _, ⟨tx, m, hT⟩, _⟩ := h
    cases hT
  | k + 1 => by
    have hN := D_N.held (ok_read_name D_N R mn (P := P) (w := w) (base := base))
    have hT := signs_all R T D_U D_N D_T D_S D_A D_C mp mt mn G_TERM_SIGNS G_FORMS FT G_SLOT_READERS RD hK k
    have uT := ok_read_until D_U R T mp (by omega) (D_T.held hT) (c := 41)
    have hS := ok_signs_of_terms D_S D_T.gv uT
    have uN := ok_read_until D_U R T mp (by decide) hN (c := 58)
    have hA := ok_signs_of_case (by omega) D_A R D_N.gv mt mn uN (D_T.call hT)
    have uA := ok_read_until D_U R T mp (by omega) (D_A.held hA) (c := 41)
    have hC := ok_signs_of_cases D_C D_A.gv (D_A.call hA) uA
    exact ok_signs_of_term (jH := 5 * k + 13) (by omega) D_T R T mp mt mn G_TERM_SIGNS G_FORMS FT G_SLOT_READERS RD (held_mono hN (by omega)) (held_mono hK (by omega)) (held_mono (D_T.held hT) (by omega)) (held_mono (D_S.held hS) (by omega)) (D_C.held hC)
end
end Ow
namespace Ow
open PySem PySem.Spec PyProof.Rows L2
theorem mk09a {K : PySem.W.Frag} {h : Heap} {mg : Str → Option Value} {C fI fP fK fN fF : Addr} {ocI kVI dcI pmI cdI ctI : Value} {odI anI : Option Addr} {slI : Array (Option Value)} {ocP kVP dcP pmP cdP ctP : Value} {odP anP : Option Addr} {slP : Array (Option Value)} {ocK kVK dcK pmK cdK ctK : Value} {odK anK : Option Addr} {slK : Array (Option Value)} {ocN kVN dcN pmN cdN ctN : Value} {odN anN : Option Addr} {slN : Array (Option Value)} {ocF kVF dcF pmF cdF ctF : Value} {odF anF : Option Addr} {slF : Array (Option Value)} (X : K.In h) (G : h.Ns mainGlobals mg)
    (gC : PySem.W.nsIn K mainGlobals (Str.ofString "Reader") = some (some (.ref C)))
    (pg : PySem.W.plainGet K C Str.empty = true)
    (hd : PySem.W.hasDictIn K C = true)
    (po : PySem.W.plainOver K C = true)
    (sa : PySem.W.findIn K (.ref C) (Str.ofString "__setattr__") = some (some (.builtin "object.__setattr__")))
    (nT : PySem.W.findIn K (.ref C) (Str.ofString "text") = some none)
    (nA : PySem.W.findIn K (.ref C) (Str.ofString "at") = some none)
    (mC : PySem.W.makesIn K C = true)
    (kC : PySem.W.keepIn K (.ref C) = true)
    (aI : PySem.W.findIn K (.ref C) (Str.ofString "__init__") = some (some (.ref fI)))
    (nI : PySem.W.isFn K (.ref fI) = true)
    (kI : PySem.W.keepIn K (.ref fI) = true)
    (lI : K.lookup fI = some ⟨ocI, odI, .func (PySem.W.fnOf "__init__" "Reader.__init__" (defArgs s_Reader_init) (defBody s_Reader_init) (defScope s_Reader_init) .none kVI dcI pmI anI cdI ctI), slI⟩)
    (cI : PySem.W.codeIn K cdI "Reader.__init__" = true)
    (aP : PySem.W.findIn K (.ref C) (Str.ofString "peek") = some (some (.ref fP)))
    (nP : PySem.W.isFn K (.ref fP) = true)
    (kP : PySem.W.keepIn K (.ref fP) = true)
    (lP : K.lookup fP = some ⟨ocP, odP, .func (PySem.W.fnOf "peek" "Reader.peek" (defArgs s_Reader_peek) (defBody s_Reader_peek) (defScope s_Reader_peek) .none kVP dcP pmP anP cdP ctP), slP⟩)
    (cP : PySem.W.codeIn K cdP "Reader.peek" = true)
    (aK : PySem.W.findIn K (.ref C) (Str.ofString "take") = some (some (.ref fK)))
    (nK : PySem.W.isFn K (.ref fK) = true)
    (kK : PySem.W.keepIn K (.ref fK) = true)
    (lK : K.lookup fK = some ⟨ocK, odK, .func (PySem.W.fnOf "take" "Reader.take" (defArgs s_Reader_take) (defBody s_Reader_take) (defScope s_Reader_take) .none kVK dcK pmK anK cdK ctK), slK⟩)
    (cK : PySem.W.codeIn K cdK "Reader.take" = true)
    (aN : PySem.W.findIn K (.ref C) (Str.ofString "take_name") = some (some (.ref fN)))
    (nN : PySem.W.isFn K (.ref fN) = true)
    (kN : PySem.W.keepIn K (.ref fN) = true)
    (lN : K.lookup fN = some ⟨ocN, odN, .func (PySem.W.fnOf "take_name" "Reader.take_name" (defArgs s_Reader_take_name) (defBody s_Reader_take_name) (defScope s_Reader_take_name) .none kVN dcN pmN anN cdN ctN), slN⟩)
    (cN : PySem.W.codeIn K cdN "Reader.take_name" = true)
    (aF : PySem.W.findIn K (.ref C) (Str.ofString "finish") = some (some (.ref fF)))
    (nF : PySem.W.isFn K (.ref fF) = true)
    (kF : PySem.W.keepIn K (.ref fF) = true)
    (lF : K.lookup fF = some ⟨ocF, odF, .func (PySem.W.fnOf "finish" "Reader.finish" (defArgs s_Reader_finish) (defBody s_Reader_finish) (defScope s_Reader_finish) .none kVF dcF pmF anF cdF ctF), slF⟩)
    (cF : PySem.W.codeIn K cdF "Reader.finish" = true) :
    ∃ (C fI : Addr) (fdI : FuncData), RdC K C ∧ mg (Str.ofString "Reader") = some (.ref C) ∧ Mk K C fI ∧ Fun K (Str.ofString "__init__") (Str.ofString "Reader.__init__") s_Reader_init fI fdI ∧ L2.Binds K fdI [(Str.ofString "self"), (Str.ofString "text")] [] ∧ MethAt K C (Str.ofString "peek") (Str.ofString "Reader.peek") s_Reader_peek [(Str.ofString "self")] ∧ MethAt K C (Str.ofString "take") (Str.ofString "Reader.take") s_Reader_take [(Str.ofString "self"), (Str.ofString "signs")] ∧ MethAt K C (Str.ofString "take_name") (Str.ofString "Reader.take_name") s_Reader_take_name [(Str.ofString "self")] ∧ MethAt K C (Str.ofString "finish") (Str.ofString "Reader.finish") s_Reader_finish [(Str.ofString "self")] :=
  ⟨C, fI, _, ⟨⟨pg, hd, po, sa⟩, nT, nA⟩,
    PySem.W.mg_of X G gC,
    ⟨mC, aI, nI, kC⟩,
    fun_mk lI cI kI,
    (fun_mk (st := s_Reader_init) lI cI kI).binds fun _ _ _ _ _ _ us hl => match us, hl with | [_, _], _ => rfl,
    ⟨fP, _, ⟨aP, nP, kP⟩, fun_mk lP cP kP, (fun_mk (st := s_Reader_peek) lP cP kP).binds fun _ _ _ _ _ _ us hl => match us, hl with | [_], _ => rfl⟩,
    ⟨fK, _, ⟨aK, nK, kK⟩, fun_mk lK cK kK, (fun_mk (st := s_Reader_take) lK cK kK).binds fun _ _ _ _ _ _ us hl => match us, hl with | [_, _], _ => rfl⟩,
    ⟨fN, _, ⟨aN, nN, kN⟩, fun_mk lN cN kN, (fun_mk (st := s_Reader_take_name) lN cN kN).binds fun _ _ _ _ _ _ us hl => match us, hl with | [_], _ => rfl⟩,
    ⟨fF, _, ⟨aF, nF, kF⟩, fun_mk lF cF kF, (fun_mk (st := s_Reader_finish) lF cF kF).binds fun _ _ _ _ _ _ us hl => match us, hl with | [_], _ => rfl⟩⟩
theorem mk09b {K : PySem.W.Frag} {w : World} {h : Heap} {mg : Str → Option Value} { fN fK fT fS fA fC fM dR : Addr} {ocN kVN dcN pmN cdN ctN : Value} {odN anN : Option Addr} {slN : Array (Option Value)} {ocK kVK dcK pmK cdK ctK : Value} {odK anK : Option Addr} {slK : Array (Option Value)} {ocT kVT dcT pmT cdT ctT : Value} {odT anT : Option Addr} {slT : Array (Option Value)} {ocS kVS dcS pmS cdS ctS : Value} {odS anS : Option Addr} {slS : Array (Option Value)} {ocA kVA dcA pmA cdA ctA : Value} {odA anA : Option Addr} {slA : Array (Option Value)} {ocC kVC dcC pmC cdC ctC : Value} {odC anC : Option Addr} {slC : Array (Option Value)} {ocM kVM dcM pmM cdM ctM : Value} {odM anM : Option Addr} {slM : Array (Option Value)} {es : Array DictEntry} {en : Nat} (X : K.In h) (G : h.Ns mainGlobals mg)
    (aN : PySem.W.nsIn K mainGlobals (Str.ofString "read_name") = some (some (.ref fN)))
    (lN : K.lookup fN = some ⟨ocN, odN, .func (PySem.W.fnOf (Str.ofString "read_name") (Str.ofString "read_name") (defArgs s_read_name) (defBody s_read_name) (defScope s_read_name) .none kVN dcN pmN anN cdN ctN), slN⟩)
    (cN : PySem.W.codeIn K cdN (Str.ofString "read_name") = true)
    (kN : PySem.W.keepIn K (.ref fN) = true)
    (aK : PySem.W.nsIn K mainGlobals (Str.ofString "signs_of_kind") = some (some (.ref fK)))
    (lK : K.lookup fK = some ⟨ocK, odK, .func (PySem.W.fnOf (Str.ofString "signs_of_kind") (Str.ofString "signs_of_kind") (defArgs s_signs_of_kind) (defBody s_signs_of_kind) (defScope s_signs_of_kind) .none kVK dcK pmK anK cdK ctK), slK⟩)
    (cK : PySem.W.codeIn K cdK (Str.ofString "signs_of_kind") = true)
    (kK : PySem.W.keepIn K (.ref fK) = true)
    (aT : PySem.W.nsIn K mainGlobals (Str.ofString "signs_of_term") = some (some (.ref fT)))
    (lT : K.lookup fT = some ⟨ocT, odT, .func (PySem.W.fnOf (Str.ofString "signs_of_term") (Str.ofString "signs_of_term") (defArgs s_signs_of_term) (defBody s_signs_of_term) (defScope s_signs_of_term) .none kVT dcT pmT anT cdT ctT), slT⟩)
    (cT : PySem.W.codeIn K cdT (Str.ofString "signs_of_term") = true)
    (kT : PySem.W.keepIn K (.ref fT) = true)
    (aS : PySem.W.nsIn K mainGlobals (Str.ofString "signs_of_terms") = some (some (.ref fS)))
    (lS : K.lookup fS = some ⟨ocS, odS, .func (PySem.W.fnOf (Str.ofString "signs_of_terms") (Str.ofString "signs_of_terms") (defArgs s_signs_of_terms) (defBody s_signs_of_terms) (defScope s_signs_of_terms) .none kVS dcS pmS anS cdS ctS), slS⟩)
    (cS : PySem.W.codeIn K cdS (Str.ofString "signs_of_terms") = true)
    (kS : PySem.W.keepIn K (.ref fS) = true)
    (aA : PySem.W.nsIn K mainGlobals (Str.ofString "signs_of_case") = some (some (.ref fA)))
    (lA : K.lookup fA = some ⟨ocA, odA, .func (PySem.W.fnOf (Str.ofString "signs_of_case") (Str.ofString "signs_of_case") (defArgs s_signs_of_case) (defBody s_signs_of_case) (defScope s_signs_of_case) .none kVA dcA pmA anA cdA ctA), slA⟩)
    (cA : PySem.W.codeIn K cdA (Str.ofString "signs_of_case") = true)
    (kA : PySem.W.keepIn K (.ref fA) = true)
    (aC : PySem.W.nsIn K mainGlobals (Str.ofString "signs_of_cases") = some (some (.ref fC)))
    (lC : K.lookup fC = some ⟨ocC, odC, .func (PySem.W.fnOf (Str.ofString "signs_of_cases") (Str.ofString "signs_of_cases") (defArgs s_signs_of_cases) (defBody s_signs_of_cases) (defScope s_signs_of_cases) .none kVC dcC pmC anC cdC ctC), slC⟩)
    (cC : PySem.W.codeIn K cdC (Str.ofString "signs_of_cases") = true)
    (kC : PySem.W.keepIn K (.ref fC) = true)
    (aM : PySem.W.nsIn K mainGlobals (Str.ofString "signs_of_maker") = some (some (.ref fM)))
    (lM : K.lookup fM = some ⟨ocM, odM, .func (PySem.W.fnOf (Str.ofString "signs_of_maker") (Str.ofString "signs_of_maker") (defArgs s_signs_of_maker) (defBody s_signs_of_maker) (defScope s_signs_of_maker) .none kVM dcM pmM anM cdM ctM), slM⟩)
    (cM : PySem.W.codeIn K cdM (Str.ofString "signs_of_maker") = true)
    (kM : PySem.W.keepIn K (.ref fM) = true)
    (gR : PySem.W.nsIn K mainGlobals (Str.ofString "SLOT_READERS") = some (some (.ref dR)))
    (lR : K.lookup dR = some ⟨.type "dict", none, .dict es en, #[]⟩)
    (tR : PySem.W.KeysLit w.params es.toList)
    (wR : (dR == sysModules) = false)
    (r0 : PySem.W.nsIn K dR (sg "name") = some (some (.ref fN)))
    (r1 : PySem.W.nsIn K dR (sg "kind") = some (some (.ref fK)))
    (r2 : PySem.W.nsIn K dR (sg "term") = some (some (.ref fT)))
    (r3 : PySem.W.nsIn K dR (sg "terms") = some (some (.ref fS)))
    (r4 : PySem.W.nsIn K dR (sg "cases") = some (some (.ref fC))) :
    ∃ (fN fK fT fS fA fC fM dR : Addr) (fdN fdK fdT fdS fdA fdC fdM : FuncData), DefF K mg (Str.ofString "read_name") s_read_name [(Str.ofString "reader")] fN fdN ∧ DefF K mg (Str.ofString "signs_of_kind") s_signs_of_kind [(Str.ofString "reader")] fK fdK ∧ DefF K mg (Str.ofString "signs_of_term") s_signs_of_term [(Str.ofString "reader")] fT fdT ∧ DefF K mg (Str.ofString "signs_of_terms") s_signs_of_terms [(Str.ofString "reader")] fS fdS ∧ DefF K mg (Str.ofString "signs_of_case") s_signs_of_case [(Str.ofString "reader")] fA fdA ∧ DefF K mg (Str.ofString "signs_of_cases") s_signs_of_cases [(Str.ofString "reader")] fC fdC ∧ DefF K mg (Str.ofString "signs_of_maker") s_signs_of_maker [(Str.ofString "reader")] fM fdM ∧ GV mg (Str.ofString "SLOT_READERS") (.ref dR) ∧ Rds K w dR fN fK fT fS fC :=
  ⟨fN, fK, fT, fS, fA, fC, fM, dR, _, _, _, _, _, _, _, ⟨fun_mk lN cN kN, PySem.W.mg_of X G aN, (fun_mk (st := s_read_name) lN cN kN).binds fun _ _ _ _ _ _ us hl => match us, hl with | [_], _ => rfl⟩,
    ⟨fun_mk lK cK kK, PySem.W.mg_of X G aK, (fun_mk (st := s_signs_of_kind) lK cK kK).binds fun _ _ _ _ _ _ us hl => match us, hl with | [_], _ => rfl⟩,
    ⟨fun_mk lT cT kT, PySem.W.mg_of X G aT, (fun_mk (st := s_signs_of_term) lT cT kT).binds fun _ _ _ _ _ _ us hl => match us, hl with | [_], _ => rfl⟩,
    ⟨fun_mk lS cS kS, PySem.W.mg_of X G aS, (fun_mk (st := s_signs_of_terms) lS cS kS).binds fun _ _ _ _ _ _ us hl => match us, hl with | [_], _ => rfl⟩,
    ⟨fun_mk lA cA kA, PySem.W.mg_of X G aA, (fun_mk (st := s_signs_of_case) lA cA kA).binds fun _ _ _ _ _ _ us hl => match us, hl with | [_], _ => rfl⟩,
    ⟨fun_mk lC cC kC, PySem.W.mg_of X G aC, (fun_mk (st := s_signs_of_cases) lC cC kC).binds fun _ _ _ _ _ _ us hl => match us, hl with | [_], _ => rfl⟩,
    ⟨fun_mk lM cM kM, PySem.W.mg_of X G aM, (fun_mk (st := s_signs_of_maker) lM cM kM).binds fun _ _ _ _ _ _ us hl => match us, hl with | [_], _ => rfl⟩,
    ⟨_, PySem.W.mg_of X G gR, rfl⟩,
    ⟨⟨es, en, lR, tR, wR⟩, r0, r1, r2, r3, r4⟩⟩
end Ow
open PySem PySem.W PyProof.Rows
set_option maxRecDepth 100000 in
set_option maxHeartbeats 0 in
theorem PySem.Challenge.cw_oncewire_k09_programs_written_and_read_holds : PySem.Challenge.rw_oncewire_k09_programs_written_and_read.Holds := by
  w_on; o_law; k_head; (case hw => w_witness2)
  k_fill
  refine Ow.walkG (l := PySem.Challenge.rw_oncewire_k09_programs_written_and_read) (n := 63) (k := 171) (x := Str.ofString "_law_script") (sp := Ow.spLaw) rfl (by decide) rfl ⟨rfl, by decide, by decide⟩ (fun w h Y => PySem.W.kIn_of Y) ?F (fun K H a ns hl _ hS => ⟨a, ns, rfl, hS, hl, fun _ => rfl⟩)
  case F =>
    intro w mg fa h KX G hmg
    have D_is_row : Ow.DefAt (L2.KOf KX) mg (Str.ofString "is_row") Ow.s_is_row [Str.ofString "thing", Str.ofString "least", Str.ofString "most"] := by
      dsimp only [L2.KOf]
      refine' Ow.defAt_mk KX G ?a ?l ?c ?k (fun _ _ _ _ _ _ us hl => match us, hl with | [_, _, _], _ => rfl)
      (case a => k_is); (case l => k_is); (case c => k_is); (case k => k_is)
    have D_are_unlike : Ow.DefAt (L2.KOf KX) mg (Str.ofString "are_unlike") Ow.s_are_unlike [Str.ofString "names"] := by
      dsimp only [L2.KOf]
      refine' Ow.defAt_mk KX G ?a ?l ?c ?k (fun _ _ _ _ _ _ us hl => match us, hl with | [_], _ => rfl)
      (case a => k_is); (case l => k_is); (case c => k_is); (case k => k_is)
    have D_is_name : Ow.DefAt (L2.KOf KX) mg (Str.ofString "is_name") Ow.s_is_name [Str.ofString "thing"] := by
      dsimp only [L2.KOf]
      refine' Ow.defAt_mk KX G ?a ?l ?c ?k (fun _ _ _ _ _ _ us hl => match us, hl with | [_], _ => rfl)
      (case a => k_is); (case l => k_is); (case c => k_is); (case k => k_is)
    have D_is_kind : Ow.DefAt (L2.KOf KX) mg (Str.ofString "is_kind") Ow.s_is_kind [Str.ofString "thing"] := by
      dsimp only [L2.KOf]
      refine' Ow.defAt_mk KX G ?a ?l ?c ?k (fun _ _ _ _ _ _ us hl => match us, hl with | [_], _ => rfl)
      (case a => k_is); (case l => k_is); (case c => k_is); (case k => k_is)
    have D_is_kind_within : Ow.DefAt (L2.KOf KX) mg (Str.ofString "is_kind_within") Ow.s_is_kind_within [Str.ofString "thing", Str.ofString "most"] := by
      dsimp only [L2.KOf]
      refine' Ow.defAt_mk KX G ?a ?l ?c ?k (fun _ _ _ _ _ _ us hl => match us, hl with | [_, _], _ => rfl)
      (case a => k_is); (case l => k_is); (case c => k_is); (case k => k_is)
    have D_is_term : Ow.DefAt (L2.KOf KX) mg (Str.ofString "is_term") Ow.s_is_term [Str.ofString "thing"] := by
      dsimp only [L2.KOf]
      refine' Ow.defAt_mk KX G ?a ?l ?c ?k (fun _ _ _ _ _ _ us hl => match us, hl with | [_], _ => rfl)
      (case a => k_is); (case l => k_is); (case c => k_is); (case k => k_is)
    have D_is_formed : Ow.DefAt (L2.KOf KX) mg (Str.ofString "is_formed") Ow.s_is_formed [Str.ofString "thing"] := by
      dsimp only [L2.KOf]
      refine' Ow.defAt_mk KX G ?a ?l ?c ?k (fun _ _ _ _ _ _ us hl => match us, hl with | [_], _ => rfl)
      (case a => k_is); (case l => k_is); (case c => k_is); (case k => k_is)
    have D_fits_slot : Ow.DefAt (L2.KOf KX) mg (Str.ofString "fits_slot") Ow.s_fits_slot [Str.ofString "slot", Str.ofString "thing"] := by
      dsimp only [L2.KOf]
      refine' Ow.defAt_mk KX G ?a ?l ?c ?k (fun _ _ _ _ _ _ us hl => match us, hl with | [_, _], _ => rfl)
      (case a => k_is); (case l => k_is); (case c => k_is); (case k => k_is)
    have D_is_case : Ow.DefAt (L2.KOf KX) mg (Str.ofString "is_case") Ow.s_is_case [Str.ofString "thing"] := by
      dsimp only [L2.KOf]
      refine' Ow.defAt_mk KX G ?a ?l ?c ?k (fun _ _ _ _ _ _ us hl => match us, hl with | [_], _ => rfl)
      (case a => k_is); (case l => k_is); (case c => k_is); (case k => k_is)
    have D_below : Ow.DefAt (L2.KOf KX) mg (Str.ofString "below") Ow.s_below [Str.ofString "term"] := by
      dsimp only [L2.KOf]
      refine' Ow.defAt_mk KX G ?a ?l ?c ?k (fun _ _ _ _ _ _ us hl => match us, hl with | [_], _ => rfl)
      (case a => k_is); (case l => k_is); (case c => k_is); (case k => k_is)
    have D_is_program : Ow.DefAt (L2.KOf KX) mg (Str.ofString "is_program") Ow.s_is_program [Str.ofString "thing"] := by
      dsimp only [L2.KOf]
      refine' Ow.defAt_mk KX G ?a ?l ?c ?k (fun _ _ _ _ _ _ us hl => match us, hl with | [_], _ => rfl)
      (case a => k_is); (case l => k_is); (case c => k_is); (case k => k_is)
    have D_are_datas : Ow.DefAt (L2.KOf KX) mg (Str.ofString "are_datas") Ow.s_are_datas [Str.ofString "thing"] := by
      dsimp only [L2.KOf]
      refine' Ow.defAt_mk KX G ?a ?l ?c ?k (fun _ _ _ _ _ _ us hl => match us, hl with | [_], _ => rfl)
      (case a => k_is); (case l => k_is); (case c => k_is); (case k => k_is)
    have D_is_data : Ow.DefAt (L2.KOf KX) mg (Str.ofString "is_data") Ow.s_is_data [Str.ofString "thing"] := by
      dsimp only [L2.KOf]
      refine' Ow.defAt_mk KX G ?a ?l ?c ?k (fun _ _ _ _ _ _ us hl => match us, hl with | [_], _ => rfl)
      (case a => k_is); (case l => k_is); (case c => k_is); (case k => k_is)
    have D_is_maker : Ow.DefAt (L2.KOf KX) mg (Str.ofString "is_maker") Ow.s_is_maker [Str.ofString "thing"] := by
      dsimp only [L2.KOf]
      refine' Ow.defAt_mk KX G ?a ?l ?c ?k (fun _ _ _ _ _ _ us hl => match us, hl with | [_], _ => rfl)
      (case a => k_is); (case l => k_is); (case c => k_is); (case k => k_is)
    have D_are_defs : Ow.DefAt (L2.KOf KX) mg (Str.ofString "are_defs") Ow.s_are_defs [Str.ofString "thing"] := by
      dsimp only [L2.KOf]
      refine' Ow.defAt_mk KX G ?a ?l ?c ?k (fun _ _ _ _ _ _ us hl => match us, hl with | [_], _ => rfl)
      (case a => k_is); (case l => k_is); (case c => k_is); (case k => k_is)
    have D_is_def : Ow.DefAt (L2.KOf KX) mg (Str.ofString "is_def") Ow.s_is_def [Str.ofString "thing"] := by
      dsimp only [L2.KOf]
      refine' Ow.defAt_mk KX G ?a ?l ?c ?k (fun _ _ _ _ _ _ us hl => match us, hl with | [_], _ => rfl)
      (case a => k_is); (case l => k_is); (case c => k_is); (case k => k_is)
    have D_read_until : Ow.DefAt (L2.KOf KX) mg (Str.ofString "read_until") Ow.s_read_until [Str.ofString "reader", Str.ofString "read", Str.ofString "sign"] := by
      dsimp only [L2.KOf]
      refine' Ow.defAt_mk KX G ?a ?l ?c ?k (fun _ _ _ _ _ _ us hl => match us, hl with | [_, _, _], _ => rfl)
      (case a => k_is); (case l => k_is); (case c => k_is); (case k => k_is)
    have D_signs_of_program : Ow.DefAt (L2.KOf KX) mg (Str.ofString "signs_of_program") Ow.s_signs_of_program [Str.ofString "reader"] := by
      dsimp only [L2.KOf]
      refine' Ow.defAt_mk KX G ?a ?l ?c ?k (fun _ _ _ _ _ _ us hl => match us, hl with | [_], _ => rfl)
      (case a => k_is); (case l => k_is); (case c => k_is); (case k => k_is)
    have D_signs_of_rows : Ow.DefAt (L2.KOf KX) mg (Str.ofString "signs_of_rows") Ow.s_signs_of_rows [Str.ofString "reader", Str.ofString "signs"] := by
      dsimp only [L2.KOf]
      refine' Ow.defAt_mk KX G ?a ?l ?c ?k (fun _ _ _ _ _ _ us hl => match us, hl with | [_, _], _ => rfl)
      (case a => k_is); (case l => k_is); (case c => k_is); (case k => k_is)
    have D_signs_of_data : Ow.DefAt (L2.KOf KX) mg (Str.ofString "signs_of_data") Ow.s_signs_of_data [Str.ofString "reader"] := by
      dsimp only [L2.KOf]
      refine' Ow.defAt_mk KX G ?a ?l ?c ?k (fun _ _ _ _ _ _ us hl => match us, hl with | [_], _ => rfl)
      (case a => k_is); (case l => k_is); (case c => k_is); (case k => k_is)
    have D_signs_of_def : Ow.DefAt (L2.KOf KX) mg (Str.ofString "signs_of_def") Ow.s_signs_of_def [Str.ofString "reader"] := by
      dsimp only [L2.KOf]
      refine' Ow.defAt_mk KX G ?a ?l ?c ?k (fun _ _ _ _ _ _ us hl => match us, hl with | [_], _ => rfl)
      (case a => k_is); (case l => k_is); (case c => k_is); (case k => k_is)
    have D_kind_text : Ow.DefAt (L2.KOf KX) mg (Str.ofString "kind_text") Ow.s_kind_text [Str.ofString "kind"] := by
      dsimp only [L2.KOf]
      refine' Ow.defAt_mk KX G ?a ?l ?c ?k (fun _ _ _ _ _ _ us hl => match us, hl with | [_], _ => rfl)
      (case a => k_is); (case l => k_is); (case c => k_is); (case k => k_is)
    have D_term_text : Ow.DefAt (L2.KOf KX) mg (Str.ofString "term_text") Ow.s_term_text [Str.ofString "term"] := by
      dsimp only [L2.KOf]
      refine' Ow.defAt_mk KX G ?a ?l ?c ?k (fun _ _ _ _ _ _ us hl => match us, hl with | [_], _ => rfl)
      (case a => k_is); (case l => k_is); (case c => k_is); (case k => k_is)
    have D_text_with : Ow.DefAt (L2.KOf KX) mg (Str.ofString "text_with") Ow.s_text_with [Str.ofString "term", Str.ofString "unshown"] := by
      dsimp only [L2.KOf]
      refine' Ow.defAt_mk KX G ?a ?l ?c ?k (fun _ _ _ _ _ _ us hl => match us, hl with | [_, _], _ => rfl)
      (case a => k_is); (case l => k_is); (case c => k_is); (case k => k_is)
    have D_spelled : Ow.DefAt (L2.KOf KX) mg (Str.ofString "spelled") Ow.s_spelled [Str.ofString "term"] := by
      dsimp only [L2.KOf]
      refine' Ow.defAt_mk KX G ?a ?l ?c ?k (fun _ _ _ _ _ _ us hl => match us, hl with | [_], _ => rfl)
      (case a => k_is); (case l => k_is); (case c => k_is); (case k => k_is)
    have D_program_text : Ow.DefAt (L2.KOf KX) mg (Str.ofString "program_text") Ow.s_program_text [Str.ofString "program"] := by
      dsimp only [L2.KOf]
      refine' Ow.defAt_mk KX G ?a ?l ?c ?k (fun _ _ _ _ _ _ us hl => match us, hl with | [_], _ => rfl)
      (case a => k_is); (case l => k_is); (case c => k_is); (case k => k_is)
    have D_data_text : Ow.DefAt (L2.KOf KX) mg (Str.ofString "data_text") Ow.s_data_text [Str.ofString "name", Str.ofString "makers"] := by
      dsimp only [L2.KOf]
      refine' Ow.defAt_mk KX G ?a ?l ?c ?k (fun _ _ _ _ _ _ us hl => match us, hl with | [_, _], _ => rfl)
      (case a => k_is); (case l => k_is); (case c => k_is); (case k => k_is)
    have D_bracketed : Ow.DefAt (L2.KOf KX) mg (Str.ofString "bracketed") Ow.s_bracketed [Str.ofString "words"] := by
      dsimp only [L2.KOf]
      refine' Ow.defAt_mk KX G ?a ?l ?c ?k (fun _ _ _ _ _ _ us hl => match us, hl with | [_], _ => rfl)
      (case a => k_is); (case l => k_is); (case c => k_is); (case k => k_is)
    have D_read_program : Ow.DefAt (L2.KOf KX) mg (Str.ofString "read_program") Ow.s_read_program [Str.ofString "text"] := by
      dsimp only [L2.KOf]
      refine' Ow.defAt_mk KX G ?a ?l ?c ?k (fun _ _ _ _ _ _ us hl => match us, hl with | [_], _ => rfl)
      (case a => k_is); (case l => k_is); (case c => k_is); (case k => k_is)
    have D_read_whole : Ow.DefAt (L2.KOf KX) mg (Str.ofString "read_whole") Ow.s_read_whole [Str.ofString "text", Str.ofString "read", Str.ofString "holds"] := by
      dsimp only [L2.KOf]
      refine' Ow.defAt_mk KX G ?a ?l ?c ?k (fun _ _ _ _ _ _ us hl => match us, hl with | [_, _, _], _ => rfl)
      (case a => k_is); (case l => k_is); (case c => k_is); (case k => k_is)
    have D_law_pen : Ow.DefAt (L2.KOf KX) mg (Str.ofString "_law_pen") Ow.s_law_pen [Str.ofString "_law_script"] := by
      dsimp only [L2.KOf]
      refine' Ow.defAt_mk KX G ?a ?l ?c ?k (fun _ _ _ _ _ _ us hl => match us, hl with | [_], _ => rfl)
      (case a => k_is); (case l => k_is); (case c => k_is); (case k => k_is)
    have D_law_fresh : Ow.DefAt (L2.KOf KX) mg (Str.ofString "_law_fresh") Ow.s_law_fresh [Str.ofString "_law_pen_here"] := by
      dsimp only [L2.KOf]
      refine' Ow.defAt_mk KX G ?a ?l ?c ?k (fun _ _ _ _ _ _ us hl => match us, hl with | [_], _ => rfl)
      (case a => k_is); (case l => k_is); (case c => k_is); (case k => k_is)
    have D_law_draw : Ow.DefAt (L2.KOf KX) mg (Str.ofString "_law_draw") Ow.s_law_draw [Str.ofString "_law_pen_here", Str.ofString "_law_below"] := by
      dsimp only [L2.KOf]
      refine' Ow.defAt_mk KX G ?a ?l ?c ?k (fun _ _ _ _ _ _ us hl => match us, hl with | [_, _], _ => rfl)
      (case a => k_is); (case l => k_is); (case c => k_is); (case k => k_is)
    have D_law_name : Ow.DefAt (L2.KOf KX) mg (Str.ofString "_law_name") Ow.s_law_name [Str.ofString "_law_pen_here", Str.ofString "_law_gone"] := by
      dsimp only [L2.KOf]
      refine' Ow.defAt_mk KX G ?a ?l ?c ?k (fun _ _ _ _ _ _ us hl => match us, hl with | [_, _], _ => rfl)
      (case a => k_is); (case l => k_is); (case c => k_is); (case k => k_is)
    have D_law_any_kind : Ow.DefAt (L2.KOf KX) mg (Str.ofString "_law_any_kind") Ow.s_law_any_kind [Str.ofString "_law_pen_here", Str.ofString "_law_deep"] := by
      dsimp only [L2.KOf]
      refine' Ow.defAt_mk KX G ?a ?l ?c ?k (fun _ _ _ _ _ _ us hl => match us, hl with | [_, _], _ => rfl)
      (case a => k_is); (case l => k_is); (case c => k_is); (case k => k_is)
    have D_law_unlike : Ow.DefAt (L2.KOf KX) mg (Str.ofString "_law_unlike") Ow.s_law_unlike [Str.ofString "_law_pen_here", Str.ofString "_law_often"] := by
      dsimp only [L2.KOf]
      refine' Ow.defAt_mk KX G ?a ?l ?c ?k (fun _ _ _ _ _ _ us hl => match us, hl with | [_, _], _ => rfl)
      (case a => k_is); (case l => k_is); (case c => k_is); (case k => k_is)
    have D_law_any : Ow.DefAt (L2.KOf KX) mg (Str.ofString "_law_any") Ow.s_law_any [Str.ofString "_law_pen_here", Str.ofString "_law_deep"] := by
      dsimp only [L2.KOf]
      refine' Ow.defAt_mk KX G ?a ?l ?c ?k (fun _ _ _ _ _ _ us hl => match us, hl with | [_, _], _ => rfl)
      (case a => k_is); (case l => k_is); (case c => k_is); (case k => k_is)
    have D_law_kind_text : Ow.DefAt (L2.KOf KX) mg (Str.ofString "_law_kind_text") Ow.s_law_kind_text [Str.ofString "_law_kind"] := by
      dsimp only [L2.KOf]
      refine' Ow.defAt_mk KX G ?a ?l ?c ?k (fun _ _ _ _ _ _ us hl => match us, hl with | [_], _ => rfl)
      (case a => k_is); (case l => k_is); (case c => k_is); (case k => k_is)
    have D_law_term_text : Ow.DefAt (L2.KOf KX) mg (Str.ofString "_law_term_text") Ow.s_law_term_text [Str.ofString "_law_term"] := by
      dsimp only [L2.KOf]
      refine' Ow.defAt_mk KX G ?a ?l ?c ?k (fun _ _ _ _ _ _ us hl => match us, hl with | [_], _ => rfl)
      (case a => k_is); (case l => k_is); (case c => k_is); (case k => k_is)
    have D_law_tokens : Ow.DefAt (L2.KOf KX) mg (Str.ofString "_law_tokens") Ow.s_law_tokens [Str.ofString "_law_text"] := by
      dsimp only [L2.KOf]
      refine' Ow.defAt_mk KX G ?a ?l ?c ?k (fun _ _ _ _ _ _ us hl => match us, hl with | [_], _ => rfl)
      (case a => k_is); (case l => k_is); (case c => k_is); (case k => k_is)
    have D_law_dressed : Ow.DefAt (L2.KOf KX) mg (Str.ofString "_law_dressed") Ow.s_law_dressed [Str.ofString "_law_pen_here", Str.ofString "_law_text"] := by
      dsimp only [L2.KOf]
      refine' Ow.defAt_mk KX G ?a ?l ?c ?k (fun _ _ _ _ _ _ us hl => match us, hl with | [_, _], _ => rfl)
      (case a => k_is); (case l => k_is); (case c => k_is); (case k => k_is)
    have D_law_any_program : Ow.DefAt (L2.KOf KX) mg (Str.ofString "_law_any_program") Ow.s_law_any_program [Str.ofString "_law_pen_here"] := by
      dsimp only [L2.KOf]
      refine' Ow.defAt_mk KX G ?a ?l ?c ?k (fun _ _ _ _ _ _ us hl => match us, hl with | [_], _ => rfl)
      (case a => k_is); (case l => k_is); (case c => k_is); (case k => k_is)
    have D_law_program_text : Ow.DefAt (L2.KOf KX) mg (Str.ofString "_law_program_text") Ow.s_law_program_text [Str.ofString "_law_program"] := by
      dsimp only [L2.KOf]
      refine' Ow.defAt_mk KX G ?a ?l ?c ?k (fun _ _ _ _ _ _ us hl => match us, hl with | [_], _ => rfl)
      (case a => k_is); (case l => k_is); (case c => k_is); (case k => k_is)
    have T : Ow.Bl mg := by
      refine' ⟨PySem.W.mg_none_of KX G ?z0, PySem.W.mg_none_of KX G ?z1, PySem.W.mg_none_of KX G ?z2, PySem.W.mg_none_of KX G ?z3, PySem.W.mg_none_of KX G ?z4, PySem.W.mg_none_of KX G ?z5, PySem.W.mg_none_of KX G ?z6, PySem.W.mg_none_of KX G ?z7, PySem.W.mg_none_of KX G ?z8, PySem.W.mg_none_of KX G ?z9, PySem.W.mg_none_of KX G ?z10, PySem.W.mg_none_of KX G ?z11, PySem.W.mg_none_of KX G ?z12, PySem.W.mg_none_of KX G ?z13, PySem.W.mg_none_of KX G ?z14, PySem.W.mg_none_of KX G ?z15, PySem.W.mg_none_of KX G ?z16, PySem.W.mg_none_of KX G ?z17, PySem.W.mg_none_of KX G ?z18⟩
      (case z0 => k_is); (case z1 => k_is); (case z2 => k_is); (case z3 => k_is); (case z4 => k_is); (case z5 => k_is); (case z6 => k_is); (case z7 => k_is); (case z8 => k_is); (case z9 => k_is); (case z10 => k_is); (case z11 => k_is); (case z12 => k_is); (case z13 => k_is); (case z14 => k_is); (case z15 => k_is); (case z16 => k_is); (case z17 => k_is); (case z18 => k_is)
    have G_LETTERS : Ow.GV mg (Str.ofString "LETTERS") (.str Ow.abc) := by
      refine' Ow.gv_mk KX G ?a ?r
      (case a => k_is); (case r => exact ⟨_, rfl⟩)
    have G_BLANKS : Ow.GV mg (Str.ofString "BLANKS") (.str Ow.blanks) := by
      refine' Ow.gv_mk KX G ?a ?r
      (case a => k_is); (case r => exact ⟨_, rfl⟩)
    have G_KIND_SIGNS : Ow.GV mg (Str.ofString "KIND_SIGNS") (.str ">*") := by
      refine' Ow.gv_mk KX G ?a ?r
      (case a => k_is); (case r => exact ⟨_, rfl⟩)
    have G_TERM_SIGNS : Ow.GV mg (Str.ofString "TERM_SIGNS") (.str "^!&/#?+-") := by
      refine' Ow.gv_mk KX G ?a ?r
      (case a => k_is); (case r => exact ⟨_, rfl⟩)
    have G_MOST_LETTERS : Ow.GV mg (Str.ofString "MOST_LETTERS") (.int 8) := by
      refine' Ow.gv_mk KX G ?a ?r
      (case a => k_is); (case r => exact ⟨_, rfl⟩)
    have G_MOST_KINDS_WITHIN : Ow.GV mg (Str.ofString "MOST_KINDS_WITHIN") (.int 6) := by
      refine' Ow.gv_mk KX G ?a ?r
      (case a => k_is); (case r => exact ⟨_, rfl⟩)
    have G_MOST_TERMS_WITHIN : Ow.GV mg (Str.ofString "MOST_TERMS_WITHIN") (.int 30) := by
      refine' Ow.gv_mk KX G ?a ?r
      (case a => k_is); (case r => exact ⟨_, rfl⟩)
    have G_MOST_PARTS : Ow.GV mg (Str.ofString "MOST_PARTS") (.int 200) := by
      refine' Ow.gv_mk KX G ?a ?r
      (case a => k_is); (case r => exact ⟨_, rfl⟩)
    have G_MOST_FIELDS : Ow.GV mg (Str.ofString "MOST_FIELDS") (.int 4) := by
      refine' Ow.gv_mk KX G ?a ?r
      (case a => k_is); (case r => exact ⟨_, rfl⟩)
    have G_MOST_CASES : Ow.GV mg (Str.ofString "MOST_CASES") (.int 6) := by
      refine' Ow.gv_mk KX G ?a ?r
      (case a => k_is); (case r => exact ⟨_, rfl⟩)
    have G_MOST_DATAS : Ow.GV mg (Str.ofString "MOST_DATAS") (.int 6) := by
      refine' Ow.gv_mk KX G ?a ?r
      (case a => k_is); (case r => exact ⟨_, rfl⟩)
    have G_MOST_MAKERS : Ow.GV mg (Str.ofString "MOST_MAKERS") (.int 6) := by
      refine' Ow.gv_mk KX G ?a ?r
      (case a => k_is); (case r => exact ⟨_, rfl⟩)
    have G_MOST_DEFS : Ow.GV mg (Str.ofString "MOST_DEFS") (.int 16) := by
      refine' Ow.gv_mk KX G ?a ?r
      (case a => k_is); (case r => exact ⟨_, rfl⟩)
    obtain ⟨C, fI, fdI, R, g_R, m_R, F_I, b_I, D_peek, D_take, D_take_name, D_finish⟩ : ∃ (C fI : Addr) (fdI : FuncData), Ow.RdC (L2.KOf KX) C ∧ mg (Str.ofString "Reader") = some (.ref C) ∧ L2.Mk (L2.KOf KX) C fI ∧ L2.Fun (L2.KOf KX) (Str.ofString "__init__") (Str.ofString "Reader.__init__") Ow.s_Reader_init fI fdI ∧ L2.Binds (L2.KOf KX) fdI [(Str.ofString "self"), (Str.ofString "text")] [] ∧ Ow.MethAt (L2.KOf KX) C (Str.ofString "peek") (Str.ofString "Reader.peek") Ow.s_Reader_peek [(Str.ofString "self")] ∧ Ow.MethAt (L2.KOf KX) C (Str.ofString "take") (Str.ofString "Reader.take") Ow.s_Reader_take [(Str.ofString "self"), (Str.ofString "signs")] ∧ Ow.MethAt (L2.KOf KX) C (Str.ofString "take_name") (Str.ofString "Reader.take_name") Ow.s_Reader_take_name [(Str.ofString "self")] ∧ Ow.MethAt (L2.KOf KX) C (Str.ofString "finish") (Str.ofString "Reader.finish") Ow.s_Reader_finish [(Str.ofString "self")] := by
      dsimp only [L2.KOf]
      refine' Ow.mk09a KX G ?gC ?pg ?hd ?po ?sa ?nT ?nA ?mC ?kC ?aI ?nI ?kI ?lI ?cI ?aP ?nP ?kP ?lP ?cP ?aK ?nK ?kK ?lK ?cK ?aN ?nN ?kN ?lN ?cN ?aF ?nF ?kF ?lF ?cF
      (case gC => k_is); (case pg => k_is); (case hd => k_is); (case po => k_is); (case sa => k_is); (case nT => k_is)
      (case nA => k_is); (case mC => k_is); (case kC => k_is); (case aI => k_is); (case nI => k_is); (case kI => k_is)
      (case lI => k_is); (case cI => k_is); (case aP => k_is); (case nP => k_is); (case kP => k_is); (case lP => k_is)
      (case cP => k_is); (case aK => k_is); (case nK => k_is); (case kK => k_is); (case lK => k_is); (case cK => k_is)
      (case aN => k_is); (case nN => k_is); (case kN => k_is); (case lN => k_is); (case cN => k_is); (case aF => k_is)
      (case nF => k_is); (case kF => k_is); (case lF => k_is); (case cF => k_is)
    obtain ⟨fN, fK, fT, fS, fA, fC, fM, dR, fdN, fdK, fdT, fdS, fdA, fdC, fdM, D_N, D_K, D_T, D_S, D_A, D_C, D_M, G_R, RD⟩ : ∃ (fN fK fT fS fA fC fM dR : Addr) (fdN fdK fdT fdS fdA fdC fdM : FuncData), Ow.DefF (L2.KOf KX) mg (Str.ofString "read_name") Ow.s_read_name [(Str.ofString "reader")] fN fdN ∧ Ow.DefF (L2.KOf KX) mg (Str.ofString "signs_of_kind") Ow.s_signs_of_kind [(Str.ofString "reader")] fK fdK ∧ Ow.DefF (L2.KOf KX) mg (Str.ofString "signs_of_term") Ow.s_signs_of_term [(Str.ofString "reader")] fT fdT ∧ Ow.DefF (L2.KOf KX) mg (Str.ofString "signs_of_terms") Ow.s_signs_of_terms [(Str.ofString "reader")] fS fdS ∧ Ow.DefF (L2.KOf KX) mg (Str.ofString "signs_of_case") Ow.s_signs_of_case [(Str.ofString "reader")] fA fdA ∧ Ow.DefF (L2.KOf KX) mg (Str.ofString "signs_of_cases") Ow.s_signs_of_cases [(Str.ofString "reader")] fC fdC ∧ Ow.DefF (L2.KOf KX) mg (Str.ofString "signs_of_maker") Ow.s_signs_of_maker [(Str.ofString "reader")] fM fdM ∧ Ow.GV mg (Str.ofString "SLOT_READERS") (.ref dR) ∧ Ow.Rds (L2.KOf KX) w dR fN fK fT fS fC := by
      dsimp only [L2.KOf]
      refine' Ow.mk09b (w := w) KX G ?aN ?lN ?cN ?kN ?aK ?lK ?cK ?kK ?aT ?lT ?cT ?kT ?aS ?lS ?cS ?kS ?aA ?lA ?cA ?kA ?aC ?lC ?cC ?kC ?aM ?lM ?cM ?kM ?gR ?lR ?tR ?wR ?r0 ?r1 ?r2 ?r3 ?r4
      (case aN => k_is); (case lN => k_is); (case cN => k_is); (case kN => k_is); (case aK => k_is); (case lK => k_is)
      (case cK => k_is); (case kK => k_is); (case aT => k_is); (case lT => k_is); (case cT => k_is); (case kT => k_is)
      (case aS => k_is); (case lS => k_is); (case cS => k_is); (case kS => k_is); (case aA => k_is); (case lA => k_is)
      (case cA => k_is); (case kA => k_is); (case aC => k_is); (case lC => k_is); (case cC => k_is); (case kC => k_is)
      (case aM => k_is); (case lM => k_is); (case cM => k_is); (case kM => k_is); (case gR => k_is); (case lR => k_is)
      (case tR => exact ⟨⟨_, _, rfl, rfl⟩, ⟨⟨_, _, rfl, rfl⟩, ⟨⟨_, _, rfl, rfl⟩, ⟨⟨_, _, rfl, rfl⟩, ⟨⟨_, _, rfl, rfl⟩, trivial⟩⟩⟩⟩⟩); (case wR => decide +kernel); (case r0 => k_is); (case r1 => k_is); (case r2 => k_is); (case r3 => k_is)
      (case r4 => k_is)
    obtain ⟨dF, G_FORMS, FT⟩ : ∃ dF, Ow.GV mg (Str.ofString "FORMS") (.ref dF) ∧ Ow.Forms (L2.KOf KX) w dF := by
      refine' ⟨_, Ow.gv_mk KX G ?a ?r, ?f⟩
      (case a => k_is)
      (case r => exact rfl)
      dsimp only [L2.KOf]
      refine' Ow.forms_mk ?l ?lit (by decide +kernel) ?e
      (case l => k_is)
      (case lit => exact ⟨⟨_, _, rfl, rfl⟩, ⟨⟨_, _, rfl, rfl⟩, ⟨⟨_, _, rfl, rfl⟩, ⟨⟨_, _, rfl, rfl⟩, ⟨⟨_, _, rfl, rfl⟩, ⟨⟨_, _, rfl, rfl⟩, ⟨⟨_, _, rfl, rfl⟩, ⟨⟨_, _, rfl, rfl⟩, ⟨⟨_, _, rfl, rfl⟩, trivial⟩⟩⟩⟩⟩⟩⟩⟩⟩)
      refine' ⟨⟨_, rfl⟩, Ow.ent_mk rfl ?a0 ?s0 ?v0, ⟨⟨_, rfl⟩, Ow.ent_mk rfl ?a1 ?s1 ?v1, ⟨⟨_, rfl⟩, Ow.ent_mk rfl ?a2 ?s2 ?v2, ⟨⟨_, rfl⟩, Ow.ent_mk rfl ?a3 ?s3 ?v3, ⟨⟨_, rfl⟩, Ow.ent_mk rfl ?a4 ?s4 ?v4, ⟨⟨_, rfl⟩, Ow.ent_mk rfl ?a5 ?s5 ?v5, ⟨⟨_, rfl⟩, Ow.ent_mk rfl ?a6 ?s6 ?v6, ⟨⟨_, rfl⟩, Ow.ent_mk rfl ?a7 ?s7 ?v7, ⟨⟨_, rfl⟩, Ow.ent_mk rfl ?a8 ?s8 ?v8, trivial⟩⟩⟩⟩⟩⟩⟩⟩⟩
      (case a0 => k_is); (case s0 => decide +kernel)
      (case a1 => k_is); (case s1 => decide +kernel)
      (case a2 => k_is); (case s2 => decide +kernel)
      (case a3 => k_is); (case s3 => decide +kernel)
      (case a4 => k_is); (case s4 => decide +kernel)
      (case a5 => k_is); (case s5 => decide +kernel)
      (case a6 => k_is); (case s6 => decide +kernel)
      (case a7 => k_is); (case s7 => decide +kernel)
      (case a8 => k_is); (case s8 => decide +kernel)
      (case v0 => exact (.cons ⟨_, rfl⟩ .nil))
      (case v1 => exact (.cons ⟨_, rfl⟩ (.cons ⟨_, rfl⟩ (.cons ⟨_, rfl⟩ .nil))))
      (case v2 => exact (.cons ⟨_, rfl⟩ (.cons ⟨_, rfl⟩ .nil)))
      (case v3 => exact (.cons ⟨_, rfl⟩ (.cons ⟨_, rfl⟩ .nil)))
      (case v4 => exact (.cons ⟨_, rfl⟩ (.cons ⟨_, rfl⟩ (.cons ⟨_, rfl⟩ (.cons ⟨_, rfl⟩ .nil)))))
      (case v5 => exact (.cons ⟨_, rfl⟩ (.cons ⟨_, rfl⟩ .nil)))
      (case v6 => exact (.cons ⟨_, rfl⟩ (.cons ⟨_, rfl⟩ .nil)))
      (case v7 => exact (.cons ⟨_, rfl⟩ (.cons ⟨_, rfl⟩ (.cons ⟨_, rfl⟩ (.cons ⟨_, rfl⟩ .nil)))))
      (case v8 => exact (.cons ⟨_, rfl⟩ (.cons ⟨_, rfl⟩ .nil)))
    obtain ⟨fd, FL, hb⟩ : ∃ fd, L2.Fun (L2.KOf KX) (Str.ofString "law") (Str.ofString "law") Ow.s_law fa fd ∧ ∀ (s : Shared) (u : Value), BindsTo s fd ⟨[u], []⟩ [(Str.ofString "_law_script", u)] := by
      dsimp only [L2.KOf]
      refine' Ow.lawAt_mk KX G hmg ?a ?l ?c ?k ?hb
      (case a => k_is); (case l => k_is); (case c => k_is); (case k => k_is); (case hb => exact fun s u => .of_eq rfl)
    refine ⟨fd, hb, fun base _ _ => ?_⟩
    have c_pen := Ow.ok_pen (P := PySem.Challenge.rw_oncewire_k09_programs_written_and_read.prog) (w := w) (base := base) D_law_pen T
    have c_fresh := Ow.ok_fresh (P := PySem.Challenge.rw_oncewire_k09_programs_written_and_read.prog) (w := w) (base := base) D_law_fresh T
    have c_draw := Ow.ok_draw D_law_draw T c_fresh
    have c_nameU := Ow.ok_nameU D_law_name T c_draw
    have c_name := c_nameU.imp Ow.nameU
    have c_isrow := Ow.ok_is_row (P := PySem.Challenge.rw_oncewire_k09_programs_written_and_read.prog) (w := w) (base := base) D_is_row T
    have c_isname := Ow.ok_is_name (P := PySem.Challenge.rw_oncewire_k09_programs_written_and_read.prog) (w := w) (base := base) D_is_name T G_LETTERS G_MOST_LETTERS
    have c_within := Ow.ok_is_kind_within D_is_kind_within T c_isrow c_isname 6
    have c_iskind := Ow.ok_is_kind D_is_kind T G_MOST_KINDS_WITHIN c_within
    have c_unl := Ow.ok_unlike (P := PySem.Challenge.rw_oncewire_k09_programs_written_and_read.prog) (w := w) (base := base) D_are_unlike T
    have c_case := Ow.ok_case D_is_case T G_MOST_FIELDS c_isrow c_isname c_unl
    have c_slot := Ow.ok_slot D_fits_slot T G_MOST_FIELDS G_MOST_CASES c_isrow c_isname c_iskind c_case
    have c_formed := Ow.ok_formed D_is_formed T G_FORMS FT c_isname c_slot
    have c_below := Ow.ok_below (P := PySem.Challenge.rw_oncewire_k09_programs_written_and_read.prog) (w := w) (base := base) D_below T
    have c_isterm := Ow.ok_is_term D_is_term T G_MOST_PARTS G_MOST_TERMS_WITHIN c_formed c_below
    have f_init := Ow.ok_reader_init (mg := mg) (P := PySem.Challenge.rw_oncewire_k09_programs_written_and_read.prog) (w := w) (base := base) F_I R
    have m_peek := Ow.ok_peek (P := PySem.Challenge.rw_oncewire_k09_programs_written_and_read.prog) (w := w) (base := base) D_peek R T G_BLANKS
    have m_take := Ow.ok_take D_take R T m_peek
    have m_name := Ow.ok_take_name D_take_name R T G_LETTERS G_MOST_LETTERS m_peek
    have m_fin := Ow.ok_finish D_finish R T m_peek
    have c_signs := Ow.ok_signs D_K.at R T G_KIND_SIGNS m_peek m_take m_name 6
    have h_kind := (c_signs.imp Ow.kindT).held D_K.g
    have f_term := Ow.signs_all R T D_read_until D_N D_T D_S D_A D_C (m_peek.imp Ow.peekT) (m_take.imp Ow.takeT) (m_name.imp Ow.nameT) G_TERM_SIGNS G_FORMS FT G_R RD h_kind 30
    have c_maker := Ow.ok_maker D_is_maker T G_MOST_FIELDS c_isrow c_isname
    have c_data := Ow.ok_data D_is_data T G_MOST_MAKERS c_isrow c_isname c_maker
    have c_def := Ow.ok_def D_is_def T c_isrow c_isname c_iskind c_isterm
    have c_defs := Ow.ok_defs D_are_defs T G_MOST_DEFS c_isrow c_def c_unl
    have c_datas := Ow.ok_datas D_are_datas T G_MOST_DATAS c_isrow c_data c_unl
    have c_prog := Ow.ok_program D_is_program T c_isrow c_datas c_defs
    have mp := m_peek.imp Ow.peekT
    have mt := m_take.imp Ow.takeT
    have mn := m_name.imp Ow.nameT
    have h_name := D_N.held (Ow.ok_read_name (P := PySem.Challenge.rw_oncewire_k09_programs_written_and_read.prog) (w := w) (base := base) D_N R mn)
    have u_name := Ow.ok_read_until D_read_until R T mp (by decide) h_name (c := 41)
    have f_maker := Ow.ok_signs_of_maker D_M R D_N.gv mt mn u_name
    have u_maker := Ow.ok_read_until D_read_until R T mp (by decide) (D_M.held f_maker) (c := 41)
    have c_sdata := Ow.ok_signs_of_data (jM := 5) (by decide) D_signs_of_data R D_M.gv mn (D_M.call f_maker) u_maker
    have c_sdef := Ow.ok_signs_of_def (jT := 159) (by decide) D_signs_of_def R mn (c_signs.imp Ow.kindT) (D_T.call f_term)
    have c_rows := Ow.ok_signs_of_rows (jR := 160) (by decide) D_signs_of_rows R T mp mt (c_sdata.mono (by decide)) c_sdef
    have c_sprog := Ow.ok_signs_of_program D_signs_of_program c_rows
    have c_brack := Ow.ok_brackN (P := PySem.Challenge.rw_oncewire_k09_programs_written_and_read.prog) (w := w) (base := base) D_bracketed T
    have c_ktext := Ow.ok_kind_text D_kind_text T (c_brack.imp Ow.brackN) 6 (by decide)
    have c_lktext := Ow.ok_law_kind_text (P := PySem.Challenge.rw_oncewire_k09_programs_written_and_read.prog) (w := w) (base := base) D_law_kind_text T 6 (by decide)
    have c_spelled := Ow.ok_spelled D_spelled T G_FORMS FT c_ktext
    have c_twith := Ow.ok_text_with D_text_with T c_spelled
    have c_ttext := Ow.ok_term_text D_term_text c_twith
    have c_dtext := Ow.ok_data_text D_data_text T c_brack
    have c_ptext := Ow.ok_program_text D_program_text T c_brack c_dtext c_ktext c_ttext
    have c_anyk := Ow.ok_any_kind D_law_any_kind T c_draw c_name 3
    have c_lunl := Ow.ok_lunl8 D_law_unlike T c_nameU
    have c_any := Ow.ok_any D_law_any T c_draw c_name c_anyk c_lunl
    have c_ltext := Ow.ok_ltext D_law_term_text T c_lktext 30
    have c_tokens := Ow.ok_tokensT (P := PySem.Challenge.rw_oncewire_k09_programs_written_and_read.prog) (w := w) (base := base) D_law_tokens T
    have c_dressed := Ow.ok_dressedT D_law_dressed T c_draw c_tokens
    have c_aprog := Ow.ok_any_prog D_law_any_program T c_draw c_lunl c_anyk (c_any 1)
    have c_lptext := Ow.ok_lptext D_law_program_text T c_lktext c_ltext
    obtain ⟨fH, fdH, FH, hH, kH, bH⟩ := c_prog.ex
    obtain ⟨fS, fdS, FS, hS, kS, bS⟩ := c_sprog.ex
    exact Ow.ok_law09 FL T c_pen c_aprog c_lptext c_ptext c_dressed (Ow.ok_read_program D_read_program (Ow.ok_read_wholeP (jH := 168) (by decide) D_read_whole R T m_R f_init g_R b_I (m_fin.imp Ow.finT) (Ow.held_mono (c_sprog.held hS) (by decide)) (Ow.held_mono (c_prog.held hH) (by decide))) ⟨_, hS, rfl⟩ ⟨_, hH, rfl⟩)
#print axioms PySem.Challenge.cw_oncewire_k09_programs_written_and_read_holds
