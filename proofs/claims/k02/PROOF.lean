import PyProof.Rows.All
import Wide.All
import OpenK.AllK
import Wide.FinOn
import HandS.ForMost
import HandS.IsInst
import HandS.TupAny
import HandS.Flow
import HandS.Style
import HandS.Zip
import HandS.Evl
import PyProof.ReprRoads
import PyProof.FactsAll.dict
import PyProof.EqKinds
import PyProof.P3In
import PySem.Challenge.RW_oncewire_k02_names_and_kinds_known
set_option Elab.async false
set_option linter.all false
set_option maxRecDepth 100000
set_option maxHeartbeats 4000000
/-! What all our laws over drawn data share: defs and their calls, frames of the heap, the pen that draws, data of any shape. -/
namespace Ow
open PySem PySem.Spec PyProof.Rows L2

/-! ### a def and its calls -/
structure CallOk (P : Program) (w : World) (K : PySem.W.Frag) (mg : Str → Option Value) (base : Heap) (k : Nat) (x : Str) (ps : List Str) (sp : Sp) : Prop where
  ex : ∃ (f : Addr) (fd : FuncData), FnOk P w K mg base CX0 k f fd ps sp ∧ mg x = some (.ref f) ∧ PySem.W.keepIn K (.ref f) = true ∧ Binds K fd ps []
structure DefAt (K : PySem.W.Frag) (mg : Str → Option Value) (x : Str) (st : Stmt) (ps : List Str) : Prop where
  ex : ∃ (f : Addr) (fd : FuncData), Fun K x x st f fd ∧ mg x = some (.ref f) ∧ Binds K fd ps []
section
variable {X : Cx} {k j : Nat} {x : Str} {ps : List Str} {sp : Sp} {p pos : Pos} {e : Expr} {es : List Expr} {t : TA}
theorem pe_callOk (C : CallOk X.prog X.w X.K X.mg X.base k x ps sp) (hr : Room j X.A) (hj : k ≤ j) (hg : Gl X x) (ha : PA X (e :: es) t)
    (hdb : (x == ("__debug__" : Str)) = false := by decide) (he : starEach (e :: es) X.env = (false, eval e X.env) :: starEach es X.env := by rfl)
    (hpl : (backTo pos (starEach es X.env)).any (·.1) = false := by rfl) : PE X (.Call (.Name x p) (e :: es) [] pos) (tCall sp [] E0 t) := by
  obtain ⟨f, fd, F, hm, hk, hb⟩ := C.ex
  exact pe_call F (hr.mono hj) hg hm hk hb .nil pass0 ha hdb he hpl
end
section
variable {P : Program} {w : World} {K : PySem.W.Frag} {mg : Str → Option Value} {base : Heap} {x : Str} {st : Stmt} {N ps : List Str} {k j : Nat} {sp sp' : Sp}
theorem DefAt.ok (D : DefAt K mg x st ps) (S : FnScope N ps (defScope st)) (len : ∀ vs H Q E, sp vs H Q E → vs.length = ps.length)
    (hbody : ∀ (f : Addr) (cdv : Value) (A : Around) (outer : List Env) (s : Shared) (H : Hp) (vs : List V) (Q : VK) (E : XK), Room k (A.deeper (envOfC x (defScope st) s.heap.objs.size f cdv)) → sp vs H Q E →
      ∃ t, PSs (cxOf CX0 P w K mg base N x (defScope st) f cdv A outer s H E).nox (defBody st) t ∧ t { nx := fun _ H' => Q .non H', rt := Q } (start N vs) H) : CallOk P w K mg base (k + 1) x ps sp := by
  obtain ⟨f, fd, F, hm, hb⟩ := D.ex
  exact ⟨f, fd, F.ok S len fun cdv A outer s H vs Q E hr h => hbody f cdv A outer s H vs Q E hr h, hm, F.kp, hb⟩
/-- nothing is promised -/
theorem DefAt.none (D : DefAt K mg x st ps) (S : FnScope N ps (defScope st)) : CallOk P w K mg base 1 x ps (fun _ _ _ _ => False) :=
  D.ok S (fun _ _ _ _ h => h.elim) fun _ _ _ _ _ _ _ _ _ _ h => h.elim
theorem CallOk.mono (C : CallOk P w K mg base j x ps sp) (h : j ≤ k) : CallOk P w K mg base k x ps sp := by
  obtain ⟨f, fd, F, r⟩ := C.ex
  exact ⟨f, fd, F.mono h, r⟩
theorem CallOk.imp (C : CallOk P w K mg base k x ps sp) (h : ∀ vs H Q E, sp' vs H Q E → sp vs H Q E) : CallOk P w K mg base k x ps sp' := by
  obtain ⟨f, fd, F, r⟩ := C.ex
  exact ⟨f, fd, F.imp h, r⟩
end

/-! ### frames: all but the object at p is as it was -/
def Kp (p : Addr) (H H' : Hp) : Prop := ∀ b o, H b = some o → b ≠ p → H' b = some o
section
variable {p q : Addr} {H H1 H2 : Hp} {o : HO}
theorem Kp.refl : Kp p H H := fun _ _ h _ => h
theorem Kp.trans (a : Kp p H H1) (b : Kp p H1 H2) : Kp p H H2 := fun c o h n => b c o (a c o h n) n
theorem Kp.of (s : Same H H1) : Kp p H H1 := fun c o h _ => s c o h
theorem Kp.new (h : H q = none) : Kp p H (upd H q o) := fun c u e _ => by
  rw [upd_ne (ne_of_none e h)]
  exact e
theorem Kp.self : Kp p H (upd H p o) := fun c u e n => by
  rw [upd_ne n]
  exact e
/-- an object that came later is changed -/
theorem Kp.mut (a : Kp p H H1) (h : H q = none) : Kp p H (upd H1 q o) := fun c u e n => by
  rw [upd_ne (ne_of_none e h)]
  exact a c u e n
theorem Kp.put (a : Kp p H H1) : Kp p H (upd H1 p o) := fun c u e n => by
  rw [upd_ne n]
  exact a c u e n
theorem Kp.lay (a : Kp p H H1) (h : H1 q = none) : Kp p H (upd H1 q o) := a.trans (Kp.new h)
theorem Kp.none (a : Kp p H H1) (h : H1 q = none) (n : q ≠ p) : H q = none := by
  cases e : H q with
  | none => rfl
  | some u =>
    rw [a q u e n] at h
    cases h
theorem same_new (h : H q = none) : Same H (upd H q o) := fun c u e => by
  rw [upd_ne (ne_of_none e h)]
  exact e
theorem Same.lay (a : Same H H1) (h : H1 q = none) : Same H (upd H1 q o) := a.trans (same_new h)
theorem Same.mut (a : Same H H1) (h : H q = none) : Same H (upd H1 q o) := fun c u e => by
  rw [upd_ne (ne_of_none e h)]
  exact a c u e
end

/-! ### sums of any kind -/
abbrev rAddAny (K : PySem.W.Frag) : R2 := fun x y H Q => rI0 (fun i j => .int (i + j)) x y H Q ∨ ((∃ i j, x = .str i ∧ y = .str j ∧ i.length + j.length ≤ sizeLine ∧ Q (.str (i ++ j)) H) ∨ (rCatA K x y H Q ∨ rCat x y H Q))
theorem opAdd {X : Cx} : OpR X (binaryOp .Add) (rAddAny X.K) := op_add.or (op_add_str.or (op_catA.or op_cat))

/-! ### the pen -/
def Pen (H : Hp) (p c : Addr) : Prop := (∃ z r, H p = some (.lst [.ref c, .int z, .int r])) ∧ ∃ cs : List Int, H c = some (.lst (cs.map V.int)) ∧ cs.length ≤ 63
section
variable {H H' : Hp} {p c q : Addr} {o : HO}
theorem Pen.ne (h : Pen H p c) : c ≠ p := by
  obtain ⟨⟨z, r, h1⟩, cs, h2, _⟩ := h
  rintro rfl
  rw [h1] at h2
  cases cs with
  | nil => cases h2
  | cons a t =>
    have e : [V.ref c, .int z, .int r] = (a :: t).map V.int := by
      injection h2 with h2
      injection h2
    rw [List.map_cons] at e
    injection e with e _
    cases e
theorem Pen.keep (h : Pen H p c) (n1 : q ≠ p) (n2 : q ≠ c) : Pen (upd H q o) p c := by
  obtain ⟨⟨z, r, h1⟩, cs, h2, hl⟩ := h
  exact ⟨⟨z, r, by rw [upd_ne n1.symm]; exact h1⟩, cs, by rw [upd_ne n2.symm]; exact h2, hl⟩
theorem Pen.neP (h : Pen H p c) (hq : H q = none) : q ≠ p := by
  obtain ⟨⟨z, r, h1⟩, _⟩ := h
  exact (ne_of_none h1 hq).symm
theorem Pen.neC (h : Pen H p c) (hq : H q = none) : q ≠ c := by
  obtain ⟨_, cs, h2, _⟩ := h
  exact (ne_of_none h2 hq).symm
theorem Pen.new (h : Pen H p c) (hq : H q = none) : Pen (upd H q o) p c := h.keep (h.neP hq) (h.neC hq)
theorem Pen.put {z r : Int} (h : Pen H p c) : Pen (upd H p (.lst [.ref c, .int z, .int r])) p c := by
  have n := h.ne
  obtain ⟨_, cs, h2, hl⟩ := h
  exact ⟨⟨z, r, upd_same⟩, cs, by rw [upd_ne n]; exact h2, hl⟩
theorem Pen.same (h : Pen H p c) (s : Same H H') : Pen H' p c := by
  obtain ⟨⟨z, r, h1⟩, cs, h2, hl⟩ := h
  exact ⟨⟨z, r, s _ _ h1⟩, cs, s _ _ h2, hl⟩
end

/-! ### data: None, truths, numbers, texts, tuples, lists and dicts (none of some) -/
def kD : Key → PyData
  | .inl i => .int i
  | .inr x => .str x
mutual
inductive Da (K : PySem.W.Frag) (N : Addr → Prop) (H : Hp) : V → PyData → Prop
  | non : Da K N H .non .none
  | bl (b : Bool) : Da K N H (.bl b) (.bool b)
  | int (i : Int) : Da K N H (.int i) (.int i)
  | str (x : Str) : Da K N H (.str x) (.str x)
  | lst {a : Addr} {xs : List V} {ds : List PyData} : H a = some (.lst xs) → ¬ N a → DaAll K N H xs ds → Da K N H (.ref a) (.list ds)
  | tup {a : Addr} {xs : List V} {ds : List PyData} : SqT K H a xs → DaAll K N H xs ds → Da K N H (.ref a) (.tuple ds)
  | dct {a : Addr} {kvs : List (Key × V)} {ds : List PyData} : H a = some (.dK kvs) → ¬ N a → DaAll K N H (kvs.map (·.2)) ds → Da K N H (.ref a) (.dict ((kvs.map fun kv => kD kv.1).zip ds))
inductive DaAll (K : PySem.W.Frag) (N : Addr → Prop) (H : Hp) : List V → List PyData → Prop
  | nil : DaAll K N H [] []
  | cons {v : V} {vs : List V} {d : PyData} {ds : List PyData} : Da K N H v d → DaAll K N H vs ds → DaAll K N H (v :: vs) (d :: ds)
end
/-- what is tracked -/
def Tk (H : Hp) : Addr → Prop := fun a => H a ≠ none
theorem Tk.of {H : Hp} {a : Addr} {o : HO} (h : H a = some o) : Tk H a := fun e => by
  rw [h] at e
  cases e
theorem Tk.kp {H H' : Hp} {p : Addr} (k : Kp p H H') (hp : Tk H' p) : ∀ a, Tk H a → Tk H' a := fun a h => by
  by_cases e : a = p
  · rw [e]
    exact hp
  · cases q : H a with
    | none => exact absurd q h
    | some o => exact Tk.of (k a o q e)
theorem Pen.tk {H : Hp} {p c : Addr} (h : Pen H p c) : Tk H p := by
  obtain ⟨⟨z, r, e⟩, _⟩ := h
  exact Tk.of e
/-- nothing that reads as a tuple stands at p -/
def NoTup (H : Hp) (p : Addr) : Prop := ∀ xs, ¬ Rd H p (.tup xs)
theorem Pen.noTup {H : Hp} {p c : Addr} (h : Pen H p c) : NoTup H p := fun xs r => by
  obtain ⟨⟨z, u, h1⟩, _⟩ := h
  rcases r with r | ⟨o, r⟩
  · rw [h1] at r
    cases r
  · rw [h1] at r
    cases r
section
variable {K : PySem.W.Frag} {N N' : Addr → Prop} {p : Addr} {H H' : Hp}
theorem sqT_kp {a : Addr} {xs : List V} (k : Kp p H H') (n : NoTup H p) (h : SqT K H a xs) : SqT K H' a xs := by
  rcases h with h | h
  · by_cases e : a = p
    · subst e
      exact (n xs h).elim
    · rcases h with h | ⟨o, h⟩
      · exact .inl (.inl (k _ _ h e))
      · exact .inl (.inr ⟨o, k _ _ h e⟩)
  · exact .inr h
theorem sqL_kp {a : Addr} {xs : List V} (k : Kp p H H') (n : a ≠ p) (h : SqL K H a xs) : SqL K H' a xs := by
  rcases h with h | h
  · rcases h with h | ⟨o, h⟩
    · exact .inl (.inl (k _ _ h n))
    · exact .inl (.inr ⟨o, k _ _ h n⟩)
  · exact .inr h
mutual
theorem Da.kp (k : Kp p H H') (n : NoTup H p) (q : N p) : ∀ {v : V} {d : PyData}, Da K N H v d → Da K N H' v d
  | _, _, .non => .non
  | _, _, .bl b => .bl b
  | _, _, .int i => .int i
  | _, _, .str x => .str x
  | _, _, .lst h ne r => .lst (k _ _ h fun e => ne (e ▸ q)) ne (DaAll.kp k n q r)
  | _, _, .tup h r => .tup (sqT_kp k n h) (DaAll.kp k n q r)
  | _, _, .dct h ne r => .dct (k _ _ h fun e => ne (e ▸ q)) ne (DaAll.kp k n q r)
theorem DaAll.kp (k : Kp p H H') (n : NoTup H p) (q : N p) : ∀ {vs : List V} {ds : List PyData}, DaAll K N H vs ds → DaAll K N H' vs ds
  | _, _, .nil => .nil
  | _, _, .cons a r => .cons (Da.kp k n q a) (DaAll.kp k n q r)
end
mutual
theorem Da.less (k : ∀ a, N' a → N a) : ∀ {v : V} {d : PyData}, Da K N H v d → Da K N' H v d
  | _, _, .non => .non
  | _, _, .bl b => .bl b
  | _, _, .int i => .int i
  | _, _, .str x => .str x
  | _, _, .lst h ne r => .lst h (fun z => ne (k _ z)) (DaAll.less k r)
  | _, _, .tup h r => .tup h (DaAll.less k r)
  | _, _, .dct h ne r => .dct h (fun z => ne (k _ z)) (DaAll.less k r)
theorem DaAll.less (k : ∀ a, N' a → N a) : ∀ {vs : List V} {ds : List PyData}, DaAll K N H vs ds → DaAll K N' H vs ds
  | _, _, .nil => .nil
  | _, _, .cons a r => .cons (Da.less k a) (DaAll.less k r)
end
theorem DaAll.length : ∀ {vs : List V} {ds : List PyData}, DaAll K N H vs ds → vs.length = ds.length
  | _, _, .nil => rfl
  | _, _, .cons _ r => by rw [List.length_cons, List.length_cons, DaAll.length r]
theorem DaAll.get : ∀ {vs : List V} {ds : List PyData}, DaAll K N H vs ds → ∀ {i : Nat} {v : V}, vs[i]? = some v → ∃ d, ds[i]? = some d ∧ Da K N H v d
  | _, _, .nil, _, _, e => by simp at e
  | _, _, .cons a r, 0, _, e => by
    simp only [List.getElem?_cons_zero, Option.some.injEq] at e
    subst e
    exact ⟨_, rfl, a⟩
  | _, _, .cons a r, i + 1, _, e => by
    simp only [List.getElem?_cons_succ] at e
    obtain ⟨d, h1, h2⟩ := DaAll.get r e
    exact ⟨d, by simpa using h1, h2⟩
theorem DaAll.append : ∀ {vs us : List V} {ds es : List PyData}, DaAll K N H vs ds → DaAll K N H us es → DaAll K N H (vs ++ us) (ds ++ es)
  | _, _, _, _, .nil, s => s
  | _, _, _, _, .cons a r, s => .cons a (DaAll.append r s)
theorem DaAll.take : ∀ {vs : List V} {ds : List PyData} (n : Nat), DaAll K N H vs ds → DaAll K N H (vs.take n) (ds.take n)
  | _, _, 0, _ => .nil
  | _, _, _ + 1, .nil => .nil
  | _, _, n + 1, .cons a r => .cons a (DaAll.take n r)
theorem DaAll.drop : ∀ {vs : List V} {ds : List PyData} (n : Nat), DaAll K N H vs ds → DaAll K N H (vs.drop n) (ds.drop n)
  | _, _, 0, r => r
  | _, _, _ + 1, .nil => .nil
  | _, _, n + 1, .cons _ r => DaAll.drop n r
end

/-! ### how long what is shown is, how deep -/
theorem joinLen : ∀ ts : List Str, (Str.join ", " ts).length ≤ (ts.map fun t => t.length + 2).sum
  | [] => by decide
  | [x] => by
    show x.length ≤ _
    simp
  | x :: y :: r => by
    have ih := joinLen (y :: r)
    have e : (Str.join ", " (x :: y :: r)).length = x.length + 2 + (Str.join ", " (y :: r)).length := by
      show (x ++ ", " ++ Str.join ", " (y :: r)).length = _
      rw [strLen_append, strLen_append]
      rfl
    rw [e, List.map_cons, List.sum_cons]
    omega
end Ow

namespace Ow
open PySem PySem.Spec PyProof.Rows L2

/-! ### how long what is shown is -/
mutual
/-- at least as long as what is shown; each place of a row and a brace counted with it -/
def wt : PyData → Nat
  | .none => 4
  | .bool _ => 5
  | .int i => (toString i : Str).length
  | .str x => (reprText x).length + x.length
  | .list xs => wtAll xs + 4
  | .tuple xs => wtAll xs + 4
  | .dict kvs => wtKv kvs + 4
def wtAll : List PyData → Nat
  | [] => 0
  | x :: xs => wt x + 2 + wtAll xs
def wtKv : List (PyData × PyData) → Nat
  | [] => 0
  | (k, v) :: r => wt k + wt v + 4 + wtKv r
end
theorem textFromLen : ∀ (ts : List Str) (k : Nat) (acc : Str), (textFrom k acc ts).length ≤ acc.length + (ts.map fun t => t.length + 2).sum
  | [], k, acc => by
    show acc.length ≤ _
    simp
  | t :: r, k, acc => by
    have ih := textFromLen r (k + 1) (acc ++ (if k > 0 then ", " else "" : String) ++ t)
    have e : (acc ++ (if k > 0 then ", " else "" : String) ++ t).length ≤ acc.length + 2 + t.length := by
      rw [strLen_append, strLen_append]
      by_cases h : k > 0
      · rw [if_pos h]
        show acc.length + 2 + t.length ≤ _
        omega
      · rw [if_neg h]
        show acc.length + 0 + t.length ≤ _
        omega
    show (textFrom (k + 1) (acc ++ (if k > 0 then ", " else "" : String) ++ t) r).length ≤ _
    rw [List.map_cons, List.sum_cons]
    omega
theorem listTextLen (ts : List Str) : (listText ts).length ≤ (ts.map fun t => t.length + 2).sum + 4 := by
  have h := textFromLen ts 0 "["
  have e : (listText ts).length = (textFrom 0 "[" ts).length + 1 := by
    unfold listText
    rw [strLen_append]
    rfl
  have e1 : (("[" : String) : Str).length = 1 := rfl
  rw [e]
  rw [e1] at h
  omega
theorem tupleTextLen (ts : List Str) : (tupleText ts).length ≤ (ts.map fun t => t.length + 2).sum + 4 := by
  have h := joinLen ts
  have e : (tupleText ts).length ≤ 1 + (Str.join ", " ts).length + 2 := by
    unfold tupleText
    rw [strLen_append, strLen_append]
    by_cases q : (ts.length == 1) = true
    · rw [if_pos q]
      exact Nat.le_refl _
    · rw [if_neg q]
      show 1 + (Str.join ", " ts).length + 1 ≤ _
      omega
  omega
theorem dictTextLen (ts : List Str) : (dictText ts).length ≤ (ts.map fun t => t.length + 2).sum + 4 := by
  have h := joinLen ts
  have e : (dictText ts).length = 1 + (Str.join ", " ts).length + 1 := by
    unfold dictText
    rw [strLen_append, strLen_append]
    rfl
  omega
mutual
theorem shownLen : ∀ d : PyData, d.shown.length ≤ wt d
  | .none => by decide
  | .bool b => by
    cases b
    · decide
    · decide
  | .int i => by
    simp only [PyData.shown, wt]
    exact Nat.le_refl _
  | .str x => by
    simp only [PyData.shown, wt]
    exact Nat.le_add_right _ _
  | .list xs => by
    simp only [PyData.shown, wt]
    have h := listTextLen (PyData.shownAll xs)
    have h2 := shownAllLen xs
    omega
  | .tuple xs => by
    simp only [PyData.shown, wt]
    have h := tupleTextLen (PyData.shownAll xs)
    have h2 := shownAllLen xs
    omega
  | .dict kvs => by
    simp only [PyData.shown, wt]
    have h := dictTextLen (PyData.shownKv kvs)
    have h2 := shownKvLen kvs
    omega
theorem shownAllLen : ∀ ds : List PyData, ((PyData.shownAll ds).map fun t => t.length + 2).sum ≤ wtAll ds
  | [] => by simp [PyData.shownAll, wtAll]
  | d :: ds => by
    have h1 := shownLen d
    have h2 := shownAllLen ds
    simp only [PyData.shownAll, wtAll, List.map_cons, List.sum_cons]
    omega
theorem shownKvLen : ∀ ds : List (PyData × PyData), ((PyData.shownKv ds).map fun t => t.length + 2).sum ≤ wtKv ds
  | [] => by simp [PyData.shownKv, wtKv]
  | (k, v) :: r => by
    have h1 := shownLen k
    have h2 := shownLen v
    have h3 := shownKvLen r
    simp only [PyData.shownKv, wtKv, List.map_cons, List.sum_cons]
    have e : (PyData.shown k ++ (": " : Str) ++ PyData.shown v).length = (PyData.shown k).length + 2 + (PyData.shown v).length := by
      rw [strLen_append, strLen_append]
      rfl
    rw [e]
    omega
end
/-- data that repr may be asked of: what is shown at most n long, at most m deep -/
structure Fit (n m : Nat) (d : PyData) : Prop where
  sh : d.showable = true
  wt : wt d ≤ n
  dp : d.depth ≤ m
theorem Fit.le {n m n' m' : Nat} {d : PyData} (f : Fit n m d) (h : n ≤ n') (k : m ≤ m') : Fit n' m' d := ⟨f.sh, Nat.le_trans f.wt h, Nat.le_trans f.dp k⟩

/-! ### what stands in the heap, read as data -/
section
variable {X : Cx} {pins : List (Addr × Obj)} {σ : L2.St} {H : Hp} {s : Shared} {N : Addr → Prop}
theorem pairs_read {P : Program} {w : World} {h : Heap} : ∀ {kvs : List (Key × V)} {vs : List (Key × Value)} {el : List DictEntry}, KV kvs vs → Pairs (mixKind P w) el vs →
    Vals (kvs.map (·.2)) (el.map (·.val)) ∧ ReadsAll h (el.map (·.key)) (kvs.map fun q => kD q.1) []
  | _, _, _, .nil, .nil => ⟨.nil, .nil⟩
  | _, _, _, .cons (a := a) (b := b) q r, .cons (e := e) h1 h2 h3 => by
    obtain ⟨i1, i2⟩ := pairs_read (h := h) r h3
    refine ⟨.cons (by show RelV a.2 e.val; rw [h2]; exact q.2) i1, ?_⟩
    have hk : Reads h e.key (kD a.1) [] := by
      rw [q.1]
      rcases keyIs_shape (k := b.1) (v := e.key) h1 with ⟨i, t, z, z2⟩ | ⟨x, t, z, z2⟩
      · rw [z, z2]
        exact .int i t
      · rw [z, z2]
        exact .str x t
    exact .cons hk i2
theorem list_nsys (I : Inv X pins σ H s) (hs : ∃ o, s.heap.get? sysModules = some o ∧ o.cls ≠ .type "list") {a : Addr} {xs : List V} (h : H a = some (.lst xs)) : a ≠ sysModules := by
  rintro rfl
  obtain ⟨o, e, c⟩ := hs
  obtain ⟨_, its, n, _, q⟩ := I.hok _ _ h
  rw [e] at q
  cases q
  exact c rfl
mutual
theorem Da.reads (I : Inv X pins σ H s) : ∀ {v : V} {d : PyData}, Da X.K N H v d → ∀ {u : Value}, RelV v u → ∃ as, Reads s.heap u d as ∧ ((∃ o, s.heap.get? sysModules = some o ∧ o.cls ≠ .type "list") → sysModules ∉ as)
  | _, _, .non, _, r => by
    cases r
    exact ⟨_, .none, fun _ z => nomatch z⟩
  | _, _, .bl b, _, r => by
    cases r
    exact ⟨_, .bool b, fun _ z => nomatch z⟩
  | _, _, .int i, _, r => by
    obtain ⟨t, rfl⟩ := r
    exact ⟨_, .int i t, fun _ z => nomatch z⟩
  | _, _, .str x, _, r => by
    obtain ⟨t, rfl⟩ := r
    exact ⟨_, .str x t, fun _ z => nomatch z⟩
  | _, _, .lst h ne ra, _, r => by
    cases r
    obtain ⟨its, rv, ⟨o, n, ho, hc, _, hd⟩, _⟩ := I.list (SqL.of h)
    obtain ⟨as, hr, hn⟩ := DaAll.reads I ra rv
    refine ⟨_, .list ho hc hd hr, fun hs z => ?_⟩
    rcases List.mem_cons.mp z with e | z
    · exact list_nsys I hs h e.symm
    · exact hn hs z
  | _, _, .tup h ra, _, r => by
    cases r
    obtain ⟨its, rv, ⟨o, ho, hc, n, hd⟩, _⟩ := I.tuple h
    obtain ⟨as, hr, hn⟩ := DaAll.reads I ra rv
    exact ⟨_, .tuple ho hc hd hr, hn⟩
  | _, _, .dct (kvs := kvs) (ds := ds) h ne ra, _, r => by
    cases r
    obtain ⟨_, hsys, vs, kv, o, es, ep, ho, hx, hd, hko, hpr, _⟩ := I.hok _ _ h
    obtain ⟨q1, q2⟩ := pairs_read (h := s.heap) kv hpr
    obtain ⟨as, hr, hn⟩ := DaAll.reads I ra q1
    have hl : (kvs.map fun q => kD q.1).length = ds.length := by
      rw [List.length_map, ← DaAll.length ra, List.length_map]
    refine ⟨_, .dict (as := []) (bs := as) ho hx.1 hd ?_ ?_, fun hs z => ?_⟩
    · rw [List.map_fst_zip (Nat.le_of_eq hl)]
      exact q2
    · rw [List.map_snd_zip (Nat.le_of_eq hl.symm)]
      exact hr
    · rcases List.mem_cons.mp z with e | z
      · rw [← e] at hsys
        exact absurd hsys (by decide)
      · exact hn hs z
theorem DaAll.reads (I : Inv X pins σ H s) : ∀ {vs : List V} {ds : List PyData}, DaAll X.K N H vs ds → ∀ {us : List Value}, Vals vs us → ∃ as, ReadsAll s.heap us ds as ∧ ((∃ o, s.heap.get? sysModules = some o ∧ o.cls ≠ .type "list") → sysModules ∉ as)
  | _, _, .nil, _, r => by
    cases r
    exact ⟨_, .nil, fun _ z => nomatch z⟩
  | _, _, .cons a ra, _, r => by
    cases r with
    | cons r1 r2 =>
      obtain ⟨as, h1, n1⟩ := Da.reads I a r1
      obtain ⟨bs, h2, n2⟩ := DaAll.reads I ra r2
      exact ⟨_, .cons h1 h2, fun hs z => (List.mem_append.mp z).elim (n1 hs) (n2 hs)⟩
end
end
/-! ### what is shown, item by item -/
section
variable {X : Cx} {pins : List (Addr × Obj)} {σ : L2.St} {H : Hp} {s : Shared} {N : Addr → Prop}
theorem reads_of (I : Inv X pins σ H s) {v : V} {d : PyData} (h : Da X.K N H v d) {u : Value} (r : RelV v u) : ∃ as, Reads s.heap u d as :=
  let ⟨as, q, _⟩ := Da.reads I h r
  ⟨as, q⟩
theorem out_of {a : Addr} {d : PyData} {as bs : List Addr} {h : Heap} (r : Reads h (.ref a) d as) {n : Nat} (hb : ReadAtMost h n bs) (hn : n < d.depth) : a ∉ bs ∧ ReadAtMost h d.depth (a :: bs) :=
  ⟨not_mem_of_deeper r hn hb, .cons r (Nat.le_of_lt hn) hb⟩
theorem dct_of (I : Inv X pins σ H s) {a : Addr} {kvs : List (Key × V)} {ds : List PyData} (h : H a = some (.dK kvs)) (ne : ¬ N a) (ra : DaAll X.K N H (kvs.map (·.2)) ds)
    (hz : (dictText (PyData.shownKv ((kvs.map fun q => kD q.1).zip ds))).length ≤ sizeLine) (hs : PyData.showableKv ((kvs.map fun q => kD q.1).zip ds) = true)
    (vals : ∀ {us : List Value}, Vals (kvs.map (·.2)) us → PyData.showableAll ds = true → (∀ t ∈ PyData.shownAll ds, t.length ≤ sizeLine) →
      ∃ bs, ReadAtMost s.heap (PyData.depthAll ds) bs ∧ ReprAllK X.prog X.w bs s.heap (PyData.depthAll ds) us (PyData.shownAll ds)) :
    ∃ (o : Obj) (es : Array DictEntry) (ep : Nat) (bs : List Addr), s.heap.get? a = some o ∧ o.cls = .type "dict" ∧ o.data = .dict es ep ∧ (a == sysModules) = false ∧ a ∉ bs ∧
      ReadAtMost s.heap (PyData.dict ((kvs.map fun q => kD q.1).zip ds)).depth (a :: bs) ∧ ReprEntriesK X.prog X.w bs s.heap (PyData.depthKv ((kvs.map fun q => kD q.1).zip ds)) es.toList (PyData.shownKv ((kvs.map fun q => kD q.1).zip ds)) := by
  obtain ⟨as, rd⟩ := reads_of I (.dct h ne ra) (u := .ref a) rfl
  obtain ⟨_, hsys, vs, kv, o, es, ep, ho, hx, hd, hko, hpr, _⟩ := I.hok _ _ h
  obtain ⟨q1, q2⟩ := pairs_read (h := s.heap) kv hpr
  have hl : (kvs.map fun q => kD q.1).length = ds.length := by
    rw [List.length_map, ← DaAll.length ra, List.length_map]
  have e1 : (((kvs.map fun q => kD q.1)).zip ds).map (·.1) = kvs.map fun q => kD q.1 := List.map_fst_zip (Nat.le_of_eq hl)
  have e2 : (((kvs.map fun q => kD q.1)).zip ds).map (·.2) = ds := List.map_snd_zip (Nat.le_of_eq hl.symm)
  obtain ⟨s1, s2⟩ := PyData.showableKv_split _ hs
  have zk := fun t ht => Nat.le_trans (let ⟨y, hy, hl⟩ := PyData.shownKv_key_le ((kvs.map fun q => kD q.1).zip ds) t ht; Nat.le_trans hl (dictText_mem_le hy)) hz
  have zv := fun t ht => Nat.le_trans (let ⟨y, hy, hl⟩ := PyData.shownKv_val_le ((kvs.map fun q => kD q.1).zip ds) t ht; Nat.le_trans hl (dictText_mem_le hy)) hz
  have d1 := PyData.depthAll_keys_le (((kvs.map fun q => kD q.1)).zip ds)
  have d2 := PyData.depthAll_vals_le (((kvs.map fun q => kD q.1)).zip ds)
  rw [e1] at s1 zk d1
  rw [e2] at s2 zv d2
  obtain ⟨b1, hb1, k1⟩ := ReprAllK.of_readsAll (prog := X.prog) (w := X.w) q2 s1 (fun _ z => nomatch z) zk
  obtain ⟨b2, hb2, k2⟩ := vals q1 s2 zv
  obtain ⟨o1, o2⟩ := out_of rd ((hb1.mono d1).append (hb2.mono d2)) (by rw [PyData.depth]; exact Nat.lt_succ_self _)
  refine ⟨o, es, ep, b1 ++ b2, ho, hx.1, hd, hsys, o1, o2, ?_⟩
  rw [PyData.shownKv_eq, e1, e2]
  exact .of_two es.toList _ _ (k1.more_le (fun b z => List.mem_append_left _ z) d1) (k2.more_le (fun b z => List.mem_append_right _ z) d2)
mutual
theorem Da.rk (I : Inv X pins σ H s) : ∀ {v : V} {d : PyData}, Da X.K N H v d → ∀ {u : Value}, RelV v u → d.showable = true → d.shown.length ≤ sizeLine →
    ∃ bs, ReadAtMost s.heap d.depth bs ∧ ReprK X.prog X.w bs s.heap d.depth u d.shown
  | _, _, .non, _, r, _, _ => by
    cases r
    refine ⟨[], fun _ z => (nomatch z), ?_⟩
    rw [PyData.shown]
    exact .of_is .none _ _ _
  | _, _, .bl b, _, r, _, _ => by
    cases r
    refine ⟨[], fun _ z => (nomatch z), ?_⟩
    rw [PyData.shown]
    exact .of_is (.bool b) _ _ _
  | _, _, .int i, _, r, hs, _ => by
    obtain ⟨t, rfl⟩ := r
    refine ⟨[], fun _ z => (nomatch z), ?_⟩
    rw [PyData.showable, decide_eq_true_eq] at hs
    rw [PyData.shown]
    exact .of_is (.int t hs) _ _ _
  | _, _, .str x, _, r, _, hz => by
    obtain ⟨t, rfl⟩ := r
    refine ⟨[], fun _ z => (nomatch z), ?_⟩
    rw [PyData.shown] at hz ⊢
    exact .of_is (.str x t hz) _ _ _
  | _, _, .lst (a := a) (ds := ds) h ne ra, _, r, hs, hz => by
    cases r
    obtain ⟨as, rd⟩ := reads_of I (.lst h ne ra) (u := .ref a) rfl
    obtain ⟨its, rv, ⟨o, n, ho, hc, _, hd⟩, _⟩ := I.list (SqL.of h)
    rw [PyData.showable] at hs
    rw [PyData.shown] at hz ⊢
    obtain ⟨bs, hb, hk⟩ := DaAll.rk I ra rv hs fun t ht => Nat.le_trans (listText_mem_le ht) hz
    obtain ⟨o1, o2⟩ := out_of rd hb (by rw [PyData.depth]; exact Nat.lt_succ_self _)
    refine ⟨a :: bs, o2, ?_⟩
    rw [PyData.depth]
    cases its with
    | nil =>
      cases rv
      cases ra
      rw [PyData.shownAll, listText_nil]
      exact .listEmpty ho hc hd
    | cons y t =>
      refine .list ho hc hd o1 ?_ fun i z e => hk.item i z ?_
      · simpa using hk.length_eq
      · simpa using e
  | _, _, .tup (a := a) h ra, _, r, hs, hz => by
    cases r
    obtain ⟨as, rd⟩ := reads_of I (.tup (N := N) h ra) (u := .ref a) rfl
    obtain ⟨its, rv, ⟨o, ho, hc, n, hd⟩, _⟩ := I.tuple h
    rw [PyData.showable] at hs
    rw [PyData.shown] at hz ⊢
    obtain ⟨bs, hb, hk⟩ := DaAll.rk I ra rv hs fun t ht => Nat.le_trans (tupleText_mem_le ht) hz
    obtain ⟨o1, o2⟩ := out_of rd hb (by rw [PyData.depth]; exact Nat.lt_succ_self _)
    refine ⟨a :: bs, o2, ?_⟩
    rw [PyData.depth]
    exact .tuple ho hc hd o1 (by simpa using hk)
  | _, _, .dct (a := a) (kvs := kvs) (ds := ds) h ne ra, _, r, hs, hz => by
    cases r
    rw [PyData.showable] at hs
    rw [PyData.shown] at hz ⊢
    obtain ⟨o, es, ep, bs, h1, h2, h3, h4, h5, h6, h7⟩ := dct_of I h ne ra hz hs fun rv s2 z2 => DaAll.rk I ra rv s2 z2
    refine ⟨a :: bs, h6, ?_⟩
    rw [PyData.depth]
    exact .dict h1 h2 h3 h4 h5 h7
theorem DaAll.rk (I : Inv X pins σ H s) : ∀ {vs : List V} {ds : List PyData}, DaAll X.K N H vs ds → ∀ {us : List Value}, Vals vs us → PyData.showableAll ds = true → (∀ t ∈ PyData.shownAll ds, t.length ≤ sizeLine) →
    ∃ bs, ReadAtMost s.heap (PyData.depthAll ds) bs ∧ ReprAllK X.prog X.w bs s.heap (PyData.depthAll ds) us (PyData.shownAll ds)
  | _, _, .nil, _, r, _, _ => by
    cases r
    refine ⟨[], fun _ z => (nomatch z), ?_⟩
    rw [PyData.shownAll]
    exact .nil
  | _, _, .cons (d := d) (ds := ds) a ra, _, r, hs, hz => by
    cases r with
    | cons r1 r2 =>
      rw [PyData.showableAll, Bool.and_eq_true] at hs
      rw [PyData.shownAll] at hz ⊢
      obtain ⟨b1, h1, k1⟩ := Da.rk I a r1 hs.1 (hz _ (List.mem_cons_self ..))
      obtain ⟨b2, h2, k2⟩ := DaAll.rk I ra r2 hs.2 fun t ht => hz t (List.mem_cons_of_mem _ ht)
      rw [PyData.depthAll]
      exact ⟨b1 ++ b2, .append (h1.mono (Nat.le_max_left _ _)) (h2.mono (Nat.le_max_right _ _)),
        .cons ((k1.more fun b z => List.mem_append_left _ z).level_le (Nat.le_max_left _ _)) (k2.more_le (fun b z => List.mem_append_right _ z) (Nat.le_max_right _ _))⟩
end
end
section
variable {X : Cx}
/-- repr of data: nothing else is shown around, and there is room -/
def rRepr (K : PySem.W.Frag) (un : Nat) : List V → Hp → VK → Prop := fun xs H Q => ∃ (N : Addr → Prop) (v : V) (d : PyData) (n : Nat), xs = [v] ∧ Da K N H v d ∧ Fit n 150 d ∧ n ≤ sizeLine ∧
  un + 151 < cLine ∧ Q (.str d.shown) H
theorem call_reprD (hg : X.A.guards = some []) : CallR X (.builtin "repr") (rRepr X.K X.A.units) := by
  intro pins s σ H xs us Q I r h
  obtain ⟨N, v, d, n, rfl, hd, hf, hn, hu, q⟩ := h
  obtain ⟨u, rfl, r1⟩ := vals1 r
  have hz : d.shown.length ≤ sizeLine := Nat.le_trans (shownLen d) (Nat.le_trans hf.wt hn)
  have hdp := hf.dp
  have hsh := hf.sh
  have fin : ∀ (h' : Heap) (u : Tok) (tk : Nat), (∀ b o, s.heap.get? b = some o → h'.get? b = some o) → EP X pins σ Q (.str d.shown u) { s with heap := h', toks := tk } := fun h' u tk k => ⟨.str _, H, I.kept k, ⟨u, rfl⟩, q⟩
  cases hd with
  | non =>
    cases r1
    exact PySem.P.repr_of_none ⟨.str _, H, I.tok _, ⟨_, rfl⟩, q⟩
  | bl b =>
    cases r1
    exact PySem.P.repr_of_bool ⟨.str _, H, I.tok _, ⟨_, rfl⟩, q⟩
  | int i =>
    obtain ⟨t, rfl⟩ := r1
    rw [PyData.showable, decide_eq_true_eq] at hsh
    exact PySem.P.repr_of_int hsh ⟨.str _, H, I.tok _, ⟨_, rfl⟩, q⟩
  | str x =>
    obtain ⟨t, rfl⟩ := r1
    exact PySem.P.repr_of_str ⟨.str _, H, I.tok _, ⟨_, rfl⟩, q⟩ hz
  | @lst a xs ds h1 h2 h3 =>
    cases r1
    obtain ⟨as, rd⟩ := reads_of I (.lst h1 h2 h3) (u := .ref a) rfl
    obtain ⟨its, rv, ⟨o, m, ho, hc, _, hdt⟩, _⟩ := I.list (SqL.of h1)
    rw [PyData.showable] at hsh
    rw [PyData.shown] at hz fin
    rw [PyData.depth] at hdp
    obtain ⟨bs, hb, hk⟩ := DaAll.rk I h3 rv hsh fun t ht => Nat.le_trans (listText_mem_le ht) hz
    obtain ⟨o1, _⟩ := out_of rd hb (by rw [PyData.depth]; exact Nat.lt_succ_self _)
    refine call_repr_slot (by omega) ⟨o, ho, hc⟩ PySem.F.slot_list_repr.toG ?_
    cases its with
    | nil =>
      cases rv
      cases h3
      rw [PyData.shownAll, listText_nil] at fin
      exact call_list_repr_empty ⟨o, ho, hc⟩ ho hdt ⟨_, _, rfl, fin s.heap _ _ fun _ _ e => e⟩
    | cons y t =>
      refine call_list_reprK ho hc hdt o1 ?_ (fun i z e => hk.item i z ?_) hg (fun b _ => Clear.nil b) ?_ (fun _ _ e => e) (fun h' u tk k => ⟨_, _, rfl, fin h' u tk k⟩) hz
      · simpa using hk.length_eq
      · simpa using e
      · show X.A.units + 1 + (PyData.depthAll ds + 1) < cLine
        omega
  | @tup a xs ds h1 h3 =>
    cases r1
    obtain ⟨as, rd⟩ := reads_of I (.tup (N := N) h1 h3) (u := .ref a) rfl
    obtain ⟨its, rv, ⟨o, ho, hc, m, hdt⟩, _⟩ := I.tuple h1
    rw [PyData.showable] at hsh
    rw [PyData.shown] at hz fin
    rw [PyData.depth] at hdp
    obtain ⟨bs, hb, hk⟩ := DaAll.rk I h3 rv hsh fun t ht => Nat.le_trans (tupleText_mem_le ht) hz
    obtain ⟨o1, _⟩ := out_of rd hb (by rw [PyData.depth]; exact Nat.lt_succ_self _)
    refine call_repr_slot (by omega) ⟨o, ho, hc⟩ PySem.F.slot_tuple_repr ?_
    refine call_tuple_reprK ho hc hdt o1 (by simpa using hk) hg (fun b _ => Clear.nil b) ?_ (fun _ _ e => e) (fun h' u tk k => ⟨_, _, rfl, fin h' u tk k⟩) hz
    show X.A.units + 1 + (PyData.depthAll ds + 1) < cLine
    omega
  | @dct a kvs ds h1 h2 h3 =>
    cases r1
    rw [PyData.showable] at hsh
    rw [PyData.shown] at hz fin
    rw [PyData.depth] at hdp
    obtain ⟨o, es, ep, bs, g1, g2, g3, g4, g5, g6, g7⟩ := dct_of I h1 h2 h3 hz hsh fun rv s2 z2 => DaAll.rk I h3 rv s2 z2
    refine call_repr_slot (by omega) ⟨o, g1, g2⟩ PySem.F.slot_dict_repr ?_
    refine call_dict_reprK g1 g2 g3 g4 g5 g7 hg (fun b _ => Clear.nil b) ?_ (fun _ _ e => e) (fun h' u tk k => ⟨_, _, rfl, fin h' u tk k⟩) hz
    show X.A.units + 1 + (PyData.depthKv ((kvs.map fun q => kD q.1).zip ds) + 1) < cLine
    omega
end

/-! ### a def that runs where nothing is being shown -/
structure FnG (P : Program) (w : World) (K : PySem.W.Frag) (mg : Str → Option Value) (base : Heap) (k : Nat) (f : Addr) (fd : FuncData) (ps : List Str) (sp : Sp) : Prop where
  len : ∀ vs H Q E, sp vs H Q E → vs.length = ps.length
  run : ∀ (A : Around) (outer : List Env) (s : Shared) (H : Hp) (args : Args) (us : List Value) (vs : List V) (Q : VK) (E : XK),
    A.guards = some [] → Room k A → Env0 P w K mg base A outer s H → BindsTo s fd args (ps.zip us) → Vals vs us → sp vs H Q E →
    codeAny (model P w) A (.call (.ref f) args) (CR CX0 outer P w H s Q E) s
/-- the end of a body, as the end of its call -/
theorem ends_call {P : Program} {w : World} {K : PySem.W.Frag} {mg : Str → Option Value} {base : Heap} {N : List Str} {qual : Str} {scope : Scope} {f : Addr} {cd : Value} {A : Around} {outer : List Env} {s s' : Shared} {H : Hp} {E : XK} {Q : VK} {fl : Flow}
    (h : SP (cxOf CX0 P w K mg base N qual scope f cd A outer s H E) [] { nx := fun _ H' => Q .non H', rt := Q } fl s') :
    match fl with
    | .next => CE outer P w H s Q .none s'
    | .ret u => CE outer P w H s Q u s'
    | _ => False := by
  cases fl with
  | next =>
    obtain ⟨_, H', J, q⟩ := h
    exact ⟨.non, H', J.os, J.bare, J.base, J.hok, rfl, q⟩
  | ret u =>
    obtain ⟨v, _, H', J, r, q⟩ := h
    exact ⟨v, H', J.os, J.bare, J.base, J.hok, r, q⟩
  | brk =>
    obtain ⟨_, _, _, q⟩ := h
    exact q
  | cont =>
    obtain ⟨_, _, _, q⟩ := h
    exact q
theorem Fun.okG {P : Program} {w : World} {K : PySem.W.Frag} {mg : Str → Option Value} {base : Heap} {x qual : Str} {st : Stmt} {f : Addr} {fd : FuncData} {N ps : List Str} {k : Nat} {sp : Sp} (F : Fun K x qual st f fd) (S : FnScope N ps (defScope st))
    (len : ∀ vs H Q E, sp vs H Q E → vs.length = ps.length)
    (body : ∀ (cdv : Value) (A : Around) (outer : List Env) (s : Shared) (H : Hp) (vs : List V) (Q : VK) (E : XK), A.guards = some [] → Room k (A.deeper (envOfC qual (defScope st) s.heap.objs.size f cdv)) → sp vs H Q E →
      ∃ t, PSs (cxOf CX0 P w K mg base N qual (defScope st) f cdv A outer s H E).nox (defBody st) t ∧ t { nx := fun _ H' => Q .non H', rt := Q } (start N vs) H) : FnG P w K mg base (k + 1) f fd ps sp := by
  obtain ⟨oc, od, kV, doc, pm, an, cdv, ct, osl, rfl, lk, hcd⟩ := F.ex
  constructor
  · exact len
  · intro A outer s H args us vs Q E ag room e0 bind rel want
    have ln := len vs H Q E want
    have old : ∀ b o, base.get? b = some o → s.heap.get? b = some o := fun b o q => (e0.bs b o q).1
    have KS : K.In s.heap := e0.mod.kin.keeps old
    refine codeAny_call_function room.depth (KS _ _ lk) rfl S.co S.gen rfl (PySem.W.codeRec_of KS hcd) (bind _ _ _ _ ?_)
    refine wpAny_newFunctionEnv_cells S.kind ?_ ?_
    · intro y hy
      obtain ⟨n, v⟩ := y
      have hp := S.par n (List.of_mem_zip hy).1
      rcases hp with q | q
      · exact Or.inl q
      · exact Or.inr ⟨q, PySem.W.cellsFrom_some _ _ _ (Or.inl q)⟩
    · intro env he s1 x
      subst he
      refine ⟨(e0.mod.nolimit.keeps old).keeps x.toInCall.keep, codeAny_func ?_⟩
      obtain ⟨t, ht, hq⟩ := body cdv A outer s H vs Q E ag (room.deeper _) want
      have J : Inv (cxOf CX0 P w K mg base N qual (defScope st) f cdv A outer s H E) [] (start N vs) H s1 := inv_start S room.hd e0 ln rel x
      refine wpAny_mono (ht.nox.run [] s1 (start N vs) H _ J hq) (fun fl s' hs => ?_) fun _ _ z => z
      have z := ends_call hs
      cases fl with
      | next => exact z
      | ret u => exact z
      | brk => exact z.elim
      | cont => exact z.elim
theorem FnOk.g {P : Program} {w : World} {K : PySem.W.Frag} {mg : Str → Option Value} {base : Heap} {k : Nat} {f : Addr} {fd : FuncData} {ps : List Str} {sp : Sp} (F : FnOk P w K mg base CX0 k f fd ps sp) : FnG P w K mg base k f fd ps sp :=
  ⟨F.len, fun A outer s H args us vs Q E _ => F.run A outer s H args us vs Q E⟩
structure CallG (P : Program) (w : World) (K : PySem.W.Frag) (mg : Str → Option Value) (base : Heap) (k : Nat) (x : Str) (ps : List Str) (sp : Sp) : Prop where
  ex : ∃ (f : Addr) (fd : FuncData), FnG P w K mg base k f fd ps sp ∧ mg x = some (.ref f) ∧ PySem.W.keepIn K (.ref f) = true ∧ Binds K fd ps []
theorem DefAt.okG {P : Program} {w : World} {K : PySem.W.Frag} {mg : Str → Option Value} {base : Heap} {x : Str} {st : Stmt} {N ps : List Str} {k : Nat} {sp : Sp} (D : DefAt K mg x st ps) (S : FnScope N ps (defScope st)) (len : ∀ vs H Q E, sp vs H Q E → vs.length = ps.length)
    (body : ∀ (f : Addr) (cdv : Value) (A : Around) (outer : List Env) (s : Shared) (H : Hp) (vs : List V) (Q : VK) (E : XK), A.guards = some [] → Room k (A.deeper (envOfC x (defScope st) s.heap.objs.size f cdv)) → sp vs H Q E →
      ∃ t, PSs (cxOf CX0 P w K mg base N x (defScope st) f cdv A outer s H E).nox (defBody st) t ∧ t { nx := fun _ H' => Q .non H', rt := Q } (start N vs) H) : CallG P w K mg base (k + 1) x ps sp := by
  obtain ⟨f, fd, F, hm, hb⟩ := D.ex
  exact ⟨f, fd, Fun.okG F S len fun cdv A outer s H vs Q E ag hr h => body f cdv A outer s H vs Q E ag hr h, hm, F.kp, hb⟩
section
variable {X : Cx} {k j : Nat} {x : Str} {ps : List Str} {sp : Sp} {p pos : Pos} {e : Expr} {es : List Expr} {t : TA}
theorem pe_callG (ag : X.A.guards = some []) (C : CallG X.prog X.w X.K X.mg X.base k x ps sp) (hr : Room j X.A) (hj : k ≤ j) (hg : Gl X x) (ha : PA X (e :: es) t)
    (hdb : (x == ("__debug__" : Str)) = false := by decide) (he : starEach (e :: es) X.env = (false, eval e X.env) :: starEach es X.env := by rfl)
    (hpl : (backTo pos (starEach es X.env)).any (·.1) = false := by rfl) : PE X (.Call (.Name x p) (e :: es) [] pos) (tCall sp [] E0 t) := by
  obtain ⟨f, fd, F, hm, hk, hb⟩ := C.ex
  constructor
  intro pins s σ H Q I h
  refine wpAny_Call_Name_kw (ld_glob I hg hm ?_ hdb)
  refine PySem.W.callWith_K (h₀ := X.base) I.ok.mod.kin hk (thn (ha.run pos pins s σ H _ I h) fun us s1 q0 => ?_) he hpl
  obtain ⟨vs, H1, I1, r, q⟩ := q0
  refine ⟨I1.kIn, ?_⟩
  have r2 : Vals (vs ++ []) (us ++ []) := r.append .nil
  have ln : (us ++ []).length = ps.length := by
    rw [← r2.length]
    exact F.len _ _ _ _ q
  refine wpAny_call (codeAny_mono (F.run X.A X.stack s1 H1 ⟨us, []⟩ (us ++ []) (vs ++ []) Q E0 ag (hr.mono hj) I1.env0 (hb s1 us I1.kIn ln) r2 q) fun a s' z => ?_)
  match a, z with
  | .ok (.ret u), z => exact I1.after z
  | .ok .next, z => exact z.elim
  | .ok .brk, z => exact z.elim
  | .ok .cont, z => exact z.elim
  | .error _, z => exact z.elim
end
end Ow

namespace Ow
open PySem PySem.Spec PyProof.Rows L2

/-! ### the law's own call -/
/-- the script alone is known, where the module has it not -/
noncomputable def scriptH (K : PySem.W.Frag) (a : Addr) (ob : Obj) (ns : List Int) : Hp := fun b =>
  if b = a ∧ (K.lookup a).isNone = true then some (.frz ob (.lst (ns.map V.int))) else none
section
variable {K : PySem.W.Frag} {a b : Addr} {ob : Obj} {ns : List Int}
theorem scriptH_some {u : HO} (h : scriptH K a ob ns b = some u) : b = a ∧ (K.lookup a).isNone = true ∧ u = .frz ob (.lst (ns.map V.int)) := by
  unfold scriptH at h
  by_cases c : b = a ∧ (K.lookup a).isNone = true
  · rw [if_pos c] at h
    exact ⟨c.1, c.2, (Option.some.inj h).symm⟩
  · rw [if_neg c] at h
    cases h
theorem scriptH_only : Only (scriptH K a ob ns) := fun c => by
  cases e : scriptH K a ob ns c with
  | none => exact .inl rfl
  | some u =>
    obtain ⟨_, _, rfl⟩ := scriptH_some e
    exact .inr ⟨ob, _, rfl⟩
end
/-- a def of one parameter, run on the script from where the top has left off: True -/
theorem law_run {P : Program} {w : World} {K : PySem.W.Frag} {mg mb : Str → Option Value} {k : Nat} {fa a : Addr} {fd : FuncData} {x : Str} {sp : Sp} {t : Shared} {vs : List Value} {ns : List Int}
    (inK : K.In t.heap) (gl : t.heap.Ns mainGlobals mg) (bl : t.heap.Ns builtinsNs mb) (bl2 : ∀ x : Str, x ≠ "__name__" → mb x = bootBuiltins x) (lim : t.heap.NoLimit) (gens : t.gens = #[])
    (obj : t.heap.get? a = some { cls := .type "list", data := .seq vs.toArray }) (hints : IntsAre vs ns) (short : ns.length ≤ sizeLine) (room : Room k callerA)
    (F : ∀ base : Heap, K.In base → base.Ns mainGlobals mg → FnG P w K mg base k fa fd [x] sp) (bind : ∀ (s : Shared) (u : Value), BindsTo s fd ⟨[u], []⟩ [(x, u)])
    (want : ∀ H : Hp, Only H → SqL K H a (ns.map V.int) → sp [.ref a] H (fun v _ => v = .bl true) fun _ _ _ => False) :
    codeAny (model P w) callerA (.call (.ref fa) ⟨[.ref a], []⟩) (fun r s' => r = .ok (.ret (.bool true)) ∧ OldK t.heap s'.heap ∧ s'.os = t.os ∧ AllBare s'.gens) t := by
  have rel := vals_ints hints
  have len := hints.length
  generalize hS : scriptH K a { cls := .type "list", data := .seq vs.toArray } ns = S
  have only : Only S := hS ▸ scriptH_only
  have know : ∀ b u, S b = some u → b = a ∧ (K.lookup a).isNone = true ∧ u = .frz { cls := .type "list", data := .seq vs.toArray } (.lst (ns.map V.int)) := fun b u q => by
    rw [← hS] at q
    exact scriptH_some q
  have read : SqL K S a (ns.map V.int) := by
    cases q : K.lookup a with
    | none =>
      refine .inl (.inr ⟨{ cls := .type "list", data := .seq vs.toArray }, ?_⟩)
      rw [← hS]
      unfold scriptH
      rw [if_pos ⟨rfl, by rw [q]; rfl⟩]
    | some o =>
      have e := inK a o q
      rw [obj] at e
      cases e
      refine .inr ⟨_, vs.toArray, _, q, rfl, rfl, rfl, ?_, rel⟩
      rw [List.size_toArray, len]
      exact short
  have hok : HOk P w S t.heap := fun b u q => by
    obtain ⟨rfl, _, rfl⟩ := know b u q
    refine ⟨obj, ?_, vs, _, rel, obj⟩
    rw [List.length_map]
    exact short
  -- what is no list stands in the base
  have hid : ∀ {b : Addr} {o : Obj}, t.heap.get? b = some o → (b = a → (K.lookup a).isNone = true → False) → (hidT t.heap S).get? b = some o := fun {b o} q n => hidT_get q (by
    cases z : S b with
    | none => rfl
    | some u =>
      obtain ⟨e1, e2, _⟩ := know b u z
      exact (n e1 e2).elim)
  have ns_hid : ∀ {b : Addr} {m : Str → Option Value}, t.heap.Ns b m → (hidT t.heap S).Ns b m := fun {b m} q => by
    obtain ⟨o, es, ep, h1, h2, r⟩ := q
    refine ⟨o, es, ep, hid h1 (fun e _ => ?_), h2, r⟩
    subst e
    rw [obj] at h1
    cases h1
    cases h2
  have in_hid : K.In (hidT t.heap S) := fun b o q => hid (inK b o q) (fun e n => by
    subst e
    rw [q] at n
    cases n)
  have e0 : Env0 P w K mg (hidT t.heap S) callerA [] t S := by
    refine ⟨rfl, ⟨in_hid, ns_hid gl, ⟨mb, ns_hid bl, bl2⟩, ?_⟩, fun b o q => of_hidT q, Nat.le_of_eq (hidT_size _ _), trivial, fun b z => ?_, hok, .of_eq gens⟩
    · obtain ⟨mc, h1, h2⟩ := lim
      exact ⟨mc, ns_hid h1, h2⟩
    · cases z
  refine codeAny_mono ((F _ in_hid (ns_hid gl)).run callerA [] t S ⟨[.ref a], []⟩ [.ref a] [.ref a] _ _ rfl room e0 (bind t (.ref a)) (.cons rfl .nil) (want S only read)) fun r s' h => ?_
  match r, h with
  | .ok (.ret u), h =>
    obtain ⟨v, H', os, bare, un, hok', r', q⟩ := h
    obtain rfl : v = .bl true := q
    obtain rfl : u = Value.bool true := r'
    refine ⟨rfl, OldK.of_keep fun b o q => ?_, os, bare⟩
    cases z : S b with
    | none =>
      refine un.keep b o q z ?_ ?_
      · intro y
        cases y
      · intro y
        cases y
    | some u =>
      obtain ⟨_, _, rfl⟩ := know b u z
      obtain ⟨f1, _⟩ := hok b _ z
      obtain ⟨f2, _⟩ := hok' b _ (un.frzs b _ _ z)
      rw [q] at f1
      cases f1
      exact f2
  | .ok .next, h => exact h.elim
  | .ok .brk, h => exact h.elim
  | .ok .cont, h => exact h.elim
  | .error _, h => exact h.elim

/-- the goal of the head (case hc) -/
theorem walkG {l : PySem.W.OpenLaw} {n k : Nat} {q : Program} {loose : List Str} {XP : (Str → Option Value) → Heap → Prop} {YP : World → Heap → Prop} {d : DefRec} {K : Params → PySem.W.Frag} {sp : PySem.W.Frag → Sp} {x : Str}
    (hn : l.most = some n) (hn2 : n ≤ sizeLine) (hdf : d.params.defaults = []) (hr : Room k callerA) (hY : ∀ (w : World) (h : Heap), YP w h → (K w.params).In h)
    (F : ∀ (w : World) (mg : Str → Option Value) (fa : Addr) (h : Heap), (K w.params).In h → h.Ns mainGlobals mg → mg d.name = some (.ref fa) →
      ∃ fd : FuncData, (∀ (s : Shared) (u : Value), BindsTo s fd ⟨[u], []⟩ [(x, u)]) ∧
        ∀ base : Heap, (K w.params).In base → base.Ns mainGlobals mg → FnG l.prog w (K w.params) mg base k fa fd [x] (sp (K w.params)))
    (want : ∀ (K : PySem.W.Frag) (H : Hp) (a : Addr) (ns : List Int), ns.length ≤ n → Only H → SqL K H a (ns.map V.int) → sp K [.ref a] H (fun v _ => v = .bl true) fun _ _ _ => False) :
    PySem.W.WalkO q loose XP YP l.row.toRowW d [] (fun f vs => PySem.call f vs) := by
  refine Att.attach_call hn hdf fun w s₀ s₁ mg mb fa o pm cd doc a vs ns G Y ho hd hcd hmg hobj hints hlen hg => ?_
  obtain ⟨fd, hb, hF⟩ := F w mg fa _ (hY w _ Y) G.T.g hmg
  exact law_run (hY w _ Y) G.T.g G.T.b G.T.builtins G.T.nolimit hg hobj hints (Nat.le_trans hlen hn2) hr hF hb fun H h1 h2 => want _ H a ns hlen h1 h2
end Ow
namespace Ow
open PySem PySem.Spec PyProof.Rows L2
/-! ### names of the module -/
/-- the built-in names that the text leaves alone -/
structure Bl (mg : Str → Option Value) : Prop where
  len_ : mg "len" = none
  list_ : mg "list" = none
  range_ : mg "range" = none
  isinstance_ : mg "isinstance" = none
  all_ : mg "all" = none
  any_ : mg "any" = none
  tuple_ : mg "tuple" = none
  repr_ : mg "repr" = none
  zip_ : mg "zip" = none
  str_ : mg "str" = none
  bool_ : mg "bool" = none
  int_ : mg "int" = none
  set_ : mg "set" = none
  sum_ : mg "sum" = none
  max_ : mg "max" = none
  min_ : mg "min" = none
  dict_ : mg "dict" = none
  sorted_ : mg "sorted" = none
  enumerate_ : mg "enumerate" = none
/-- a module's constant -/
def GV (mg : Str → Option Value) (x : Str) (v : V) : Prop := ∃ u, mg x = some u ∧ RelV v u
theorem pe_gv {X : Cx} {x : Str} {v : V} {pos : Pos} (h : GV X.mg x v) (hg : Gl X x) (hd : (x == ("__debug__" : Str)) = false := by decide) : PE X (.Name x pos) (tC v) := by
  obtain ⟨u, hm, r⟩ := h
  exact pe_glob hg hm r hd

/-! ### the pen's mathematics -/
theorem cut_front (ns : List Int) (k : Nat) : cutV (ns.map V.int) none (some (k : Int)) = (ns.take (min k ns.length)).map V.int := by
  unfold cutV
  rw [HT.sIx_none, HT.sIx_nat, List.drop_zero, Nat.sub_zero, List.length_map, List.map_take]
theorem dp_ints (K : PySem.W.Frag) (H : Hp) : ∀ cs : List Int, DpAll K H (cs.map V.int) (cs.map PyData.int)
  | [] => .nil
  | c :: cs => .cons (.int c) (dp_ints K H cs)
theorem at_mod (cs : List Int) (z : Int) (h : 0 < cs.length) : ∃ v : Int, atI (cs.map V.int) (z % (cs.length : Int)) = some (.int v) := by
  have h1 : 0 ≤ z % (cs.length : Int) := Int.emod_nonneg _ (by omega)
  have h2 : z % (cs.length : Int) < cs.length := Int.emod_lt_of_pos _ (by omega)
  obtain ⟨j, hj⟩ : ∃ j : Nat, z % (cs.length : Int) = (j : Int) := ⟨(z % (cs.length : Int)).toNat, by omega⟩
  rw [hj] at h2 ⊢
  have h3 : j < cs.length := by omega
  refine ⟨cs[j], atI_nat ?_⟩
  rw [List.getElem?_map, List.getElem?_eq_getElem h3]
  rfl
/-! ### the pen's promises -/
def spPen (K : PySem.W.Frag) : Sp := fun vs H Q _ => ∃ (a : Addr) (ns : List Int), vs = [.ref a] ∧ SqL K H a (ns.map V.int) ∧ ns.length ≤ 63 ∧
  ∀ (p c : Addr) (H' : Hp), Pen H' p c → Same H H' → H p = none → H c = none → Q (.ref p) H'
def spFresh : Sp := fun vs H Q _ => ∃ (p c : Addr), vs = [.ref p] ∧ Pen H p c ∧ ∀ (n : Int) (H' : Hp), Pen H' p c → Kp p H H' → Q (.int n) H'
def spDraw : Sp := fun vs H Q _ => ∃ (p c : Addr) (b : Int), vs = [.ref p, .int b] ∧ Pen H p c ∧ 0 < b ∧ b < 1073741824 ∧
  ∀ (n : Int) (H' : Hp), 0 ≤ n → n < b → Pen H' p c → Kp p H H' → Q (.int n) H'
/-- a name: one to eight small letters -/
def Nm (x : Str) : Prop := 0 < x.cps.size ∧ x.cps.size ≤ 8 ∧ ∀ c ∈ x.cps.toList, 97 ≤ c ∧ c ≤ 122
def spName : Sp := fun vs H Q _ => ∃ (p c g : Addr) (gs : List Str), vs = [.ref p, .ref g] ∧ Pen H p c ∧ H g = some (.lst (gs.map V.str)) ∧ g ≠ p ∧ gs.length ≤ 600 ∧
  ∀ (x : Str) (H' : Hp), Nm x → Pen H' p c → Kp p H H' → Q (.str x) H'
end Ow
namespace Ow
open PySem PySem.Spec PyProof.Rows L2
theorem shaped_intsAll : ∀ cs : List Int, PyData.canLayAll0 (cs.map PyData.int) = true ∧ PyData.depthAll (cs.map PyData.int) ≤ 1
  | [] => by simp [PyData.canLayAll0, PyData.depthAll]
  | c :: cs => by
    obtain ⟨h1, h2⟩ := shaped_intsAll cs
    refine ⟨?_, ?_⟩
    · simp only [List.map_cons, PyData.canLayAll0, PyData.canLay0, h1, Bool.and_self]
    · simp only [List.map_cons, PyData.depthAll, PyData.depth]
      omega
theorem shaped_ints (cs : List Int) : SeqAt.shaped (.list (cs.map PyData.int)) = true := by
  obtain ⟨h1, h2⟩ := shaped_intsAll cs
  have h3 : (PyData.list (cs.map PyData.int)).depth ≤ 64 := by
    simp only [PyData.depth]
    omega
  unfold SeqAt.shaped
  rw [decide_eq_true h3, Bool.and_true]
  simp only [PyData.canLay0]
  exact h1
theorem shaped_nil : SeqAt.shaped (.list []) = true := shaped_ints []
theorem eqv_nil (cs : List Int) : PyData.eqv (.list (cs.map PyData.int)) (.list []) = cs.isEmpty := by
  cases cs with
  | nil => simp [PyData.eqv, PyData.eqvAll]
  | cons c cs => simp [PyData.eqv, PyData.eqvAll]
theorem le_line {n : Nat} (h : n ≤ 100000) : n ≤ sizeLine := Nat.le_trans h (by decide)
theorem lt_line {n : Nat} (h : n ≤ 100000) : n < sizeLine := Nat.lt_of_le_of_lt h (by decide)
end Ow
namespace Ow
open PySem PySem.Spec PyProof.Rows L2
/-! ### names' mathematics -/
abbrev abc : Str := Str.ofString "abcdefghijklmnopqrstuvwxyz"
theorem abc_list : abc.cps.toList = (List.range 26).map (97 + ·) := by decide +kernel
theorem abc_at {n : Int} (h0 : 0 ≤ n) (h1 : n < 26) : ∃ c : Nat, atI abc.cps.toList n = some c ∧ 97 ≤ c ∧ c ≤ 122 := by
  obtain ⟨j, rfl⟩ : ∃ j : Nat, n = (j : Int) := ⟨n.toNat, by omega⟩
  refine ⟨97 + j, atI_nat ?_, by omega, by omega⟩
  rw [abc_list, List.getElem?_map, List.getElem?_range (by omega)]
  rfl
theorem abc_len : abc.length ≤ sizeLine := by decide +kernel
/-- small letters alone, so many -/
def Lt (x : Str) (n : Nat) : Prop := x.cps.size = n ∧ ∀ c ∈ x.cps.toList, 97 ≤ c ∧ c ≤ 122
theorem lt_nil : Lt (Str.ofString "") 0 := ⟨by decide, fun c h => by
  have e : (Str.ofString "").cps.toList = [] := by decide
  rw [e] at h
  cases h⟩
theorem app_cps (x y : Str) : (x ++ y).cps.toList = x.cps.toList ++ y.cps.toList := by
  show (x.cps ++ y.cps).toList = _
  rw [Array.toList_append]
theorem Lt.app {x y : Str} {n m : Nat} (h : Lt x n) (k : Lt y m) : Lt (x ++ y) (n + m) := by
  refine ⟨?_, fun c hc => ?_⟩
  · show (x.cps ++ y.cps).size = _
    rw [Array.size_append, h.1, k.1]
  · rw [app_cps] at hc
    exact (List.mem_append.mp hc).elim (h.2 c) (k.2 c)
theorem lt_one {c : Nat} (h1 : 97 ≤ c) (h2 : c ≤ 122) : Lt ⟨#[c]⟩ 1 := ⟨rfl, fun d hd => by
  have e : d = c := by simpa using hd
  subst e
  exact ⟨h1, h2⟩⟩
theorem Lt.front {x : Str} {n : Nat} (h : Lt x n) (k : Nat) : ∃ m, m ≤ k ∧ Lt (cutS x none (some (k : Int))) m := by
  have e : (cutS x none (some (k : Int))).cps.toList = x.cps.toList.take (min k x.length) := by
    unfold cutS
    rw [HT.sIx_none, HT.sIx_nat, List.drop_zero, Nat.sub_zero]
  have z : (cutS x none (some (k : Int))).cps.size = (x.cps.toList.take (min k x.length)).length := by
    rw [← e, Array.length_toList]
  refine ⟨_, ?_, rfl, fun c hc => ?_⟩
  · rw [z, List.length_take]
    omega
  · rw [e] at hc
    exact h.2 c (List.mem_of_mem_take hc)
theorem Lt.nm {x : Str} {n : Nat} (h : Lt x n) (h0 : 0 < n) (h8 : n ≤ 8) : Nm x := ⟨by rw [h.1]; exact h0, by rw [h.1]; exact h8, h.2⟩
theorem Lt.len {x : Str} {n : Nat} (h : Lt x n) : x.length = n := h.1
end Ow

/-! Data of any kind beside a text: equal, in a tuple of texts. -/
namespace PySem.SeqAt
open AutoSeq1 (wpAny_loadPart')
open MeetsSeq
theorem str_no_dict (b : Str) (u : Tok) (l : Addr) (c : Value) (es : Array DictEntry) (n : Nat) (dd : Option Addr) (sl : Array (Option Value)) :
    Meets (Builtin.«str.__eq__» ⟨[.str b u, .ref l], []⟩) (fun _ R s => s.heap.get? l = some { cls := c, dict := dd, data := .dict es n, slots := sl } ∧ R (.ok (.ret .notImplemented)) s) :=
  .of_wp fun prog w A R s h => by
    obtain ⟨hp, g, d, tk, os⟩ := s
    obtain ⟨hl, h⟩ := h
    wp_walk using wpAny_loadPart' hl, wpAny_load hl
    exact ⟨_, rfl, h⟩
theorem dict_no_str (l : Addr) (es : Array DictEntry) (n : Nat) (dd : Option Addr) (sl : Array (Option Value)) (b : Str) (u : Tok) :
    Meets (Builtin.«dict.__eq__» ⟨[.ref l, .str b u], []⟩) (fun _ R s => s.heap.get? l = some { cls := .type "dict", dict := dd, data := .dict es n, slots := sl } ∧ R (.ok (.ret .notImplemented)) s) :=
  .of_wp fun prog w A R s h => by
    obtain ⟨hp, g, d, tk, os⟩ := s
    obtain ⟨hl, h⟩ := h
    have f1 : isSubtype (.type "str") (.type "dict") = pure false := by rw [isSubtype_type]; kernel_rfl
    wp_walk using wpAny_loadPart' hl, wpAny_load hl
    exact ⟨_, rfl, h⟩
section
variable {A : Around} {s : Shared}
theorem str_dict {l : Addr} {o : Obj} {es : Array DictEntry} {n : Nat} (b : Str) (u : Tok) (ho : s.heap.get? l = some o) (hc : o.cls = .type "dict") (hd : o.data = .dict es n) (hu : A.units < cLine) : EqAt A s (.str b u) (.ref l) false := fun prog w E Q h => by
  obtain ⟨cls, dd, data, sl⟩ := o
  simp only at hc hd
  subst hc hd
  unfold eqBool
  refine wpAny_holding ?_
  refine wpAny_ite_split (fun hab => absurd (eq_of_beq hab) nofun) (fun _ => ?_)
  refine wpAny_bind (rc_eq_decline_or (k := false) (typeIs_str s b u) ⟨_, ho, rfl⟩ (by decide) F.sub_dict_str F.slot_str_eq F.slot_dict_eq_refl ?_ ?_ ?_ (.inr hu) (wpAny_truthy_bool h))
  · exact fun _ hq => call_meets F.slot_str_eq (typeIs_str s b u) F.entry_str_eq (F.args_str_eq_2 _ _) (str_no_dict b u l (.type "dict") es n dd sl) ⟨ho, hq⟩
  · exact fun _ hq => call_meets F.slot_dict_eq_refl ⟨_, ho, rfl⟩ F.entry_dict_eq (F.args_dict_eq_2 _ _) (dict_no_str l es n dd sl b u) ⟨ho, hq⟩
  · exact fun _ hq => wpAny_of_eq (rfl : isSame (.str b u) (.ref l) = pure false) hq
end
end PySem.SeqAt
namespace Ow
open PySem PySem.Spec PyProof.Rows L2
/-- whether a text is among some, of any data -/
def memD (d : PyData) (zs : List Str) : Bool := match d with
  | .str z => decide (z ∈ zs)
  | _ => false
/-- the equality that such an item has with the data -/
def eqD (d : PyData) : Value → Bool
  | .str b _ => (match d with | .str z => decide (b = z) | _ => false)
  | _ => false
section
variable {X : Cx} {pins : List (Addr × Obj)} {σ : L2.St} {H : Hp} {s : Shared} {N : Addr → Prop}
/-- a text beside data -/
theorem eq_text (I : Inv X pins σ H s) {A : Around} (hu : A.units < cLine) {v : V} {d : PyData} (h : Da X.K N H v d) {u : Value} (r : RelV v u) (b : Str) (t : Tok) : SeqAt.EqAt A s (.str b t) u (eqD d (.str b t)) := by
  cases h with
  | non => cases r; exact .str_none b t
  | bl x => cases r; exact .str_bool b t x
  | int i =>
    obtain ⟨t2, rfl⟩ := r
    exact .str_int b t i t2
  | str x =>
    obtain ⟨t2, rfl⟩ := r
    have e := SeqAt.EqAt.str_str (A := A) (s := s) b t x t2
    have e2 : (b == x) = decide (b = x) := by
      by_cases z : b = x
      · subst z
        simp
      · rw [decide_eq_false z]
        exact beq_eq_false_iff_ne.mpr z
    rw [e2] at e
    exact e
  | lst h1 h2 h3 =>
    cases r
    obtain ⟨its, rv, ⟨o, n, ho, hc, _, hd⟩, _⟩ := I.list (SqL.of h1)
    exact .str_list b t ⟨o, ho, hc, n, hd⟩ hu
  | tup h1 h3 =>
    cases r
    obtain ⟨its, rv, ht, _⟩ := I.tuple h1
    exact .str_tuple b t ht hu
  | dct h1 h2 h3 =>
    cases r
    obtain ⟨_, hsys, vs, kv, o, es, ep, ho, hx, hd, _⟩ := I.hok _ _ h1
    exact SeqAt.str_dict b t ho hx.1 hd hu
/-- x in a tuple of texts, x not in it -/
def rInT (K : PySem.W.Frag) (neg : Bool) : R2 := fun x y H Q => ∃ (N : Addr → Prop) (t : Addr) (zs : List Str) (d : PyData), y = .ref t ∧ SqT K H t (zs.map V.str) ∧ Da K N H x d ∧ Q (.bl (if neg then !memD d zs else memD d zs)) H
theorem strs_of : ∀ {zs : List Str} {us : List Value}, Vals (zs.map V.str) us → ∀ y ∈ us, ∃ z t, z ∈ zs ∧ y = .str z t
  | [], _, r, y, h => by
    cases r
    cases h
  | z :: zs, _, r, y, h => by
    rw [List.map_cons] at r
    cases r with
    | cons r1 r2 =>
      rcases List.mem_cons.mp h with e | h
      · obtain ⟨t, q⟩ := r1
        exact ⟨z, t, List.mem_cons_self .., e.trans q⟩
      · obtain ⟨z', t, h1, h2⟩ := strs_of r2 y h
        exact ⟨z', t, List.mem_cons_of_mem _ h1, h2⟩
theorem any_strs (d : PyData) : ∀ {zs : List Str} {us : List Value}, Vals (zs.map V.str) us → us.any (eqD d) = memD d zs
  | [], _, r => by
    cases r
    cases d <;> rfl
  | z :: zs, _, r => by
    rw [List.map_cons] at r
    cases r with
    | cons r1 r2 =>
      obtain ⟨t, rfl⟩ := r1
      rw [List.any_cons, any_strs d r2]
      cases d with
      | str x =>
        show (decide (z = x) || decide (x ∈ zs)) = decide (x ∈ z :: zs)
        rw [← Bool.decide_or]
        exact decide_eq_decide.mpr ⟨fun e => e.elim (fun e => e ▸ List.mem_cons_self ..) (List.mem_cons_of_mem _), fun e => (List.mem_cons.mp e).imp Eq.symm id⟩
      | _ => rfl
theorem op_inT (hu : X.A.units + 64 < cLine) : OpR X (compareOp .In) (rInT X.K false) := by
  intro pins s σ H x y v u Q I rx ry h
  obtain ⟨p, t, zs, d, rfl, ht, hd, q⟩ := h
  cases ry
  obtain ⟨its, rv, hit, _⟩ := I.tuple ht
  refine SeqAt.in_tupleAt (eqD d) hit (fun y hy => ?_) ?_
  · obtain ⟨z, tk, _, rfl⟩ := strs_of rv y (by simpa using hy)
    exact eq_text I (A := X.A.in1) (by show X.A.units + 1 < cLine; omega) hd rx z tk
  · refine ⟨.bl _, H, I, ?_, q⟩
    show Value.bool _ = Value.bool _
    rw [← any_strs d rv]
    simp
theorem op_notInT (hu : X.A.units + 64 < cLine) : OpR X (compareOp .NotIn) (rInT X.K true) := by
  intro pins s σ H x y v u Q I rx ry h
  obtain ⟨p, t, zs, d, rfl, ht, hd, q⟩ := h
  cases ry
  obtain ⟨its, rv, hit, _⟩ := I.tuple ht
  refine SeqAt.notIn_tupleAt (eqD d) hit (fun y hy => ?_) ?_
  · obtain ⟨z, tk, _, rfl⟩ := strs_of rv y (by simpa using hy)
    exact eq_text I (A := X.A.in1) (by show X.A.units + 1 < cLine; omega) hd rx z tk
  · refine ⟨.bl _, H, I, ?_, q⟩
    show Value.bool _ = Value.bool _
    rw [← any_strs d rv]
    simp
/-! ### isinstance of data -/
def tyD : PyData → String
  | .none => "NoneType"
  | .bool _ => "bool"
  | .int _ => "int"
  | .str _ => "str"
  | .list _ => "list"
  | .tuple _ => "tuple"
  | .dict _ => "dict"
theorem Da.ty {K : PySem.W.Frag} {v : V} {d : PyData} (h : Da K N H v d) : TyX K H v (.type (tyD d)) := by
  cases h with
  | non => exact .base .non
  | bl b => exact .base (.bl b)
  | int i => exact .base (.int i)
  | str x => exact .base (.str x)
  | lst h1 _ _ => exact .base (.lst h1)
  | tup h1 _ =>
    rcases h1 with (h1 | ⟨o, h1⟩) | ⟨o, its, n, hk, hc, _⟩
    · exact .base (.tup h1)
    · exact .fTuple h1
    · exact .kTuple hk hc
  | dct h1 _ _ => exact .base (.dK h1)
/-- isinstance(x, T) of data, T one of the built-in types that laws ask for -/
def rIsD (K : PySem.W.Frag) : List V → Hp → VK → Prop := fun xs H Q => ∃ (N : Addr → Prop) (v : V) (d : PyData) (T : String), xs = [v, .ty T] ∧ Da K N H v d ∧ (T = "str" ∨ T = "tuple" ∨ T = "bool") ∧ Q (.bl (decide (tyD d = T))) H
theorem kit_all : ∀ t ∈ ["NoneType", "bool", "int", "str", "list", "tuple", "dict"], ∀ T ∈ ["str", "tuple", "bool"], kitB t T = some (decide (t = T)) := by decide +kernel
theorem kit_tyD (d : PyData) (T : String) (h : T = "str" ∨ T = "tuple" ∨ T = "bool") : kitB (tyD d) T = some (decide (tyD d = T)) := by
  refine kit_all _ ?_ _ ?_
  · cases d <;> simp [tyD]
  · simpa using h
theorem call_isD : CallR X (.builtin "isinstance") (rIsD X.K) := by
  intro pins s σ H xs us Q I r h
  obtain ⟨p, v, d, T, rfl, hd, hT, q⟩ := h
  exact call_isi pins s σ H _ us Q I r ⟨v, .ty T, _, _, _, rfl, .ty T, hd.ty, kit_ty (kit_tyD d T hT), q⟩
end
end Ow

/-! How large data is; what is a name, a kind. -/
namespace Ow
open PySem PySem.Spec PyProof.Rows L2
/-! ### sizes -/
structure FitAll (n m : Nat) (ds : List PyData) : Prop where
  sh : PyData.showableAll ds = true
  wt : wtAll ds ≤ n
  dp : PyData.depthAll ds ≤ m
section
variable {n m n' m' k : Nat} {d : PyData} {ds es : List PyData}
theorem FitAll.nil : FitAll n m [] := ⟨by rw [PyData.showableAll], by rw [wtAll]; exact Nat.zero_le _, by rw [PyData.depthAll]; exact Nat.zero_le _⟩
theorem FitAll.cons (f : Fit n m d) (g : FitAll n' m ds) : FitAll (n + 2 + n') m (d :: ds) := by
  refine ⟨?_, ?_, ?_⟩
  · rw [PyData.showableAll, f.sh, g.sh]
    rfl
  · rw [wtAll]
    have := f.wt
    have := g.wt
    omega
  · rw [PyData.depthAll]
    have := f.dp
    have := g.dp
    omega
theorem FitAll.le (f : FitAll n m ds) (h : n ≤ n') (k : m ≤ m') : FitAll n' m' ds := ⟨f.sh, Nat.le_trans f.wt h, Nat.le_trans f.dp k⟩
theorem FitAll.append : ∀ {ds : List PyData} {n : Nat}, FitAll n m ds → FitAll n' m es → FitAll (n + n') m (ds ++ es)
  | [], n, _, g => g.le (by omega) (Nat.le_refl _)
  | d :: ds, n, f, g => by
    have hs := f.sh
    rw [PyData.showableAll, Bool.and_eq_true] at hs
    have hw := f.wt
    rw [wtAll] at hw
    have hd := f.dp
    rw [PyData.depthAll] at hd
    have f1 : Fit (Ow.wt d) m d := ⟨hs.1, Nat.le_refl _, by omega⟩
    have f2 : FitAll (wtAll ds) m ds := ⟨hs.2, Nat.le_refl _, by omega⟩
    exact (FitAll.cons f1 (f2.append g)).le (by omega) (Nat.le_refl _)
theorem Fit.tup (f : FitAll n m ds) : Fit (n + 4) (m + 1) (.tuple ds) := by
  refine ⟨by rw [PyData.showable]; exact f.sh, ?_, ?_⟩
  · rw [Ow.wt]
    have := f.wt
    omega
  · rw [PyData.depth]
    have := f.dp
    omega
theorem Fit.lst (f : FitAll n m ds) : Fit (n + 4) (m + 1) (.list ds) := by
  refine ⟨by rw [PyData.showable]; exact f.sh, ?_, ?_⟩
  · rw [Ow.wt]
    have := f.wt
    omega
  · rw [PyData.depth]
    have := f.dp
    omega
theorem Fit.items (f : Fit n (m + 1) (.tuple ds)) : 4 ≤ n ∧ FitAll (n - 4) m ds := by
  have h1 := f.sh
  have h2 := f.wt
  have h3 := f.dp
  rw [PyData.showable] at h1
  rw [Ow.wt] at h2
  rw [PyData.depth] at h3
  exact ⟨by omega, h1, by omega, by omega⟩
theorem Fit.deep (f : Fit n m (.tuple ds)) : ∃ m', m = m' + 1 := by
  have h3 := f.dp
  rw [PyData.depth] at h3
  exact ⟨m - 1, by omega⟩
theorem FitAll.split (f : FitAll n m ds) (k : Nat) : ∃ a b, a + b ≤ n ∧ FitAll a m (ds.take k) ∧ FitAll b m (ds.drop k) := by
  induction k generalizing ds n with
  | zero => exact ⟨0, n, by omega, .nil, by simpa using f⟩
  | succ k ih =>
    cases ds with
    | nil => exact ⟨0, 0, by omega, .nil, .nil⟩
    | cons d ds =>
      have hs := f.sh
      rw [PyData.showableAll, Bool.and_eq_true] at hs
      have hw := f.wt
      rw [wtAll] at hw
      have hd := f.dp
      rw [PyData.depthAll] at hd
      have f1 : Fit (Ow.wt d) m d := ⟨hs.1, Nat.le_refl _, by omega⟩
      have f2 : FitAll (wtAll ds) m ds := ⟨hs.2, Nat.le_refl _, by omega⟩
      obtain ⟨a, b, hab, fa, fb⟩ := ih f2
      exact ⟨Ow.wt d + 2 + a, b, by omega, .cons f1 fa, fb⟩
theorem FitAll.get {i : Nat} (f : FitAll n m ds) (h : ds[i]? = some d) : ∃ a b c, a + b + 2 + c ≤ n ∧ FitAll a m (ds.take i) ∧ Fit b m d ∧ FitAll c m (ds.drop (i + 1)) := by
  obtain ⟨a, b, hab, fa, fb⟩ := f.split i
  obtain ⟨hi, e⟩ := List.getElem?_eq_some_iff.mp h
  have q : ds.drop i = d :: ds.drop (i + 1) := by
    rw [← e]
    exact List.drop_eq_getElem_cons hi
  rw [q] at fb
  have hs := fb.sh
  rw [PyData.showableAll, Bool.and_eq_true] at hs
  have hw := fb.wt
  rw [wtAll] at hw
  have hd := fb.dp
  rw [PyData.depthAll] at hd
  exact ⟨a, Ow.wt d, wtAll (ds.drop (i + 1)), by omega, fa, ⟨hs.1, Nat.le_refl _, by omega⟩, ⟨hs.2, Nat.le_refl _, by omega⟩⟩
theorem FitAll.rep (f : Fit n m d) : ∀ k : Nat, ∀ {ds : List PyData}, ds.length = k → (∀ e ∈ ds, Fit n m e) → FitAll (k * (n + 2)) m ds
  | 0, [], _, _ => .nil
  | k + 1, e :: ds, h, g => by
    have h2 := FitAll.rep f k (ds := ds) (by simpa using h) fun x hx => g x (List.mem_cons_of_mem _ hx)
    refine (FitAll.cons (g e (List.mem_cons_self ..)) h2).le ?_ (Nat.le_refl _)
    rw [Nat.succ_mul]
    omega
end
theorem fit_str {x : Str} {n : Nat} (hc : ∀ c ∈ x.cps.toList, c < 16 ^ 8) (hn : x.length ≤ n) : Fit (11 * n + 2) 0 (.str x) := by
  refine ⟨by rw [PyData.showable], ?_, ?_⟩
  · rw [Ow.wt]
    have := StrLaws.reprText_len x hc
    omega
  · simp only [PyData.depth]
    exact Nat.zero_le _
theorem fit_nm {x : Str} (h : Nm x) : Fit 90 0 (.str x) := (fit_str (n := 8) (fun c hc => by have := (h.2.2 c hc).2; omega) h.2.1).le (by decide) (Nat.le_refl _)
theorem fit_str_len {n m : Nat} {x : Str} (f : Fit n m (.str x)) : x.length ≤ n := by
  have h := f.wt
  rw [Ow.wt] at h
  omega
/-! ### a tuple beside the empty one -/
def rEqU (K : PySem.W.Frag) : R2 := fun x y H Q => ∃ (a b : Addr) (xs : List V), x = .ref a ∧ y = .ref b ∧ SqT K H a xs ∧ SqT K H b [] ∧ Q (.bl xs.isEmpty) H
theorem op_eqU {X : Cx} (hu : X.A.units + 64 < cLine) : OpR X (compareOp .Eq) (rEqU X.K) := by
  intro pins s σ H x y v u Q I rx ry h
  obtain ⟨a, b, xs, rfl, rfl, ha, hb, q⟩ := h
  cases rx
  cases ry
  obtain ⟨its, rv, hit, _⟩ := I.tuple ha
  obtain ⟨its2, rv2, hit2, _⟩ := I.tuple hb
  cases rv2
  refine SeqAt.eq_tupleAt (e := fun _ => true) hit hit2 (by omega) (fun j h1 h2 => ?_) ?_
  · exact absurd h2 (Nat.not_lt_zero _)
  · refine ⟨.bl _, H, I, ?_, q⟩
    show Value.bool _ = Value.bool _
    cases rv with
    | nil => rfl
    | cons _ _ => simp
/-! ### names and kinds, of any data -/
def isNameD : PyData → Bool
  | .str z => decide (1 ≤ z.length) && decide (z.length ≤ 8) && z.cps.toList.all fun c => decide (c ∈ abc.cps.toList)
  | _ => false
def isRowD (d : PyData) (a b : Int) : Bool := match d with
  | .tuple ds => decide (a ≤ ds.length) && decide ((ds.length : Int) ≤ b)
  | _ => false
abbrev signs2 : List Str := [Str.ofString ">", Str.ofString "*"]
/-- a kind of at most so many within one another -/
def kindW : Nat → PyData → Bool
  | 0, _ => false
  | n + 1, d => match d with
    | .str z => isNameD (.str z)
    | .tuple [s, a, b] => decide (n ≠ 0) && memD s signs2 && kindW n a && kindW n b
    | _ => false
/-- whether no function stands in a kind -/
def shownW : Nat → PyData → Bool
  | 0, _ => true
  | n + 1, d => match d with
    | .tuple [s, a, b] => !(memD s [Str.ofString ">"]) && shownW n a && shownW n b
    | _ => true
end Ow
namespace Ow
open PySem PySem.Spec PyProof.Rows L2
section
variable {K : PySem.W.Frag} {N : Addr → Prop} {H H' : Hp}
theorem sqT_same {a : Addr} {xs : List V} (k : Same H H') (h : SqT K H a xs) : SqT K H' a xs := by
  rcases h with (h | ⟨o, h⟩) | h
  · exact .inl (.inl (k _ _ h))
  · exact .inl (.inr ⟨o, k _ _ h⟩)
  · exact .inr h
mutual
theorem Da.same (k : Same H H') : ∀ {v : V} {d : PyData}, Da K N H v d → Da K N H' v d
  | _, _, .non => .non
  | _, _, .bl b => .bl b
  | _, _, .int i => .int i
  | _, _, .str x => .str x
  | _, _, .lst h ne r => .lst (k _ _ h) ne (DaAll.same k r)
  | _, _, .tup h r => .tup (sqT_same k h) (DaAll.same k r)
  | _, _, .dct h ne r => .dct (k _ _ h) ne (DaAll.same k r)
theorem DaAll.same (k : Same H H') : ∀ {vs : List V} {ds : List PyData}, DaAll K N H vs ds → DaAll K N H' vs ds
  | _, _, .nil => .nil
  | _, _, .cons a r => .cons (Da.same k a) (DaAll.same k r)
end
theorem Da.tupInv {v : V} {ds : List PyData} (h : Da K N H v (.tuple ds)) : ∃ a xs, v = .ref a ∧ SqT K H a xs ∧ DaAll K N H xs ds := by
  cases h with
  | tup h r => exact ⟨_, _, rfl, h, r⟩
theorem Da.strInv {v : V} {x : Str} (h : Da K N H v (.str x)) : v = .str x := by
  cases h
  rfl
theorem Da.tup3 {v : V} {s a b : PyData} (h : Da K N H v (.tuple [s, a, b])) : ∃ t x y z, v = .ref t ∧ SqT K H t [x, y, z] ∧ Da K N H x s ∧ Da K N H y a ∧ Da K N H z b := by
  obtain ⟨t, xs, rfl, h1, h2⟩ := h.tupInv
  cases h2 with
  | cons g1 h2 =>
    cases h2 with
    | cons g2 h2 =>
      cases h2 with
      | cons g3 h2 =>
        cases h2
        exact ⟨_, _, _, _, rfl, h1, g1, g2, g3⟩
end
theorem ty_str {d : PyData} (h : tyD d = "str") : ∃ x, d = .str x := by
  cases d <;> simp [tyD] at h ⊢
theorem ty_tup {d : PyData} (h : tyD d = "tuple") : ∃ ds, d = .tuple ds := by
  cases d <;> simp [tyD] at h ⊢
theorem row3 {d : PyData} (h : isRowD d 3 3 = true) : ∃ s a b, d = .tuple [s, a, b] := by
  cases d with
  | tuple ds =>
    simp only [isRowD, Bool.and_eq_true, decide_eq_true_eq] at h
    match ds, h with
    | [s, a, b], _ => exact ⟨s, a, b, rfl⟩
    | [], h => simp at h
    | [_], h => simp at h
    | [_, _], h => simp at h
    | _ :: _ :: _ :: _ :: _, h =>
      simp only [List.length_cons] at h
      omega
  | _ => simp [isRowD] at h
theorem kind_str (n : Nat) (x : Str) : kindW (n + 1) (.str x) = isNameD (.str x) := rfl
theorem kind_tup (n : Nat) (s a b : PyData) : kindW (n + 1) (.tuple [s, a, b]) = (decide (n ≠ 0) && memD s signs2 && kindW n a && kindW n b) := rfl
theorem kind_no {n : Nat} {d : PyData} (h : tyD d ≠ "str") (h2 : n = 0 ∨ isRowD d 3 3 = false) : kindW (n + 1) d = false := by
  cases d with
  | str x => exact absurd rfl h
  | tuple ds =>
    match ds with
    | [s, a, b] =>
      rw [kind_tup]
      rcases h2 with h2 | h2
      · rw [h2]
        rfl
      · simp [isRowD] at h2
    | [] => rfl
    | [_] => rfl
    | [_, _] => rfl
    | _ :: _ :: _ :: _ :: _ => rfl
  | _ => rfl
theorem fit3 {n m : Nat} {s a b : PyData} (f : Fit n m (.tuple [s, a, b])) : Fit n m s ∧ Fit n m a ∧ Fit n m b := by
  obtain ⟨m', rfl⟩ := f.deep
  obtain ⟨h4, g⟩ := f.items
  obtain ⟨_, _, _, _, _, g0, _⟩ := g.get (i := 0) rfl
  obtain ⟨_, _, _, _, _, g1, _⟩ := g.get (i := 1) rfl
  obtain ⟨_, _, _, _, _, g2, _⟩ := g.get (i := 2) rfl
  exact ⟨g0.le (by omega) (by omega), g1.le (by omega) (by omega), g2.le (by omega) (by omega)⟩
/-! ### what the program's and the law's own looks promise -/
def spIsRow (K : PySem.W.Frag) : Sp := fun vs H Q _ => ∃ (N : Addr → Prop) (v : V) (d : PyData) (a b : Int), vs = [v, .int a, .int b] ∧ Da K N H v d ∧ Q (.bl (isRowD d a b)) H
def spIsName (K : PySem.W.Frag) : Sp := fun vs H Q _ => ∃ (N : Addr → Prop) (v : V) (d : PyData) (n m : Nat), vs = [v] ∧ Da K N H v d ∧ Fit n m d ∧ n ≤ 100000 ∧ ∀ H', Same H H' → Q (.bl (isNameD d)) H'
def spKindW (K : PySem.W.Frag) (k : Nat) : Sp := fun vs H Q _ => ∃ (N : Addr → Prop) (v : V) (d : PyData) (n m : Nat) (z : Int), vs = [v, .int z] ∧ z = (k : Int) ∧ 1 ≤ k ∧ Da K N H v d ∧ Fit n m d ∧ n ≤ 100000 ∧ ∀ H', Same H H' → Q (.bl (kindW k d)) H'
def spKind (K : PySem.W.Frag) : Sp := fun vs H Q _ => ∃ (N : Addr → Prop) (v : V) (d : PyData) (n m : Nat), vs = [v] ∧ Da K N H v d ∧ Fit n m d ∧ n ≤ 100000 ∧ ∀ H', Same H H' → Q (.bl (kindW 6 d)) H'
def spShown (K : PySem.W.Frag) (neg : Bool) (k : Nat) : Sp := fun vs H Q _ => ∃ (N : Addr → Prop) (v : V) (d : PyData), vs = [v] ∧ Da K N H v d ∧ kindW k d = true ∧ Q (.bl (if neg then !shownW k d else shownW k d)) H
end Ow

/-! Comprehensions whose element is plain. -/
namespace Ow
open PySem PySem.Spec PyProof.Rows L2
/-- what a comprehension over J asks: the new list at D -/
def LcG (J : It) (g : TG) (tt : TT) (te : TE) (vs : List Nat) (σ : L2.St) (H1 : Hp) (D : Addr) (Qd : Hp → Prop) : Prop :=
  ∃ W : Nat → Nat → Hp → Prop, (∃ m, W 0 m (upd H1 D (.lst []))) ∧
    ∀ i m H, W i m H → (J.stop i H ∧ Qd H) ∨ (J.go i H ∧ ∃ Nx : Hp → Prop, (∀ H', Nx H' → ∃ m', m' < m ∧ W (i + 1) m' H') ∧
      ∀ x H', J.yld i H x H' → g x (wipe σ vs) H' fun σ2 H2 => wipe σ2 vs = wipe σ vs ∧
        tt σ2 H2 fun b H3 => if b = true then te σ2 H3 fun y H4 => ∃ acc, H4 D = some (.lst acc) ∧ acc.length < sizeLine ∧ Nx (upd H4 D (.lst (acc ++ [y]))) else Nx H3)
section
variable {j : Nat} {te : TE} {vs : List Nat} {σ : L2.St} {H1 : Hp} {D : Addr} {Qd : Hp → Prop}
/-- over a text: each sign's value is f of its code -/
theorem lc_str_map {x : Str} (f : Nat → V) (hx : x.cps.size < sizeLine) (hw : ∀ v, wipe ((wipe σ vs).set j (some v)) vs = wipe σ vs)
    (hv : ∀ c ∈ x.cps.toList, ∀ (H2 : Hp) (Q : VK), Q (f c) H2 → te ((wipe σ vs).set j (some (.str ⟨#[c]⟩))) H2 Q)
    (hd : Qd (upd H1 D (.lst (x.cps.toList.map f)))) : LcG (Its x) (gName j) tYes te vs σ H1 D Qd := by
  refine ⟨fun i m H => m = x.cps.size - i ∧ i ≤ x.cps.size ∧ H = upd H1 D (.lst ((x.cps.toList.take i).map f)), ⟨_, rfl, Nat.zero_le _, rfl⟩, ?_⟩
  rintro i m H ⟨rfl, hi, rfl⟩
  by_cases hl : i < x.cps.size
  · refine .inr ⟨hl, fun H => H = upd H1 D (.lst ((x.cps.toList.take (i + 1)).map f)), fun H' e => ⟨x.cps.size - (i + 1), by omega, rfl, hl, e⟩, fun y H' z => ?_⟩
    obtain ⟨rfl, c, hc, rfl⟩ := z
    have hc2 : x.cps.toList[i]? = some c := by
      rw [Array.getElem?_toList]
      exact hc
    refine ⟨hw _, ?_⟩
    simp only [tYes, if_true]
    refine hv c (List.mem_of_getElem? hc2) _ _ ⟨_, upd_same, ?_, ?_⟩
    · rw [List.length_map, List.length_take]
      omega
    · rw [upd_upd, List.take_add_one, hc2, List.map_append]
      rfl
  · have e : i = x.cps.size := by omega
    subst e
    refine .inl ⟨Nat.le_refl _, ?_⟩
    rw [List.take_of_length_le (by simp)]
    exact hd
/-- over a list or a tuple that stays: each item's value is f of it -/
theorem lc_seq_map {K : PySem.W.Frag} {J : It} {xs : List V} (hJ : ∀ i H, (i < xs.length → Same H1 H → J.go i H) ∧ (xs.length ≤ i → Same H1 H → J.stop i H)) (hy : ∀ i H x H', Same H1 H → J.yld i H x H' → H' = H ∧ xs[i]? = some x)
    (hD : H1 D = none) (f : V → V) (hx : xs.length < sizeLine) (hw : ∀ v, wipe ((wipe σ vs).set j (some v)) vs = wipe σ vs)
    (hv : ∀ x ∈ xs, ∀ (H2 : Hp) (Q : VK), Same H1 H2 → Q (f x) H2 → te ((wipe σ vs).set j (some x)) H2 Q)
    (hd : Qd (upd H1 D (.lst (xs.map f)))) : LcG J (gName j) tYes te vs σ H1 D Qd := by
  refine ⟨fun i m H => m = xs.length - i ∧ i ≤ xs.length ∧ H = upd H1 D (.lst ((xs.take i).map f)), ⟨_, rfl, Nat.zero_le _, rfl⟩, ?_⟩
  rintro i m H ⟨rfl, hi, rfl⟩
  have sm : ∀ l, Same H1 (upd H1 D (.lst l)) := fun l => same_new hD
  by_cases hl : i < xs.length
  · refine .inr ⟨(hJ i _).1 hl (sm _), fun H => H = upd H1 D (.lst ((xs.take (i + 1)).map f)), fun H' e => ⟨xs.length - (i + 1), by omega, rfl, hl, e⟩, fun y H' z => ?_⟩
    obtain ⟨rfl, hc⟩ := hy i _ y H' (sm _) z
    refine ⟨hw _, ?_⟩
    simp only [tYes, if_true]
    refine hv y (List.mem_of_getElem? hc) _ _ (sm _) ⟨_, upd_same, ?_, ?_⟩
    · rw [List.length_map, List.length_take]
      omega
    · rw [upd_upd, List.take_add_one, hc, List.map_append]
      rfl
  · have e : i = xs.length := by omega
    subst e
    refine .inl ⟨(hJ _ _).2 (Nat.le_refl _) (sm _), ?_⟩
    rw [List.take_of_length_le (Nat.le_refl _)]
    exact hd
end
end Ow
namespace Ow
open PySem PySem.Spec PyProof.Rows L2
theorem kind_cases {n : Nat} {d : PyData} (h : kindW n d = true) : (∃ x, d = .str x) ∨ ∃ (m : Nat) (sg : Str) (a b : PyData), n = m + 1 ∧ d = .tuple [.str sg, a, b] ∧ sg ∈ signs2 ∧ kindW m a = true ∧ kindW m b = true := by
  cases n with
  | zero => cases h
  | succ n =>
    by_cases ht : tyD d = "str"
    · exact .inl (ty_str ht)
    · cases hr : isRowD d 3 3 with
      | false =>
        rw [kind_no ht (.inr hr)] at h
        cases h
      | true =>
        obtain ⟨s, a, b, rfl⟩ := row3 hr
        rw [kind_tup] at h
        simp only [Bool.and_eq_true] at h
        obtain ⟨⟨⟨_, h2⟩, h3⟩, h4⟩ := h
        cases s with
        | str sg => exact .inr ⟨n, sg, a, b, rfl, rfl, of_decide_eq_true h2, h3, h4⟩
        | _ => cases h2
theorem shown_str (n : Nat) (x : Str) : shownW n (.str x) = true := by cases n <;> rfl
theorem shown_tup (n : Nat) (s a b : PyData) : shownW (n + 1) (.tuple [s, a, b]) = (!(memD s [Str.ofString ">"]) && shownW n a && shownW n b) := rfl
theorem mem_one (sg z : Str) : memD (.str sg) [z] = decide (sg = z) := by
  show decide (sg ∈ [z]) = _
  simp
end Ow
namespace Ow
open PySem PySem.Spec PyProof.Rows L2
/-! ### what the drawing defs promise -/
def bAny : Nat → Nat
  | 0 => 60
  | n + 1 => 5 * (bAny n + 2) + 20
theorem bAny_ge : ∀ n : Nat, 60 ≤ bAny n
  | 0 => Nat.le_refl _
  | n + 1 => by
    have := bAny_ge n
    show 60 ≤ 5 * (bAny n + 2) + 20
    omega
def spAny (K : PySem.W.Frag) (k : Nat) : Sp := fun vs H Q _ => ∃ (p c : Addr) (z : Int), vs = [.ref p, .int z] ∧ z = (k : Int) ∧ k ≤ 4 ∧ Pen H p c ∧
  ∀ (v : V) (d : PyData) (H' : Hp), Da K (Tk H) H' v d → Fit (bAny k) (2 * k) d → Pen H' p c → Kp p H H' → Q v H'
abbrev anyList : List V := [.int 0, .bl true, .non, .str "", .str "x", .str "^", .str "Ab", .str "x1", .int (-(10 ^ (39 : Int).toNat)), .str "abcdefghi"]
theorem fit_of {d : PyData} (h : (d.showable && decide (wt d ≤ 60) && decide (d.depth ≤ 0)) = true) : Fit 60 0 d := by
  simp only [Bool.and_eq_true, decide_eq_true_eq] at h
  exact ⟨h.1.1, h.1.2, h.2⟩
theorem any_at {n : Int} (h0 : 0 ≤ n) (h1 : n < 10) : ∃ (v : V) (d : PyData), atI anyList n = some v ∧ (∀ K N H, Da K N H v d) ∧ Fit 60 0 d := by
  have : n = 0 ∨ n = 1 ∨ n = 2 ∨ n = 3 ∨ n = 4 ∨ n = 5 ∨ n = 6 ∨ n = 7 ∨ n = 8 ∨ n = 9 := by omega
  rcases this with rfl | rfl | rfl | rfl | rfl | rfl | rfl | rfl | rfl | rfl
  · exact ⟨_, _, rfl, fun _ _ _ => .int _, fit_of (by decide +kernel)⟩
  · exact ⟨_, _, rfl, fun _ _ _ => .bl _, fit_of (by decide +kernel)⟩
  · exact ⟨_, _, rfl, fun _ _ _ => .non, fit_of (by decide +kernel)⟩
  · exact ⟨_, _, rfl, fun _ _ _ => .str _, fit_of (by decide +kernel)⟩
  · exact ⟨_, _, rfl, fun _ _ _ => .str _, fit_of (by decide +kernel)⟩
  · exact ⟨_, _, rfl, fun _ _ _ => .str _, fit_of (by decide +kernel)⟩
  · exact ⟨_, _, rfl, fun _ _ _ => .str _, fit_of (by decide +kernel)⟩
  · exact ⟨_, _, rfl, fun _ _ _ => .str _, fit_of (by decide +kernel)⟩
  · exact ⟨_, _, rfl, fun _ _ _ => .int _, fit_of (by decide +kernel)⟩
  · exact ⟨_, _, rfl, fun _ _ _ => .str _, fit_of (by decide +kernel)⟩
section
variable {K : PySem.W.Frag} {N : Addr → Prop} {H H' : Hp}
theorem Da.put {D : Addr} {o o' : HO} {v : V} {d : PyData} (h : Da K N H v d) (hD : H D = some o) (ht : ∀ xs, o ≠ .tup xs) (hf : ∀ ob u, o ≠ .frz ob u) (hN : N D) : Da K N (upd H D o') v d :=
  h.kp (p := D) Kp.self (fun xs r => by
    rcases r with r | ⟨ob, r⟩
    · rw [hD] at r
      exact ht _ (Option.some.inj r)
    · rw [hD] at r
      exact hf _ _ (Option.some.inj r)) hN
theorem DaAll.put {D : Addr} {o o' : HO} {vs : List V} {ds : List PyData} (h : DaAll K N H vs ds) (hD : H D = some o) (ht : ∀ xs, o ≠ .tup xs) (hf : ∀ ob u, o ≠ .frz ob u) (hN : N D) : DaAll K N (upd H D o') vs ds :=
  h.kp (p := D) Kp.self (fun xs r => by
    rcases r with r | ⟨ob, r⟩
    · rw [hD] at r
      exact ht _ (Option.some.inj r)
    · rw [hD] at r
      exact hf _ _ (Option.some.inj r)) hN
end
theorem Pen.keepTk {H H0 : Hp} {p c D : Addr} {o : HO} (h : Pen H p c) (h0 : Pen H0 p c) (hD : H0 D = none) : Pen (upd H D o) p c := h.keep (h0.neP hD) (h0.neC hD)
end Ow
namespace Ow
open PySem PySem.Spec PyProof.Rows L2
/-- data without lists and dicts avoids all -/
abbrev All : Addr → Prop := fun _ => True
def bKind : Nat → Nat
  | 0 => 90
  | n + 1 => 2 * (bKind n + 2) + 12
def spRough (K : PySem.W.Frag) (k : Nat) : Sp := fun vs H Q _ => ∃ (p c : Addr) (z : Int), vs = [.ref p, .int z] ∧ z = (k : Int) ∧ k ≤ 6 ∧ Pen H p c ∧
  ∀ (v : V) (d : PyData) (H' : Hp), Da K All H' v d → Fit (bKind k) k d → Pen H' p c → Kp p H H' → Q v H'
theorem bKind_ge : ∀ n : Nat, 90 ≤ bKind n
  | 0 => Nat.le_refl _
  | n + 1 => by
    have := bKind_ge n
    show 90 ≤ 2 * (bKind n + 2) + 12
    omega
theorem fit_sign {x : Str} (h : wt (.str x) ≤ 4) : Fit 4 0 (.str x) := ⟨by rw [PyData.showable], h, by simp only [PyData.depth]; exact Nat.zero_le _⟩
abbrev signs3 : List V := [.str ">", .str "*"]
theorem sign_at {n : Int} (h0 : 0 ≤ n) (h1 : n < 2) : ∃ x : Str, atI signs3 n = some (.str x) ∧ Fit 4 0 (.str x) ∧ x ∈ signs2 := by
  have : n = 0 ∨ n = 1 := by omega
  rcases this with rfl | rfl
  · exact ⟨_, rfl, fit_sign (by decide +kernel), by simp⟩
  · exact ⟨_, rfl, fit_sign (by decide +kernel), by simp⟩
end Ow
namespace Ow
open PySem PySem.Spec PyProof.Rows L2
def spSpoil (K : PySem.W.Frag) (k : Nat) : Sp := fun vs H Q _ => ∃ (p c : Addr) (v : V) (d : PyData) (z : Int) (n m : Nat), vs = [.ref p, v, .int z] ∧ z = (k : Int) ∧ k ≤ 8 ∧ Pen H p c ∧ Da K All H v d ∧ Fit n m d ∧ n ≤ 40000 ∧
  ∀ (v' : V) (d' : PyData) (H' : Hp), Da K (Tk H) H' v' d' → Fit (2 * n + 1800) (m + 8) d' → Pen H' p c → Kp p H H' → Q v' H'
section
variable {K : PySem.W.Frag} {H : Hp} {Q : VK} {a b : Addr} {xs ys : List V}
theorem cat_any (ha : SqT K H a xs) (hb : SqT K H b ys) (hl : xs.length + ys.length ≤ sizeLine) (k : ∀ t H', Same H H' → SqT K H' t (xs ++ ys) → Q (.ref t) H') : rCatA K (.ref a) (.ref b) H Q := by
  refine ⟨a, b, xs, ys, rfl, rfl, ha, hb, hl, fun e => ?_, fun _ e => ?_, fun _ _ p hp => ?_⟩
  · exact k b H (Same.refl H) (by rw [e, List.nil_append]; exact hb)
  · exact k a H (Same.refl H) (by rw [e, List.append_nil]; exact ha)
  · exact k p _ (same_new hp) (SqT.of upd_same)
theorem cut_any {lo hi : Option Int} (ha : SqT K H a xs) (k : ∀ t H', Same H H' → SqT K H' t (cutV xs lo hi) → Q (.ref t) H') : rSlA K (.ref a) lo hi H Q := by
  refine ⟨a, xs, rfl, ha, fun e => ?_, fun _ p hp => ?_⟩
  · refine k a H (Same.refl H) ?_
    have z : cutV xs lo hi = xs := by
      unfold cutV
      rw [e.1, e.2]
      simp
    rw [z]
    exact ha
  · exact k p _ (same_new hp) (SqT.of upd_same)
theorem cut_take (xs : List V) (k : Nat) : cutV xs none (some (k : Int)) = xs.take k := by
  unfold cutV
  rw [HT.sIx_none, HT.sIx_nat, List.drop_zero, Nat.sub_zero]
  by_cases h : k ≤ xs.length
  · rw [Nat.min_eq_left h]
  · rw [Nat.min_eq_right (by omega), List.take_of_length_le (Nat.le_refl _), List.take_of_length_le (by omega)]
theorem cut_drop (xs : List V) (k : Nat) : cutV xs (some (k : Int)) none = xs.drop k := by
  unfold cutV
  rw [HT.sIx_none, HT.sIx_nat]
  by_cases h : k ≤ xs.length
  · rw [Nat.min_eq_left h, List.take_of_length_le (by rw [List.length_drop]; exact Nat.le_refl _)]
  · rw [Nat.min_eq_right (by omega), Nat.sub_self, List.take_zero, List.drop_eq_nil_of_le (by omega)]
end
end Ow
namespace Ow
open PySem PySem.Spec PyProof.Rows L2
theorem len_wt : ∀ ds : List PyData, ds.length ≤ wtAll ds
  | [] => Nat.zero_le _
  | d :: ds => by
    have := len_wt ds
    rw [wtAll, List.length_cons]
    omega
theorem Kp.same {p : Addr} {H H1 H2 : Hp} (a : Kp p H H1) (s : Same H1 H2) : Kp p H H2 := a.trans (Kp.of s)
end Ow
namespace Ow
open PySem PySem.Spec PyProof.Rows L2
def spChain (K : PySem.W.Frag) : Sp := fun vs H Q _ => ∃ (p c : Addr) (z : Int), vs = [.ref p, .int z] ∧ 1 ≤ z ∧ z ≤ 7 ∧ Pen H p c ∧
  ∀ (v : V) (d : PyData) (H' : Hp), Da K All H' v d → Fit 2000 10 d → Pen H' p c → Kp p H H' → Q v H'
/-- the script is handed in, True comes out -/
def spLaw (K : PySem.W.Frag) : Sp := fun vs H Q _ => ∃ (a : Addr) (ns : List Int), vs = [.ref a] ∧ SqL K H a (ns.map V.int) ∧ ns.length ≤ 63 ∧ ∀ H', Q (.bl true) H'
abbrev signs4 : List V := [.str ">", .str "*", .str "*"]
theorem sign_at3 {n : Int} (h0 : 0 ≤ n) (h1 : n < 3) : ∃ x : Str, atI signs4 n = some (.str x) ∧ Fit 4 0 (.str x) := by
  have : n = 0 ∨ n = 1 ∨ n = 2 := by omega
  rcases this with rfl | rfl | rfl
  · exact ⟨_, rfl, fit_sign (by decide +kernel)⟩
  · exact ⟨_, rfl, fit_sign (by decide +kernel)⟩
  · exact ⟨_, rfl, fit_sign (by decide +kernel)⟩
abbrev tails7 : List V := [.str "", .str "a", .str "A", .str "_", .str " ", .str "1", .str "7"]
/-- a short text of small codes -/
def Sm (x : Str) (n : Nat) : Prop := x.length ≤ n ∧ ∀ c ∈ x.cps.toList, c < 16 ^ 8
theorem sm_of {x : Str} {n : Nat} (h : (decide (x.length ≤ n) && x.cps.toList.all fun c => decide (c < 16 ^ 8)) = true) : Sm x n := by
  simp only [Bool.and_eq_true, decide_eq_true_eq, List.all_eq_true] at h
  exact h
theorem tail_at {n : Int} (h0 : 0 ≤ n) (h1 : n < 7) : ∃ x : Str, atI tails7 n = some (.str x) ∧ Sm x 1 := by
  have : n = 0 ∨ n = 1 ∨ n = 2 ∨ n = 3 ∨ n = 4 ∨ n = 5 ∨ n = 6 := by omega
  rcases this with rfl | rfl | rfl | rfl | rfl | rfl | rfl <;> exact ⟨_, rfl, sm_of (by decide +kernel)⟩
theorem Nm.sm {x : Str} (h : Nm x) : Sm x 8 := ⟨h.2.1, fun c hc => by have := (h.2.2 c hc).2; omega⟩
theorem Sm.app {x y : Str} {n m : Nat} (h : Sm x n) (k : Sm y m) : Sm (x ++ y) (n + m) := by
  refine ⟨?_, fun c hc => ?_⟩
  · have := h.1
    have := k.1
    rw [strLen_append]
    omega
  · rw [app_cps] at hc
    exact (List.mem_append.mp hc).elim (h.2 c) (k.2 c)
theorem Sm.fit {x : Str} {n : Nat} (h : Sm x n) : Fit (11 * n + 2) 0 (.str x) := fit_str h.2 h.1
end Ow
namespace Ow
open PySem PySem.Spec PyProof.Rows L2
/-- two truths beside one another -/
def spTruth : Sp := fun vs H Q _ => ∃ a b : Bool, vs = [.bl a, .bl b] ∧ Q (.bl (decide (a = b))) H
theorem room_un {n k : Nat} (h : n + 16 * k + 200 < cLine) : n + 151 < cLine := by omega
end Ow
namespace Ow
open PySem PySem.Spec PyProof.Rows L2
section
variable {K : PySem.W.Frag} {mg : Str → Option Value} {h : Heap} {x : Str} {st : Stmt} {ps : List Str} {f : Addr} {od an : Option Addr} {sl : Array (Option Value)} {oc kV dc pm cd ct : Value}
theorem defAt_mk (X : K.In h) (G : h.Ns mainGlobals mg) (a : PySem.W.nsIn K mainGlobals x = some (some (.ref f)))
    (l : K.lookup f = some ⟨oc, od, .func (PySem.W.fnOf x x (defArgs st) (defBody st) (defScope st) .none kV dc pm an cd ct), sl⟩) (c : PySem.W.codeIn K cd x = true) (k : PySem.W.keepIn K (.ref f) = true)
    (hb : ∀ (kV doc pm : Value) (an : Option Addr) (cdv ct : Value) (us : List Value), us.length = ps.length → bindArgs (PySem.W.fnOf x x (defArgs st) (defBody st) (defScope st) .none kV doc pm an cdv ct) ⟨us, []⟩ = pure (ps.zip us)) : DefAt K mg x st ps :=
  ⟨f, _, fun_mk l c k, PySem.W.mg_of X G a, (fun_mk (st := st) l c k).binds hb⟩
theorem lawAt_mk {fa : Addr} {y : Str} (X : K.In h) (G : h.Ns mainGlobals mg) (hmg : mg x = some (.ref fa)) (a : PySem.W.nsIn K mainGlobals x = some (some (.ref f)))
    (l : K.lookup f = some ⟨oc, od, .func (PySem.W.fnOf x x (defArgs st) (defBody st) (defScope st) .none kV dc pm an cd ct), sl⟩) (c : PySem.W.codeIn K cd x = true) (k : PySem.W.keepIn K (.ref f) = true)
    (hb : ∀ (s : Shared) (u : Value), BindsTo s (PySem.W.fnOf x x (defArgs st) (defBody st) (defScope st) .none kV dc pm an cd ct) ⟨[u], []⟩ [(y, u)]) :
    ∃ fd, Fun K x x st fa fd ∧ ∀ (s : Shared) (u : Value), BindsTo s fd ⟨[u], []⟩ [(y, u)] := by
  have e := hmg.symm.trans (PySem.W.mg_of X G a)
  injection e with e
  injection e with e
  subst e
  exact ⟨_, fun_mk l c k, hb⟩
theorem gv_mk {v : V} {u : Value} (X : K.In h) (G : h.Ns mainGlobals mg) (a : PySem.W.nsIn K mainGlobals x = some (some u)) (r : RelV v u) : GV mg x v := ⟨u, PySem.W.mg_of X G a, r⟩
end
end Ow

namespace Ow
open PySem PySem.Spec PyProof.Rows L2
def top (i : Nat) : Stmt := PySem.Challenge.pw_oncewire_k02_names_and_kinds_known.main.body.getD i (.Pass ⟨0, 0, 0, 0⟩)
abbrev s_is_row : Stmt := top 4
abbrev sl_is_row : List Str := ["thing", "least", "most"]
theorem sc_is_row : FnScope sl_is_row ["thing", "least", "most"] (defScope s_is_row) := ⟨rfl, rfl, rfl, by decide +kernel, rfl, by decide +kernel, by decide +kernel⟩
abbrev s_is_name : Stmt := top 5
abbrev sl_is_name : List Str := ["thing", "letter"]
theorem sc_is_name : FnScope sl_is_name ["thing"] (defScope s_is_name) := ⟨rfl, rfl, rfl, by decide +kernel, rfl, by decide +kernel, by decide +kernel⟩
abbrev s_is_kind : Stmt := top 6
abbrev sl_is_kind : List Str := ["thing"]
theorem sc_is_kind : FnScope sl_is_kind ["thing"] (defScope s_is_kind) := ⟨rfl, rfl, rfl, by decide +kernel, rfl, by decide +kernel, by decide +kernel⟩
abbrev s_is_kind_within : Stmt := top 7
abbrev sl_is_kind_within : List Str := ["thing", "most"]
theorem sc_is_kind_within : FnScope sl_is_kind_within ["thing", "most"] (defScope s_is_kind_within) := ⟨rfl, rfl, rfl, by decide +kernel, rfl, by decide +kernel, by decide +kernel⟩
abbrev s_is_shown : Stmt := top 8
abbrev sl_is_shown : List Str := ["kind"]
theorem sc_is_shown : FnScope sl_is_shown ["kind"] (defScope s_is_shown) := ⟨rfl, rfl, rfl, by decide +kernel, rfl, by decide +kernel, by decide +kernel⟩
abbrev s_law_pen : Stmt := top 10
abbrev sl_law_pen : List Str := ["_law_script"]
theorem sc_law_pen : FnScope sl_law_pen ["_law_script"] (defScope s_law_pen) := ⟨rfl, rfl, rfl, by decide +kernel, rfl, by decide +kernel, by decide +kernel⟩
abbrev s_law_fresh : Stmt := top 11
abbrev sl_law_fresh : List Str := ["_law_pen_here", "_law_spot", "_law_cell", "_law_one", "_law_two", "_law_three"]
theorem sc_law_fresh : FnScope sl_law_fresh ["_law_pen_here"] (defScope s_law_fresh) := ⟨rfl, rfl, rfl, by decide +kernel, rfl, by decide +kernel, by decide +kernel⟩
abbrev s_law_draw : Stmt := top 12
abbrev sl_law_draw : List Str := ["_law_pen_here", "_law_below", "_law_found"]
theorem sc_law_draw : FnScope sl_law_draw ["_law_pen_here", "_law_below"] (defScope s_law_draw) := ⟨rfl, rfl, rfl, by decide +kernel, rfl, by decide +kernel, by decide +kernel⟩
abbrev s_law_name : Stmt := top 13
abbrev sl_law_name : List Str := ["_law_pen_here", "_law_gone", "_law_letters", "_law_found", "_law_turn", "_law_front", "_law_k"]
theorem sc_law_name : FnScope sl_law_name ["_law_pen_here", "_law_gone"] (defScope s_law_name) := ⟨rfl, rfl, rfl, by decide +kernel, rfl, by decide +kernel, by decide +kernel⟩
abbrev s_law_any : Stmt := top 14
abbrev sl_law_any : List Str := ["_law_pen_here", "_law_deep", "_law_road", "_law_some", "_law_turn"]
theorem sc_law_any : FnScope sl_law_any ["_law_pen_here", "_law_deep"] (defScope s_law_any) := ⟨rfl, rfl, rfl, by decide +kernel, rfl, by decide +kernel, by decide +kernel⟩
abbrev s_law_spoiled : Stmt := top 15
abbrev sl_law_spoiled : List Str := ["_law_pen_here", "_law_thing", "_law_deep", "_law_spot", "_law_road"]
theorem sc_law_spoiled : FnScope sl_law_spoiled ["_law_pen_here", "_law_thing", "_law_deep"] (defScope s_law_spoiled) := ⟨rfl, rfl, rfl, by decide +kernel, rfl, by decide +kernel, by decide +kernel⟩
abbrev s_law_rough_kind : Stmt := top 16
abbrev sl_law_rough_kind : List Str := ["_law_pen_here", "_law_deep", "_law_sign"]
theorem sc_law_rough_kind : FnScope sl_law_rough_kind ["_law_pen_here", "_law_deep"] (defScope s_law_rough_kind) := ⟨rfl, rfl, rfl, by decide +kernel, rfl, by decide +kernel, by decide +kernel⟩
abbrev s_law_is_name : Stmt := top 17
abbrev sl_law_is_name : List Str := ["_law_thing", "_law_one"]
theorem sc_law_is_name : FnScope sl_law_is_name ["_law_thing"] (defScope s_law_is_name) := ⟨rfl, rfl, rfl, by decide +kernel, rfl, by decide +kernel, by decide +kernel⟩
abbrev s_law_is_kind : Stmt := top 18
abbrev sl_law_is_kind : List Str := ["_law_thing", "_law_deep"]
theorem sc_law_is_kind : FnScope sl_law_is_kind ["_law_thing", "_law_deep"] (defScope s_law_is_kind) := ⟨rfl, rfl, rfl, by decide +kernel, rfl, by decide +kernel, by decide +kernel⟩
abbrev s_law_has : Stmt := top 19
abbrev sl_law_has : List Str := ["_law_kind"]
theorem sc_law_has : FnScope sl_law_has ["_law_kind"] (defScope s_law_has) := ⟨rfl, rfl, rfl, by decide +kernel, rfl, by decide +kernel, by decide +kernel⟩
abbrev s_law_chain : Stmt := top 20
abbrev sl_law_chain : List Str := ["_law_pen_here", "_law_often", "_law_found", "_law_turn", "_law_pair", "_law_first"]
theorem sc_law_chain : FnScope sl_law_chain ["_law_pen_here", "_law_often"] (defScope s_law_chain) := ⟨rfl, rfl, rfl, by decide +kernel, rfl, by decide +kernel, by decide +kernel⟩
abbrev s_law_truth : Stmt := top 21
abbrev sl_law_truth : List Str := ["_law_found", "_law_due"]
theorem sc_law_truth : FnScope sl_law_truth ["_law_found", "_law_due"] (defScope s_law_truth) := ⟨rfl, rfl, rfl, by decide +kernel, rfl, by decide +kernel, by decide +kernel⟩
abbrev s_law : Stmt := top 22
abbrev sl_law : List Str := ["_law_script", "_law_pen_here", "_law_turn", "_law_road", "_law_thing", "_law_seen", "_law_good"]
theorem sc_law : FnScope sl_law ["_law_script"] (defScope s_law) := ⟨rfl, rfl, rfl, by decide +kernel, rfl, by decide +kernel, by decide +kernel⟩
section
variable {P : Program} {w : World} {K : PySem.W.Frag} {mg : Str → Option Value} {base : Heap}
theorem ok_pen (D : DefAt K mg "_law_pen" s_law_pen ["_law_script"]) (T : Bl mg) : CallOk P w K mg base 1 "_law_pen" ["_law_script"] (spPen K) := by
  refine D.ok sc_law_pen (fun vs H Q E h => ?_) (fun f cdv A outer s H vs Q E hr h => ?_)
  · obtain ⟨a, ns, rfl, _⟩ := h
    rfl
  · obtain ⟨a, ns, rfl, hS, hl, k⟩ := h
    refine ⟨_, (pss_one (ps_ret (pe_lst (pa_cons (pe_callTy call_list_of (by rfl) T.list_ (by decide +kernel) (pa_cons (pe_slice sl_list (pv 0) po_none (po_some pe_int)) pa_nil)) (pa_cons pe_int (pa_cons pe_int pa_nil)))))), ?_⟩
    refine ⟨_, rfl, 60, rfl, a, ns.map V.int, rfl, hS, fun q hq => ?_⟩
    refine ⟨q, _, rfl, .inl (SqL.of upd_same), fun r hr2 => ?_⟩
    refine ⟨le_line (by show 3 ≤ 100000; decide), fun p hp => ?_⟩
    have n1 : r ≠ p := ne_of_none upd_same hp
    have s1 : Same H (upd (upd (upd H q (.lst (cutV (ns.map V.int) none (some 60)))) r (.lst (cutV (ns.map V.int) none (some 60)))) p (.lst [.ref r, .int 0, .int 0])) := Same.lay (Same.lay (same_new hq) hr2) hp
    refine k p r _ ⟨⟨0, 0, upd_same⟩, ns.take (min 60 ns.length), ?_, ?_⟩ s1 ?_ ?_
    · rw [upd_ne n1, upd_same, show ((60 : Int)) = ((60 : Nat) : Int) from rfl, cut_front]
    · rw [List.length_take]
      omega
    · exact (Same.lay (same_new hq) hr2).free hp
    · exact (same_new hq).free hr2
theorem ok_fresh (D : DefAt K mg "_law_fresh" s_law_fresh ["_law_pen_here"]) (T : Bl mg) : CallOk P w K mg base 1 "_law_fresh" ["_law_pen_here"] spFresh := by
  refine D.ok sc_law_fresh (fun vs H Q E h => ?_) (fun f cdv A outer s H vs Q E hr h => ?_)
  · obtain ⟨p, c, rfl, _⟩ := h
    rfl
  · obtain ⟨p, c, rfl, hP, k⟩ := h
    refine ⟨_, (pss_cons (ps_set (i := 1) sc_law_fresh.nd rfl (Or.inl rfl) (pe_ix ix_list (pv 0) pe_int (fun _ _ => rfl)))
        (pss_cons (ps_asg (pe_op opAdd (pv 1) pe_int) (pg_sub (pv 0) pe_int set_list))
        (pss_cons (ps_set (i := 2) sc_law_fresh.nd rfl (Or.inl rfl) (pe_op op_mul (pv 1) pe_int))
        (Evl.pss_cut (ps_if (pt_cmpR (op_neD hr.units) (pe_ix ix_list (pv 0) pe_int (fun _ _ => rfl)) (pe_lst pa_nil) (nomark _)) (pss_one (ps_set (i := 2) sc_law_fresh.nd rfl (Or.inl rfl) (pe_ix ix_list (pe_ix ix_list (pv 0) pe_int (fun _ _ => rfl)) (pe_op op_mod (pv 1) (pe_callB call_len_seq (by rfl) T.len_ (by decide +kernel) (pa_cons (pe_ix ix_list (pv 0) pe_int (fun _ _ => rfl)) pa_nil))) (fun _ _ => rfl)))) pss_nil)
        (pss_cons (ps_if (PW.pt (pw_and (pt_cmpR op_lt (pv 1) (pe_callB call_len_seq (by rfl) T.len_ (by decide +kernel) (pa_cons (pe_ix ix_list (pv 0) pe_int (fun _ _ => rfl)) pa_nil)) (nomark _)) (pw_and1 (pt_cmpR op_ge (pv 2) (pe_op op_pow pe_int pe_int) (nomark _))))) (pss_one (ps_ret (pv 2))) pss_nil)
        (pss_cons (ps_set (i := 3) sc_law_fresh.nd rfl (Or.inl rfl) (pe_op op_mod (pe_op opAdd (pe_op opAdd (pe_op op_mod (pv 2) pe_int) (pe_op op_mul (pv 1) pe_int)) pe_int) pe_int))
        (pss_cons (ps_set (i := 4) sc_law_fresh.nd rfl (Or.inl rfl) (pe_op op_mod (pe_op opAdd (pe_op opAdd (pe_op op_mul (pv 3) (pv 3)) (pe_op op_mul (pv 1) pe_int)) pe_int) pe_int))
        (pss_cons (ps_set (i := 5) sc_law_fresh.nd rfl (Or.inl rfl) (pe_op op_mod (pe_op opAdd (pe_op op_mul (pv 4) (pv 4)) (pe_op op_mul (pv 3) (pe_op opAdd (pv 1) pe_int))) pe_int))
        (pss_one (ps_ret (pe_op opAdd (pe_op op_mul (pe_op opAdd (pe_op op_mul (pv 5) pe_int) (pv 4)) pe_int) (pv 3)))))))))))), ?_⟩
    obtain ⟨⟨z, r, h1⟩, _⟩ := id hP
    -- spot, and the next one's
    refine ⟨_, rfl, p, _, 1, _, rfl, rfl, SqL.of h1, rfl, ?_⟩
    refine ⟨_, rfl, .inl ⟨_, _, rfl, rfl, ?_⟩⟩
    refine ⟨_, rfl, p, _, 1, 1, rfl, rfl, h1, rfl, ?_⟩
    have hP1 : Pen (upd H p (.lst [.ref c, .int (z + 1), .int r])) p c := hP.put
    have k1 : Kp p H (upd H p (.lst [.ref c, .int (z + 1), .int r])) := Kp.self
    show tSeq _ _ _ _ (upd H p (.lst [.ref c, .int (z + 1), .int r]))
    generalize upd H p (.lst [.ref c, .int (z + 1), .int r]) = H1 at hP1 k1
    obtain ⟨⟨z1, r1, h1'⟩, cs, h2, hl⟩ := id hP1
    refine ⟨_, rfl, _, _, rfl, rfl, .inr ⟨by decide, by decide⟩, ?_⟩
    -- the cell, where there are any
    refine ⟨fun σ H2 => ∃ v : Int, σ = [some (.ref p), some (.int z), some (.int v), none, none, none] ∧ Pen H2 p c ∧ Kp p H H2, ?_, ?_⟩
    · refine ⟨_, rfl, p, _, 0, _, rfl, rfl, SqL.of h1', rfl, Nat.zero_le _, fun q hq => ?_⟩
      have h1q : upd H1 q (.lst []) p = some (.lst [.ref c, .int z1, .int r1]) := by
        rw [upd_ne (hP1.neP hq).symm]
        exact h1'
      have h2q : upd H1 q (.lst []) c = some (.lst (cs.map V.int)) := by
        rw [upd_ne (hP1.neC hq).symm]
        exact h2
      have hPq : Pen (upd H1 q (.lst [])) p c := hP1.new hq
      have kq : Kp p H (upd H1 q (.lst [])) := k1.lay hq
      refine ⟨_, _, .lst (SqL.of h2q) (dp_ints _ _ cs), .lst (SqL.of upd_same) .nil, shaped_ints cs, shaped_nil, _, rfl, ?_⟩
      rw [eqv_nil]
      cases he : cs with
      | nil =>
        refine iteF ?_
        exact ⟨_, rfl, hPq, kq⟩
      | cons a t =>
        refine iteT ?_
        obtain ⟨v, hv⟩ := at_mod cs z (by rw [he]; exact Nat.succ_pos _)
        refine ⟨_, rfl, p, _, 0, _, rfl, rfl, SqL.of h1q, rfl, _, rfl, _, rfl, p, _, 0, _, rfl, rfl, SqL.of h1q, rfl, c, _, rfl, .inl (SqL.of h2q), _, _, rfl, rfl, ?_, c, cs.map V.int, _, .int v, rfl, rfl, SqL.of h2q, ?_, ?_⟩
        · show (0 : Int) < ((cs.map V.int).length : Int)
          rw [he, List.length_map, List.length_cons]
          omega
        · rw [List.length_map]
          exact hv
        · exact ⟨v, rfl, hPq, kq⟩
    · rintro σ H2 ⟨v, rfl, hP2, k2⟩
      obtain ⟨⟨z2, r2, h3⟩, cs2, h4, hl2⟩ := id hP2
      -- a great cell
      refine ⟨_, rfl, _, rfl, p, _, 0, _, rfl, rfl, SqL.of h3, rfl, c, _, rfl, .inl (SqL.of h4), _, _, rfl, rfl, _, rfl, ?_⟩
      refine ite2 (fun _ => ?a) (fun _ => iteF ?b)
      case' a =>
        refine ⟨_, rfl, _, _, rfl, rfl, ⟨by decide, by decide, by decide⟩, _, _, rfl, rfl, _, rfl, ?_⟩
        refine ite2 (fun _ => ⟨_, rfl, k _ _ hP2 k2⟩) (fun _ => ?_)
      all_goals
        refine ⟨_, rfl, _, _, rfl, rfl, (by show (0 : Int) < 2147483629; decide), _, rfl, _, _, rfl, rfl, .inr ⟨by decide, by decide⟩, .inl ⟨_, _, rfl, rfl, .inl ⟨_, _, rfl, rfl, _, _, rfl, rfl, (by show (0 : Int) < 2147483629; decide), ?_⟩⟩⟩
        have b1 := Int.emod_nonneg (v % 2147483629 + z * 40503 + 17) (show (2147483629 : Int) ≠ 0 by decide)
        have b2 := Int.emod_lt_of_pos (v % 2147483629 + z * 40503 + 17) (show (0 : Int) < 2147483629 by decide)
        generalize (v % 2147483629 + z * 40503 + 17) % 2147483629 = one at b1 b2 ⊢
        refine ⟨_, rfl, _, rfl, _, _, rfl, rfl, .inl ⟨by omega, by omega⟩, _, rfl, _, _, rfl, rfl, .inr ⟨by decide, by decide⟩, .inl ⟨_, _, rfl, rfl, .inl ⟨_, _, rfl, rfl, _, _, rfl, rfl, (by show (0 : Int) < 2147483587; decide), ?_⟩⟩⟩
        have b3 := Int.emod_nonneg (one * one + z * 69069 + 3) (show (2147483587 : Int) ≠ 0 by decide)
        have b4 := Int.emod_lt_of_pos (one * one + z * 69069 + 3) (show (0 : Int) < 2147483587 by decide)
        generalize (one * one + z * 69069 + 3) % 2147483587 = two at b3 b4 ⊢
        refine ⟨_, rfl, _, rfl, _, _, rfl, rfl, .inl ⟨by omega, by omega⟩, _, rfl, _, rfl, .inl ⟨_, _, rfl, rfl, _, _, rfl, rfl, .inl ⟨by omega, by omega⟩, .inl ⟨_, _, rfl, rfl, _, _, rfl, rfl, (by show (0 : Int) < 2147483579; decide), ?_⟩⟩⟩
        generalize (two * two + one * (z + 5)) % 2147483579 = three
        exact ⟨_, rfl, _, _, rfl, rfl, .inr ⟨by decide, by decide⟩, _, rfl, .inl ⟨_, _, rfl, rfl, _, _, rfl, rfl, .inr ⟨by decide, by decide⟩, _, rfl, .inl ⟨_, _, rfl, rfl, k _ _ hP2 k2⟩⟩⟩
theorem ok_draw (D : DefAt K mg "_law_draw" s_law_draw ["_law_pen_here", "_law_below"]) (T : Bl mg) (C_law_fresh : CallOk P w K mg base 1 "_law_fresh" ["_law_pen_here"] spFresh) :
    CallOk P w K mg base 2 "_law_draw" ["_law_pen_here", "_law_below"] spDraw := by
  refine D.ok sc_law_draw (fun vs H Q E h => ?_) (fun f cdv A outer s H vs Q E hr h => ?_)
  · obtain ⟨p, c, b, rfl, _⟩ := h
    rfl
  · obtain ⟨p, c, b, rfl, hP, hb1, hb2, k⟩ := h
    refine ⟨_, (Evl.pss_cut (ps_if (pt_cmpR op_lt (pe_ix ix_list (pv 0) pe_int (fun _ _ => rfl)) (pv 1) (nomark _)) (pss_one (ps_asg (pe_callOk C_law_fresh hr (by omega) (by rfl) (pa_cons (pv 0) pa_nil)) (pg_sub (pv 0) pe_int set_list))) pss_nil)
        (pss_cons (ps_set (i := 2) sc_law_draw.nd rfl (Or.inl rfl) (pe_op op_mod (pe_ix ix_list (pv 0) pe_int (fun _ _ => rfl)) (pv 1)))
        (pss_cons (ps_asg (pe_op op_fdiv (pe_ix ix_list (pv 0) pe_int (fun _ _ => rfl)) (pv 1)) (pg_sub (pv 0) pe_int set_list))
        (pss_one (ps_ret (pv 2)))))), ?_⟩
    obtain ⟨⟨z, r, h1⟩, _⟩ := id hP
    refine ⟨fun σ H2 => σ = [some (.ref p), some (.int b), none] ∧ Pen H2 p c ∧ Kp p H H2, ?_, ?_⟩
    · refine ⟨_, rfl, p, _, 2, _, rfl, rfl, SqL.of h1, rfl, _, rfl, _, _, rfl, rfl, _, rfl, ?_⟩
      refine ite2 (fun _ => ?_) (fun _ => ⟨rfl, hP, Kp.refl⟩)
      refine ⟨_, rfl, p, c, rfl, hP, fun n H2 hP2 k2 => ?_⟩
      obtain ⟨⟨z2, r2, h2⟩, _⟩ := id hP2
      exact ⟨_, rfl, p, _, 2, 2, rfl, rfl, h2, rfl, rfl, hP2.put, k2.put⟩
    · rintro σ H2 ⟨rfl, hP2, k2⟩
      obtain ⟨⟨z2, r2, h2⟩, _⟩ := id hP2
      refine ⟨_, rfl, p, _, 2, _, rfl, rfl, SqL.of h2, rfl, _, rfl, _, _, rfl, rfl, hb1, ?_⟩
      refine ⟨_, rfl, p, _, 2, _, rfl, rfl, SqL.of h2, rfl, _, rfl, _, _, rfl, rfl, ⟨hb1, hb2⟩, _, rfl, p, _, 2, 2, rfl, rfl, h2, rfl, ?_⟩
      exact ⟨_, rfl, k _ _ (Int.emod_nonneg _ (by omega)) (Int.emod_lt_of_pos _ hb1) hP2.put k2.put⟩
theorem ok_name (D : DefAt K mg "_law_name" s_law_name ["_law_pen_here", "_law_gone"]) (T : Bl mg) (C_law_draw : CallOk P w K mg base 2 "_law_draw" ["_law_pen_here", "_law_below"] spDraw) :
    CallOk P w K mg base 3 "_law_name" ["_law_pen_here", "_law_gone"] spName := by
  refine D.ok sc_law_name (fun vs H Q E h => ?_) (fun f cdv A outer s H vs Q E hr h => ?_)
  · obtain ⟨p, c, g, gs, rfl, _⟩ := h
    rfl
  · obtain ⟨p, c, g, gs, rfl, hP, hG, hgp, hgl, k⟩ := h
    refine ⟨_, (pss_cons (ps_set (i := 2) sc_law_name.nd rfl (Or.inl rfl) pe_str)
        (pss_cons (ps_set (i := 3) sc_law_name.nd rfl (Or.inl rfl) pe_str)
        (pss_cons (ps_for PassesOwn.never rfl (pi_range1 (by rfl) T.range_ (pa_cons (pe_op opAdd pe_int (pe_callOk C_law_draw hr (by omega) (by rfl) (pa_cons (pv 0) (pa_cons (pe_ix ix_list (pe_lst (pa_cons pe_int (pa_cons pe_int (pa_cons pe_int pa_nil)))) (pe_callOk C_law_draw hr (by omega) (by rfl) (pa_cons (pv 0) (pa_cons pe_int pa_nil))) (fun _ _ => rfl)) pa_nil)))) pa_nil)) (pg_name (i := 4) sc_law_name.nd rfl (Or.inl rfl)) (pss_one (ps_set (i := 3) sc_law_name.nd rfl (Or.inl rfl) (pe_op opAdd (pv 3) (pe_ix ix_str (pv 2) (pe_callOk C_law_draw hr (by omega) (by rfl) (pa_cons (pv 0) (pa_cons pe_int pa_nil))) (fun _ _ => rfl))))))
        (pss_cons (ps_set (i := 5) sc_law_name.nd rfl (Or.inl rfl) (pe_slice sl_str (pv 3) po_none (po_some pe_int)))
        (pss_cons (ps_for PassesOwn.never rfl (pi_range1 (by rfl) T.range_ (pa_cons (pe_op opAdd (pe_callB call_len_seq (by rfl) T.len_ (by decide +kernel) (pa_cons (pv 1) pa_nil)) pe_int) pa_nil)) (pg_name (i := 6) sc_law_name.nd rfl (Or.inl rfl)) (pss_one (ps_if (pt_cmpR op_in_seq (pv 3) (pv 1) (by rfl)) (pss_one (ps_set (i := 3) sc_law_name.nd rfl (Or.inl rfl) (pe_op opAdd (pe_op opAdd (pv 5) (pe_ix ix_str (pv 2) (pe_op op_mod (pe_op op_fdiv (pv 6) pe_int) pe_int) (fun _ _ => rfl))) (pe_ix ix_str (pv 2) (pe_op op_mod (pv 6) pe_int) (fun _ _ => rfl))))) pss_nil)))
        (pss_one (ps_ret (pv 3)))))))), ?_⟩
    refine ⟨_, rfl, le_line (by show 3 ≤ 100000; decide), fun q hq => ?_⟩
    have hPq : Pen (upd H q (.lst [.int 1, .int 2, .int 8])) p c := hP.new hq
    have nqp : q ≠ p := hP.neP hq
    refine ⟨_, rfl, p, c, 3, rfl, hPq, by decide, by decide, fun m H1 m0 m1 hP1 k1 => ?_⟩
    have q1 : H1 q = some (.lst [.int 1, .int 2, .int 8]) := k1 _ _ upd_same nqp
    have kq : Kp p H H1 := (Kp.new hq).trans k1
    have hm : ∃ b : Int, atI [V.int 1, .int 2, .int 8] m = some (.int b) ∧ 0 < b ∧ b ≤ 8 := by
      have : m = 0 ∨ m = 1 ∨ m = 2 := by omega
      rcases this with rfl | rfl | rfl
      · exact ⟨1, rfl, by decide, by decide⟩
      · exact ⟨2, rfl, by decide, by decide⟩
      · exact ⟨8, rfl, by decide, by decide⟩
    obtain ⟨b, hb, b0, b8⟩ := hm
    refine ⟨q, _, m, .int b, rfl, rfl, SqL.of q1, hb, p, c, b, rfl, hP1, b0, by omega, fun n H2 n0 n1 hP2 k2 => ?_⟩
    have kp2 : Kp p H H2 := kq.trans k2
    refine .inl ⟨_, _, rfl, rfl, ?_⟩
    refine ⟨1 + n, rfl, by omega, by omega, for_range (lo := 0) (n := (1 + n).toNat) (fun i σ H' => ∃ x v4, σ = [some (.ref p), some (.ref g), some (.str abc), some (.str x), v4, none, none] ∧ Lt x i ∧ Pen H' p c ∧ Kp p H H')
      ⟨_, none, rfl, lt_nil, hP2, kp2⟩ ?_ ?_⟩
    · -- a letter more
      rintro i σ H' hi ⟨x, v4, rfl, hx, hP3, k3⟩
      refine ⟨_, rfl, _, rfl, _, rfl, p, c, 26, rfl, hP3, by decide, by decide, fun l H4 l0 l1 hP4 k4 => ?_⟩
      obtain ⟨ch, hc, c1, c2⟩ := abc_at l0 l1
      refine ⟨abc, l, ch, rfl, rfl, abc_len, hc, .inr (.inl ⟨x, _, rfl, rfl, ?_, ?_⟩)⟩
      · rw [hx.len, (lt_one c1 c2).len]
        exact le_line (by omega)
      · exact ⟨_, _, rfl, hx.app (lt_one c1 c2), hP4, k3.trans k4⟩
    · rintro σ H' ⟨x, v4, rfl, hx, hP3, k3⟩
      have hx8 : (1 + n).toNat ≤ 8 := by omega
      have hx0 : 0 < (1 + n).toNat := by omega
      refine ⟨_, rfl, 6, rfl, x, rfl, ?_, ?_⟩
      · rw [hx.len]
        exact le_line (by omega)
      obtain ⟨m6, h6, hf⟩ := hx.front 6
      generalize cutS x none (some ((6 : Nat) : Int)) = front at hf
      have hG' : SqL K H' g (gs.map V.str) := SqL.of (k3 _ _ hG hgp)
      refine ⟨_, rfl, g, gs.map V.str, rfl, .inl hG', .inl ⟨_, _, rfl, rfl, ?_⟩⟩
      refine ⟨((gs.map V.str).length : Int) + 1, rfl, ?_, ?_, for_range (lo := 0) (n := (((gs.map V.str).length : Int) + 1).toNat) (fun i σ H' => ∃ x v6 m, σ = [some (.ref p), some (.ref g), some (.str abc), some (.str x), v4, some (.str front), v6] ∧ Lt x m ∧ 0 < m ∧ m ≤ 8 ∧ Pen H' p c ∧ Kp p H H')
        ⟨_, none, _, rfl, hx, hx0, hx8, hP3, k3⟩ ?_ ?_⟩
      · omega
      · rw [List.length_map]
        omega
      · rintro i σ H4 hi ⟨y, v6, m, rfl, hy, m0, m8, hP4, k4⟩
        refine ⟨_, rfl, _, rfl, g, gs.map V.str, rfl, .inl (SqL.of (k4 _ _ hG hgp)), rfl, ?_, _, rfl, ?_⟩
        · simp [flatV]
        refine ite2 (fun _ => ?_) (fun _ => ⟨_, _, _, rfl, hy, m0, m8, hP4, k4⟩)
        obtain ⟨ca, ha, a1, a2⟩ := abc_at (n := (0 + (i : Int)) / 26 % 26) (Int.emod_nonneg _ (by decide)) (Int.emod_lt_of_pos _ (by decide))
        obtain ⟨cb, hb, b1, b2⟩ := abc_at (n := (0 + (i : Int)) % 26) (Int.emod_nonneg _ (by decide)) (Int.emod_lt_of_pos _ (by decide))
        refine ⟨_, rfl, _, rfl, _, rfl, _, _, rfl, rfl, ⟨by decide, by decide⟩, _, _, rfl, rfl, (by show (0 : Int) < 26; decide), abc, _, ca, rfl, rfl, abc_len, ha, .inr (.inl ⟨front, _, rfl, rfl, ?_, _, rfl, _, rfl, _, _, rfl, rfl, (by show (0 : Int) < 26; decide), abc, _, cb, rfl, rfl, abc_len, hb, .inr (.inl ⟨_, _, rfl, rfl, ?_, ?_⟩)⟩)⟩
        · rw [hf.len, (lt_one a1 a2).len]
          exact le_line (by omega)
        · rw [(hf.app (lt_one a1 a2)).len, (lt_one b1 b2).len]
          exact le_line (by omega)
        · exact ⟨_, _, _, rfl, (hf.app (lt_one a1 a2)).app (lt_one b1 b2), by omega, by omega, hP4, k4⟩
      · rintro σ H4 ⟨y, v6, m, rfl, hy, m0, m8, hP4, k4⟩
        exact ⟨_, rfl, k y H4 (hy.nm m0 m8) hP4 k4⟩
end

section
variable {P : Program} {w : World} {K : PySem.W.Frag} {mg : Str → Option Value} {base : Heap}
theorem ok_is_row (D : DefAt K mg "is_row" s_is_row ["thing", "least", "most"]) (T : Bl mg) : CallOk P w K mg base 1 "is_row" ["thing", "least", "most"] (spIsRow K) := by
  refine D.ok sc_is_row (fun vs H Q E h => ?_) (fun f cdv A outer s H vs Q E hr h => ?_)
  · obtain ⟨p, v, d, a, b, rfl, _⟩ := h
    rfl
  · obtain ⟨p, v, d, a, b, rfl, hd, k⟩ := h
    refine ⟨_, (pss_one (ps_ret (pe_and (pe_callB call_isD (by rfl) T.isinstance_ (by decide +kernel) (pa_cons (pv 0) (pa_cons (pe_bltn (v := .ty "tuple") (by rfl) T.tuple_ (by decide +kernel) rfl) pa_nil))) (pe_one (pe_chain op_le op_le (pv 1) (pe_callB call_len (by rfl) T.len_ (by decide +kernel) (pa_cons (pv 0) pa_nil)) (pv 2)))))), ?_⟩
    refine ⟨_, rfl, p, v, d, "tuple", rfl, hd, .inr (.inl rfl), _, rfl, ?_⟩
    by_cases ht : tyD d = "tuple"
    · obtain ⟨ds, rfl⟩ := ty_tup ht
      obtain ⟨t, xs, rfl, h1, h2⟩ := hd.tupInv
      refine iteT ?_
      refine ⟨_, rfl, _, rfl, _, _, rfl, .inr ⟨_, h1, rfl⟩, _, _, rfl, rfl, _, rfl, ?_⟩
      rw [h2.length]
      by_cases c : a ≤ (ds.length : Int)
      · rw [decide_eq_true c]
        refine iteT ⟨_, rfl, _, _, rfl, rfl, ?_⟩
        have e : isRowD (.tuple ds) a b = decide ((ds.length : Int) ≤ b) := by
          show (decide (a ≤ (ds.length : Int)) && _) = _
          rw [decide_eq_true c, Bool.true_and]
        rw [e] at k
        exact k
      · rw [decide_eq_false c]
        refine iteF ?_
        have e : isRowD (.tuple ds) a b = false := by
          show (decide (a ≤ (ds.length : Int)) && _) = _
          rw [decide_eq_false c, Bool.false_and]
        rw [← e]
        exact k
    · rw [decide_eq_false ht]
      refine iteF ?_
      have e : isRowD d a b = false := by
        cases d <;> simp [isRowD, tyD] at ht ⊢
      rw [← e]
      exact k
theorem ok_is_name (D : DefAt K mg "is_name" s_is_name ["thing"]) (T : Bl mg) (G_LETTERS : GV mg "LETTERS" (.str abc)) (G_MOST_LETTERS : GV mg "MOST_LETTERS" (.int 8)) : CallOk P w K mg base 1 "is_name" ["thing"] (spIsName K) := by
  refine D.ok sc_is_name (fun vs H Q E h => ?_) (fun f cdv A outer s H vs Q E hr h => ?_)
  · obtain ⟨p, v, d, n, m, rfl, _⟩ := h
    rfl
  · obtain ⟨p, v, d, n, m, rfl, hd, hf, hn, k⟩ := h
    refine ⟨_, (pss_cons (ps_if (PW.pt (pw_or (pt_not (pt_val (pe_callB call_isD (by rfl) T.isinstance_ (by decide +kernel) (pa_cons (pv 0) (pa_cons (pe_bltn (v := .ty "str") (by rfl) T.str_ (by decide +kernel) rfl) pa_nil))))) (pw_or1 (pt_not (pt_chain op_le op_le pe_int (pe_callB call_len (by rfl) T.len_ (by decide +kernel) (pa_cons (pv 0) pa_nil)) (pe_gv G_MOST_LETTERS rfl)))))) (pss_one (ps_ret pe_bl)) pss_nil)
        (pss_one (ps_ret (pe_callB (cr_all rfl) (by rfl) T.all_ (by decide +kernel) (pa_cons (pe_lc (own := [("letter", 1)]) (g := gName 1) (tt := tYes) rfl sc_is_name.nd (pi_str (pv 0)) (blkOk_by (N := sl_is_name) (sc := defScope s_is_name) (by decide +kernel)) (fun _ _ _ _ _ => pg_name (i := 1) sc_is_name.nd rfl (Or.inl rfl)) (fun _ _ _ _ _ => pts_nil) (fun _ _ _ _ _ => (pe_cmpR op_in_sign (pv 1) (pe_gv G_LETTERS rfl) (by rfl)))) pa_nil))))), ?_⟩
    refine ⟨_, rfl, p, v, d, "str", rfl, hd, .inl rfl, _, rfl, ?_⟩
    by_cases ht : tyD d = "str"
    · obtain ⟨x, rfl⟩ := ty_str ht
      cases hd.strInv
      have hx := fit_str_len hf
      refine iteF ?_
      refine ⟨_, rfl, _, _, rfl, ⟨le_line (by omega), rfl⟩, _, _, rfl, rfl, _, rfl, ?_⟩
      have e : isNameD (.str x) = (decide (1 ≤ x.length) && decide (x.length ≤ 8) && (x.cps.toList.map fun c => decide (c ∈ abc.cps.toList)).all id) := by
        show (_ && _ && _) = _
        rw [List.all_map]
        rfl
      rw [e] at k
      by_cases c1 : 1 ≤ x.length
      · rw [show decide ((1 : Int) ≤ (x.length : Int)) = true from decide_eq_true (by omega)]
        refine iteT ⟨_, _, rfl, rfl, _, rfl, ?_⟩
        by_cases c2 : x.length ≤ 8
        · rw [show decide ((x.length : Int) ≤ 8) = true from decide_eq_true (by omega)]
          refine iteF ?_
          refine ⟨_, rfl, x, rfl, fun D hD => ?_⟩
          refine lc_str_map (fun c => .bl (decide (c ∈ abc.cps.toList))) (lt_line (by have : x.cps.size = x.length := rfl; omega)) (fun _ => rfl) (fun c _ H2 Q2 q => ⟨_, rfl, c, abc, rfl, rfl, q⟩) ?_
          refine ⟨D, x.cps.toList.map fun c => decide (c ∈ abc.cps.toList), rfl, SqL.of ?_, ?_⟩
          · rw [upd_same, List.map_map]
            rfl
          · have z := k (upd H D (.lst (x.cps.toList.map fun c => .bl (decide (c ∈ abc.cps.toList))))) (same_new hD)
            rw [decide_eq_true c1, decide_eq_true c2] at z
            exact z
        · rw [show decide ((x.length : Int) ≤ 8) = false from decide_eq_false (by omega)]
          refine iteT ?_
          have z := k H (Same.refl H)
          rw [decide_eq_false c2, Bool.and_false, Bool.false_and] at z
          exact z
      · rw [show decide ((1 : Int) ≤ (x.length : Int)) = false from decide_eq_false (by omega)]
        refine iteF ⟨_, rfl, iteT ?_⟩
        have z := k H (Same.refl H)
        rw [decide_eq_false c1, Bool.false_and, Bool.false_and] at z
        exact z
    · rw [decide_eq_false ht]
      refine iteT ?_
      have e : isNameD d = false := by
        cases d <;> simp [isNameD, tyD] at ht ⊢
      have z := k H (Same.refl H)
      rw [e] at z
      exact z
theorem ok_law_is_name (D : DefAt K mg "_law_is_name" s_law_is_name ["_law_thing"]) (T : Bl mg) : CallOk P w K mg base 1 "_law_is_name" ["_law_thing"] (spIsName K) := by
  refine D.ok sc_law_is_name (fun vs H Q E h => ?_) (fun f cdv A outer s H vs Q E hr h => ?_)
  · obtain ⟨p, v, d, n, m, rfl, _⟩ := h
    rfl
  · obtain ⟨p, v, d, n, m, rfl, hd, hf, hn, k⟩ := h
    refine ⟨_, (pss_cons (ps_if (PW.pt (pw_or (pt_not (pt_val (pe_callB call_isD (by rfl) T.isinstance_ (by decide +kernel) (pa_cons (pv 0) (pa_cons (pe_bltn (v := .ty "str") (by rfl) T.str_ (by decide +kernel) rfl) pa_nil))))) (pw_or1 (pt_not (pt_chain op_le op_le pe_int (pe_callB call_len (by rfl) T.len_ (by decide +kernel) (pa_cons (pv 0) pa_nil)) pe_int))))) (pss_one (ps_ret pe_bl)) pss_nil)
        (pss_one (ps_ret (pe_callB (cr_all rfl) (by rfl) T.all_ (by decide +kernel) (pa_cons (pe_lc (own := [("_law_one", 1)]) (g := gName 1) (tt := tYes) rfl sc_law_is_name.nd (pi_str (pv 0)) (blkOk_by (N := sl_law_is_name) (sc := defScope s_law_is_name) (by decide +kernel)) (fun _ _ _ _ _ => pg_name (i := 1) sc_law_is_name.nd rfl (Or.inl rfl)) (fun _ _ _ _ _ => pts_nil) (fun _ _ _ _ _ => (pe_cmpR op_in_sign (pv 1) pe_str (by rfl)))) pa_nil))))), ?_⟩
    refine ⟨_, rfl, p, v, d, "str", rfl, hd, .inl rfl, _, rfl, ?_⟩
    by_cases ht : tyD d = "str"
    · obtain ⟨x, rfl⟩ := ty_str ht
      cases hd.strInv
      have hx := fit_str_len hf
      refine iteF ?_
      refine ⟨_, rfl, _, _, rfl, ⟨le_line (by omega), rfl⟩, _, _, rfl, rfl, _, rfl, ?_⟩
      have e : isNameD (.str x) = (decide (1 ≤ x.length) && decide (x.length ≤ 8) && (x.cps.toList.map fun c => decide (c ∈ abc.cps.toList)).all id) := by
        show (_ && _ && _) = _
        rw [List.all_map]
        rfl
      rw [e] at k
      by_cases c1 : 1 ≤ x.length
      · rw [show decide ((1 : Int) ≤ (x.length : Int)) = true from decide_eq_true (by omega)]
        refine iteT ⟨_, _, rfl, rfl, _, rfl, ?_⟩
        by_cases c2 : x.length ≤ 8
        · rw [show decide ((x.length : Int) ≤ 8) = true from decide_eq_true (by omega)]
          refine iteF ?_
          refine ⟨_, rfl, x, rfl, fun D hD => ?_⟩
          refine lc_str_map (fun c => .bl (decide (c ∈ abc.cps.toList))) (lt_line (by have : x.cps.size = x.length := rfl; omega)) (fun _ => rfl) (fun c _ H2 Q2 q => ⟨_, rfl, c, abc, rfl, rfl, q⟩) ?_
          refine ⟨D, x.cps.toList.map fun c => decide (c ∈ abc.cps.toList), rfl, SqL.of ?_, ?_⟩
          · rw [upd_same, List.map_map]
            rfl
          · have z := k (upd H D (.lst (x.cps.toList.map fun c => .bl (decide (c ∈ abc.cps.toList))))) (same_new hD)
            rw [decide_eq_true c1, decide_eq_true c2] at z
            exact z
        · rw [show decide ((x.length : Int) ≤ 8) = false from decide_eq_false (by omega)]
          refine iteT ?_
          have z := k H (Same.refl H)
          rw [decide_eq_false c2, Bool.and_false, Bool.false_and] at z
          exact z
      · rw [show decide ((1 : Int) ≤ (x.length : Int)) = false from decide_eq_false (by omega)]
        refine iteF ⟨_, rfl, iteT ?_⟩
        have z := k H (Same.refl H)
        rw [decide_eq_false c1, Bool.false_and, Bool.false_and] at z
        exact z
    · rw [decide_eq_false ht]
      refine iteT ?_
      have e : isNameD d = false := by
        cases d <;> simp [isNameD, tyD] at ht ⊢
      have z := k H (Same.refl H)
      rw [e] at z
      exact z
end

section
variable {P : Program} {w : World} {K : PySem.W.Frag} {mg : Str → Option Value} {base : Heap}
theorem ok_is_kind_within (D : DefAt K mg "is_kind_within" s_is_kind_within ["thing", "most"]) (T : Bl mg) (C_is_row : CallOk P w K mg base 1 "is_row" ["thing", "least", "most"] (spIsRow K)) (C_is_name : CallOk P w K mg base 1 "is_name" ["thing"] (spIsName K)) :
    ∀ n : Nat, CallOk P w K mg base (n + 1) "is_kind_within" ["thing", "most"] (spKindW K n)
  | 0 => (D.none sc_is_kind_within).imp fun vs H Q E h => by
    obtain ⟨p, v, d, n, m, z, _, _, h0, _⟩ := h
    omega
  | n + 1 => by
    have C_is_kind_within := ok_is_kind_within D T C_is_row C_is_name n
    refine D.ok sc_is_kind_within (fun vs H Q E h => ?_) (fun f cdv A outer s H vs Q E hr h => ?_)
    · obtain ⟨p, v, d, a, b, z, rfl, _⟩ := h
      rfl
    · obtain ⟨p, v, d, a, b, z, rfl, hz, _, hd, hf, hn, k⟩ := h
      refine ⟨_, (pss_cons (ps_if (pt_val (pe_callB call_isD (by rfl) T.isinstance_ (by decide +kernel) (pa_cons (pv 0) (pa_cons (pe_bltn (v := .ty "str") (by rfl) T.str_ (by decide +kernel) rfl) pa_nil)))) (pss_one (ps_ret (pe_callOk C_is_name hr (by omega) (by rfl) (pa_cons (pv 0) pa_nil)))) pss_nil)
        (pss_cons (ps_if (PW.pt (pw_or (pt_cmpR op_eq (pv 1) pe_int (nomark _)) (pw_or (pt_not (pt_val (pe_callOk C_is_row hr (by omega) (by rfl) (pa_cons (pv 0) (pa_cons pe_int (pa_cons pe_int pa_nil)))))) (pw_or1 (pt_cmpR (op_notInT hr.units) (pe_ix ix_tup (pv 0) pe_int (fun _ _ => rfl)) (pe_tup (pa_cons pe_str (pa_cons pe_str pa_nil))) (by rfl)))))) (pss_one (ps_ret pe_bl)) pss_nil)
        (pss_one (ps_ret (pe_and (pe_callOk C_is_kind_within hr (by omega) (by rfl) (pa_cons (pe_ix ix_tup (pv 0) pe_int (fun _ _ => rfl)) (pa_cons (pe_op op_sub (pv 1) pe_int) pa_nil))) (pe_one (pe_callOk C_is_kind_within hr (by omega) (by rfl) (pa_cons (pe_ix ix_tup (pv 0) pe_int (fun _ _ => rfl)) (pa_cons (pe_op op_sub (pv 1) pe_int) pa_nil))))))))), ?_⟩
      refine ⟨_, rfl, p, v, d, "str", rfl, hd, .inl rfl, _, rfl, ?_⟩
      by_cases ht : tyD d = "str"
      · obtain ⟨x, rfl⟩ := ty_str ht
        refine iteT ⟨_, rfl, p, v, _, a, b, rfl, hd, hf, hn, k⟩
      · rw [decide_eq_false ht]
        refine iteF ?_
        refine ⟨_, rfl, rfl, _, rfl, ?_⟩
        by_cases h1 : n = 0
        · subst h1
          rw [decide_eq_true (show V.int z = V.int 1 from by rw [hz]; rfl)]
          refine iteT ?_
          refine iteT ?_
          have z := k H (Same.refl H)
          rw [kind_no ht (.inl rfl)] at z
          exact z
        · rw [decide_eq_false (show ¬ V.int z = V.int 1 from fun e => by injection e with e; omega)]
          refine iteF ?_
          refine ⟨_, rfl, p, v, d, 3, 3, rfl, hd, _, rfl, ?_⟩
          cases hrow : isRowD d 3 3 with
          | false =>
            refine iteT ?_
            refine iteT ?_
            have z := k H (Same.refl H)
            rw [kind_no ht (.inr hrow)] at z
            exact z
          | true =>
            refine iteF ?_
            obtain ⟨sg, x, y, rfl⟩ := row3 hrow
            obtain ⟨t, vs, vx, vy, rfl, hT, ds, dx, dy⟩ := hd.tup3
            obtain ⟨fs, fx, fy⟩ := fit3 hf
            refine ⟨_, rfl, t, _, 0, vs, rfl, rfl, hT, rfl, le_line (by show 2 ≤ 100000; decide), fun q hq => ?_⟩
            have s1 : Same H (upd H q (.tup [V.str ">", V.str "*"])) := same_new hq
            refine ⟨p, q, signs2, sg, rfl, SqT.of upd_same, ds.same s1, _, rfl, ?_⟩
            cases hm : memD sg signs2 with
            | false =>
              refine iteT ?_
              have z := k _ s1
              rw [kind_tup, hm, Bool.and_false, Bool.false_and, Bool.false_and] at z
              exact z
            | true =>
              refine iteF ?_
              have e : kindW (n + 1) (.tuple [sg, x, y]) = (kindW n x && kindW n y) := by
                rw [kind_tup, hm, decide_eq_true h1]
                rfl
              rw [e] at k
              refine ⟨_, rfl, t, _, 1, vx, rfl, rfl, sqT_same s1 hT, rfl, _, rfl, _, _, rfl, rfl, p, vx, x, a, b, _, rfl, by omega, by omega, dx.same s1, fx, hn, fun H2 s2 => ⟨_, rfl, ?_⟩⟩
              cases hx : kindW n x with
              | false =>
                refine iteF ?_
                have z := k _ (s1.trans s2)
                rw [hx, Bool.false_and] at z
                exact z
              | true =>
                refine iteT ?_
                refine ⟨_, rfl, t, _, 2, vy, rfl, rfl, sqT_same s2 (sqT_same s1 hT), rfl, _, rfl, _, _, rfl, rfl, p, vy, y, a, b, _, rfl, by omega, by omega, (dy.same s1).same s2, fy, hn, fun H3 s3 => ?_⟩
                have z := k _ ((s1.trans s2).trans s3)
                rw [hx, Bool.true_and] at z
                exact z
theorem ok_is_kind (D : DefAt K mg "is_kind" s_is_kind ["thing"]) (T : Bl mg) (G_MOST_KINDS_WITHIN : GV mg "MOST_KINDS_WITHIN" (.int 6)) (C_is_kind_within : CallOk P w K mg base 7 "is_kind_within" ["thing", "most"] (spKindW K 6)) :
    CallOk P w K mg base 8 "is_kind" ["thing"] (spKind K) := by
  refine D.ok sc_is_kind (fun vs H Q E h => ?_) (fun f cdv A outer s H vs Q E hr h => ?_)
  · obtain ⟨p, v, d, n, m, rfl, _⟩ := h
    rfl
  · obtain ⟨p, v, d, n, m, rfl, hd, hf, hn, k⟩ := h
    refine ⟨_, (pss_one (ps_ret (pe_callOk C_is_kind_within hr (by omega) (by rfl) (pa_cons (pv 0) (pa_cons (pe_gv G_MOST_KINDS_WITHIN rfl) pa_nil))))), ?_⟩
    exact ⟨_, rfl, p, v, d, n, m, 6, rfl, rfl, by decide, hd, hf, hn, k⟩
end

section
variable {P : Program} {w : World} {K : PySem.W.Frag} {mg : Str → Option Value} {base : Heap}
theorem ok_is_shown (D : DefAt K mg "is_shown" s_is_shown ["kind"]) (T : Bl mg) : ∀ n : Nat, CallOk P w K mg base (n + 1) "is_shown" ["kind"] (spShown K false n)
  | 0 => (D.none sc_is_shown).imp fun vs H Q E h => by
    obtain ⟨p, v, d, _, _, h0, _⟩ := h
    cases h0
  | n + 1 => by
    have C_is_shown := ok_is_shown D T n
    refine D.ok sc_is_shown (fun vs H Q E h => ?_) (fun f cdv A outer s H vs Q E hr h => ?_)
    · obtain ⟨p, v, d, rfl, _⟩ := h
      rfl
    · obtain ⟨p, v, d, rfl, hd, hk, k⟩ := h
      refine ⟨_, (pss_cons (ps_if (pt_val (pe_callB call_isD (by rfl) T.isinstance_ (by decide +kernel) (pa_cons (pv 0) (pa_cons (pe_bltn (v := .ty "str") (by rfl) T.str_ (by decide +kernel) rfl) pa_nil)))) (pss_one (ps_ret pe_bl)) pss_nil)
        (pss_one (ps_ret (pe_and (pe_cmpR op_ne (pe_ix ix_tup (pv 0) pe_int (fun _ _ => rfl)) pe_str (nomark _)) (pe_and (pe_callOk C_is_shown hr (by omega) (by rfl) (pa_cons (pe_ix ix_tup (pv 0) pe_int (fun _ _ => rfl)) pa_nil)) (pe_one (pe_callOk C_is_shown hr (by omega) (by rfl) (pa_cons (pe_ix ix_tup (pv 0) pe_int (fun _ _ => rfl)) pa_nil)))))))), ?_⟩
      rw [if_neg Bool.false_ne_true] at k
      rcases kind_cases hk with ⟨x, rfl⟩ | ⟨m, sg, a, b, hm, rfl, hs, ha, hb⟩
      · refine ⟨_, rfl, p, v, _, "str", rfl, hd, .inl rfl, _, rfl, ?_⟩
        refine iteT ?_
        rw [shown_str] at k
        exact k
      · obtain rfl : n = m := by omega
        refine ⟨_, rfl, p, v, _, "str", rfl, hd, .inl rfl, _, rfl, ?_⟩
        refine iteF ?_
        obtain ⟨t, vs, vx, vy, rfl, hT, ds, dx, dy⟩ := hd.tup3
        cases ds.strInv
        rw [shown_tup, mem_one] at k
        refine ⟨_, rfl, t, _, 0, _, rfl, rfl, hT, rfl, rfl, _, rfl, ?_⟩
        by_cases c : sg = Str.ofString ">"
        · rw [decide_eq_true c] at k
          rw [show decide (V.str sg = V.str (Str.ofString ">")) = true from decide_eq_true (congrArg V.str c)]
          exact iteF k
        · rw [decide_eq_false c] at k
          rw [show decide (V.str sg = V.str (Str.ofString ">")) = false from decide_eq_false (fun e => c (by injection e))]
          refine iteT ?_
          refine ⟨_, rfl, t, _, 1, vx, rfl, rfl, hT, rfl, p, vx, a, rfl, dx, ha, ?_⟩
          rw [if_neg Bool.false_ne_true]
          refine ⟨_, rfl, ?_⟩
          cases ea : shownW n a with
          | false =>
            rw [ea] at k
            exact iteF k
          | true =>
            rw [ea] at k
            refine iteT ?_
            refine ⟨_, rfl, t, _, 2, vy, rfl, rfl, hT, rfl, p, vy, b, rfl, dy, hb, ?_⟩
            rw [if_neg Bool.false_ne_true]
            exact k
theorem ok_has (D : DefAt K mg "_law_has" s_law_has ["_law_kind"]) (T : Bl mg) : ∀ n : Nat, CallOk P w K mg base (n + 1) "_law_has" ["_law_kind"] (spShown K true n)
  | 0 => (D.none sc_law_has).imp fun vs H Q E h => by
    obtain ⟨p, v, d, _, _, h0, _⟩ := h
    cases h0
  | n + 1 => by
    have C_law_has := ok_has D T n
    refine D.ok sc_law_has (fun vs H Q E h => ?_) (fun f cdv A outer s H vs Q E hr h => ?_)
    · obtain ⟨p, v, d, rfl, _⟩ := h
      rfl
    · obtain ⟨p, v, d, rfl, hd, hk, k⟩ := h
      refine ⟨_, (pss_one (ps_ret (pe_and (pe_not (pe_callB call_isD (by rfl) T.isinstance_ (by decide +kernel) (pa_cons (pv 0) (pa_cons (pe_bltn (v := .ty "str") (by rfl) T.str_ (by decide +kernel) rfl) pa_nil)))) (pe_one (pe_or (pe_cmpR op_eq (pe_ix ix_tup (pv 0) pe_int (fun _ _ => rfl)) pe_str (nomark _)) (pe_or (pe_callOk C_law_has hr (by omega) (by rfl) (pa_cons (pe_ix ix_tup (pv 0) pe_int (fun _ _ => rfl)) pa_nil)) (pe_one (pe_callOk C_law_has hr (by omega) (by rfl) (pa_cons (pe_ix ix_tup (pv 0) pe_int (fun _ _ => rfl)) pa_nil))))))))), ?_⟩
      rw [if_pos rfl] at k
      rcases kind_cases hk with ⟨x, rfl⟩ | ⟨m, sg, a, b, hm, rfl, hs, ha, hb⟩
      · refine ⟨_, rfl, p, v, _, "str", rfl, hd, .inl rfl, _, rfl, _, rfl, ?_⟩
        refine iteF ?_
        rw [shown_str] at k
        exact k
      · obtain rfl : n = m := by omega
        refine ⟨_, rfl, p, v, _, "str", rfl, hd, .inl rfl, _, rfl, _, rfl, ?_⟩
        refine iteT ?_
        obtain ⟨t, vs, vx, vy, rfl, hT, ds, dx, dy⟩ := hd.tup3
        cases ds.strInv
        rw [shown_tup, mem_one] at k
        refine ⟨_, rfl, t, _, 0, _, rfl, rfl, hT, rfl, rfl, _, rfl, ?_⟩
        by_cases c : sg = Str.ofString ">"
        · rw [decide_eq_true c] at k
          rw [show decide (V.str sg = V.str (Str.ofString ">")) = true from decide_eq_true (congrArg V.str c)]
          exact iteT k
        · rw [decide_eq_false c] at k
          rw [show decide (V.str sg = V.str (Str.ofString ">")) = false from decide_eq_false (fun e => c (by injection e))]
          refine iteF ?_
          refine ⟨_, rfl, t, _, 1, vx, rfl, rfl, hT, rfl, p, vx, a, rfl, dx, ha, ?_⟩
          rw [if_pos rfl]
          refine ⟨_, rfl, ?_⟩
          cases ea : shownW n a with
          | false =>
            rw [ea] at k
            exact iteT k
          | true =>
            rw [ea] at k
            refine iteF ?_
            refine ⟨_, rfl, t, _, 2, vy, rfl, rfl, hT, rfl, p, vy, b, rfl, dy, hb, ?_⟩
            rw [if_pos rfl]
            exact k
theorem ok_law_is_kind (D : DefAt K mg "_law_is_kind" s_law_is_kind ["_law_thing", "_law_deep"]) (T : Bl mg) (C_law_is_name : CallOk P w K mg base 1 "_law_is_name" ["_law_thing"] (spIsName K)) :
    ∀ n : Nat, CallOk P w K mg base (n + 1) "_law_is_kind" ["_law_thing", "_law_deep"] (spKindW K n)
  | 0 => (D.none sc_law_is_kind).imp fun vs H Q E h => by
    obtain ⟨p, v, d, n, m, z, _, _, h0, _⟩ := h
    omega
  | n + 1 => by
    have C_law_is_kind := ok_law_is_kind D T C_law_is_name n
    refine D.ok sc_law_is_kind (fun vs H Q E h => ?_) (fun f cdv A outer s H vs Q E hr h => ?_)
    · obtain ⟨p, v, d, a, b, z, rfl, _⟩ := h
      rfl
    · obtain ⟨p, v, d, a, b, z, rfl, hz, _, hd, hf, hn, k⟩ := h
      refine ⟨_, (pss_cons (ps_if (pt_val (pe_callOk C_law_is_name hr (by omega) (by rfl) (pa_cons (pv 0) pa_nil))) (pss_one (ps_ret (pe_cmpR op_gt (pv 1) pe_int (nomark _)))) pss_nil)
        (pss_cons (ps_if (PW.pt (pw_or (pt_cmpR op_le (pv 1) pe_int (nomark _)) (pw_or (pt_not (pt_val (pe_callB call_isD (by rfl) T.isinstance_ (by decide +kernel) (pa_cons (pv 0) (pa_cons (pe_bltn (v := .ty "tuple") (by rfl) T.tuple_ (by decide +kernel) rfl) pa_nil))))) (pw_or (pt_cmpR op_ne (pe_callB call_len (by rfl) T.len_ (by decide +kernel) (pa_cons (pv 0) pa_nil)) pe_int (nomark _)) (pw_or1 (pt_cmpR (op_notInT hr.units) (pe_ix ix_tup (pv 0) pe_int (fun _ _ => rfl)) (pe_tup (pa_cons pe_str (pa_cons pe_str pa_nil))) (by rfl))))))) (pss_one (ps_ret pe_bl)) pss_nil)
        (pss_one (ps_ret (pe_and (pe_callOk C_law_is_kind hr (by omega) (by rfl) (pa_cons (pe_ix ix_tup (pv 0) pe_int (fun _ _ => rfl)) (pa_cons (pe_op op_sub (pv 1) pe_int) pa_nil))) (pe_one (pe_callOk C_law_is_kind hr (by omega) (by rfl) (pa_cons (pe_ix ix_tup (pv 0) pe_int (fun _ _ => rfl)) (pa_cons (pe_op op_sub (pv 1) pe_int) pa_nil))))))))), ?_⟩
      refine ⟨_, rfl, p, v, d, a, b, rfl, hd, hf, hn, fun H1 s1 => ⟨_, rfl, ?_⟩⟩
      cases hnm : isNameD d with
      | true =>
        refine iteT ⟨_, rfl, _, _, rfl, rfl, ?_⟩
        have e : kindW (n + 1) d = true := by
          cases d with
          | str x => exact hnm
          | _ => cases hnm
        have q := k _ s1
        rw [e] at q
        show Q (.bl (decide (0 < z))) H1
        rw [show decide (0 < z) = true from decide_eq_true (by omega)]
        exact q
      | false =>
        refine iteF ?_
        by_cases ht : tyD d = "str"
        · obtain ⟨x, rfl⟩ := ty_str ht
          have e : kindW (n + 1) (.str x) = false := hnm
          have q := k _ s1
          rw [e] at q
          refine ⟨_, rfl, _, _, rfl, rfl, _, rfl, ?_⟩
          refine ite2 (fun _ => iteT q) (fun _ => ?_)
          refine ⟨_, rfl, p, v, _, "tuple", rfl, hd.same s1, .inr (.inl rfl), _, rfl, ?_⟩
          exact iteT (iteT q)
        · refine ⟨_, rfl, _, _, rfl, rfl, _, rfl, ?_⟩
          by_cases h1 : n = 0
          · rw [show decide (z ≤ 1) = true from decide_eq_true (by omega)]
            have q := k _ s1
            rw [kind_no ht (.inl h1)] at q
            exact iteT (iteT q)
          · rw [show decide (z ≤ 1) = false from decide_eq_false (by omega)]
            refine iteF ?_
            refine ⟨_, rfl, p, v, d, "tuple", rfl, hd.same s1, .inr (.inl rfl), _, rfl, ?_⟩
            by_cases htt : tyD d = "tuple"
            · obtain ⟨dl, rfl⟩ := ty_tup htt
              obtain ⟨t, xs, rfl, hT0, hA0⟩ := (hd.same s1).tupInv
              refine iteF ?_
              refine ⟨_, rfl, _, _, rfl, .inr ⟨_, hT0, rfl⟩, rfl, _, rfl, ?_⟩
              rw [hA0.length]
              cases hrow : isRowD (.tuple dl) 3 3 with
              | false =>
                have hl : ¬ dl.length = 3 := fun e => by simp [isRowD, e] at hrow
                rw [show decide (V.int (dl.length : Int) = V.int 3) = false from decide_eq_false (fun e => hl (by injection e with e; omega))]
                have q := k _ s1
                rw [kind_no ht (.inr hrow)] at q
                exact iteT (iteT q)
              | true =>
                obtain ⟨sg, x, y, e3⟩ := row3 hrow
                obtain rfl : dl = [sg, x, y] := by injection e3
                refine iteF ?_
                obtain ⟨t, vs, vx, vy, e, hT, ds, dx, dy⟩ := (hd.same s1).tup3
                obtain rfl : _ = t := by injection e
                obtain ⟨fs, fx, fy⟩ := fit3 hf
                refine ⟨_, rfl, t, _, 0, vs, rfl, rfl, hT, rfl, le_line (by show 2 ≤ 100000; decide), fun q hq => ?_⟩
                have s2 : Same H1 (upd H1 q (.tup [V.str ">", V.str "*"])) := same_new hq
                refine ⟨p, q, signs2, sg, rfl, SqT.of upd_same, ds.same s2, _, rfl, ?_⟩
                cases hm : memD sg signs2 with
                | false =>
                  have z := k _ (s1.trans s2)
                  rw [kind_tup, hm, Bool.and_false, Bool.false_and, Bool.false_and] at z
                  exact iteT z
                | true =>
                  refine iteF ?_
                  have e : kindW (n + 1) (.tuple [sg, x, y]) = (kindW n x && kindW n y) := by
                    rw [kind_tup, hm, decide_eq_true h1]
                    rfl
                  rw [e] at k
                  refine ⟨_, rfl, t, _, 1, vx, rfl, rfl, sqT_same s2 hT, rfl, _, rfl, _, _, rfl, rfl, p, vx, x, a, b, _, rfl, by omega, by omega, dx.same s2, fx, hn, fun H2 s3 => ⟨_, rfl, ?_⟩⟩
                  cases hx : kindW n x with
                  | false =>
                    refine iteF ?_
                    have z := k _ ((s1.trans s2).trans s3)
                    rw [hx, Bool.false_and] at z
                    exact z
                  | true =>
                    refine iteT ?_
                    refine ⟨_, rfl, t, _, 2, vy, rfl, rfl, sqT_same s3 (sqT_same s2 hT), rfl, _, rfl, _, _, rfl, rfl, p, vy, y, a, b, _, rfl, by omega, by omega, (dy.same s2).same s3, fy, hn, fun H3 s4 => ?_⟩
                    have z := k _ (((s1.trans s2).trans s3).trans s4)
                    rw [hx, Bool.true_and] at z
                    exact z
            · rw [decide_eq_false htt]
              have hrow : isRowD d 3 3 = false := by
                cases d <;> simp [isRowD, tyD] at htt ⊢
              have q := k _ s1
              rw [kind_no ht (.inr hrow)] at q
              exact iteT (iteT q)
theorem ok_truth (D : DefAt K mg "_law_truth" s_law_truth ["_law_found", "_law_due"]) (T : Bl mg) : CallOk P w K mg base 1 "_law_truth" ["_law_found", "_law_due"] spTruth := by
  refine D.ok sc_law_truth (fun vs H Q E h => ?_) (fun f cdv A outer s H vs Q E hr h => ?_)
  · obtain ⟨a, b, rfl, _⟩ := h
    rfl
  · obtain ⟨a, b, rfl, k⟩ := h
    refine ⟨_, (pss_one (ps_ret (pe_and (pe_callB call_isD (by rfl) T.isinstance_ (by decide +kernel) (pa_cons (pv 0) (pa_cons (pe_bltn (v := .ty "bool") (by rfl) T.bool_ (by decide +kernel) rfl) pa_nil))) (pe_one (pe_cmpR op_eq (pv 0) (pv 1) (nomark _)))))), ?_⟩
    refine ⟨_, rfl, (fun _ => False), _, _, "bool", rfl, .bl a, .inr (.inr rfl), _, rfl, ?_⟩
    refine iteT ⟨_, rfl, _, rfl, rfl, ?_⟩
    have e : decide (V.bl a = V.bl b) = decide (a = b) := by
      by_cases c : a = b
      · subst c
        simp
      · rw [decide_eq_false c]
        exact decide_eq_false fun z => c (by injection z)
    show Q (.bl (decide (V.bl a = V.bl b))) H
    rw [e]
    exact k
end

section
variable {P : Program} {w : World} {K : PySem.W.Frag} {mg : Str → Option Value} {base : Heap}
theorem ok_any (D : DefAt K mg "_law_any" s_law_any ["_law_pen_here", "_law_deep"]) (T : Bl mg) (C_law_draw : CallOk P w K mg base 2 "_law_draw" ["_law_pen_here", "_law_below"] spDraw) :
    ∀ n : Nat, CallOk P w K mg base (n + 3) "_law_any" ["_law_pen_here", "_law_deep"] (spAny K n) := by
  -- the whole body, from the deeper one (none at 0)
  have body : ∀ (n : Nat) (sp' : Sp), CallOk P w K mg base (n + 2) "_law_any" ["_law_pen_here", "_law_deep"] sp' → (∀ m, n = m + 1 → sp' = spAny K m) → CallOk P w K mg base (n + 3) "_law_any" ["_law_pen_here", "_law_deep"] (spAny K n) := by
    intro n sp' C_law_any hsp
    refine D.ok sc_law_any (fun vs H Q E h => ?_) (fun f cdv A outer s H vs Q E hr h => ?_)
    · obtain ⟨p, c, z, rfl, _⟩ := h
      rfl
    · obtain ⟨p, c, z, rfl, hz, hn4, hP, k⟩ := h
      refine ⟨_, (pss_cons (ps_set (i := 2) sc_law_any.nd rfl (Or.inl rfl) (pe_callOk C_law_draw hr (by omega) (by rfl) (pa_cons (pv 0) (pa_cons (pe_ifExp (pt_cmpR op_gt (pv 1) pe_int (nomark _)) pe_int pe_int) pa_nil))))
        (pss_cons (ps_if (pt_cmpR op_lt (pv 2) pe_int (nomark _)) (pss_one (ps_ret (pe_ix ix_list (pe_lst (pa_cons pe_int (pa_cons pe_bl (pa_cons pe_non (pa_cons pe_str (pa_cons pe_str (pa_cons pe_str (pa_cons pe_str (pa_cons pe_str (pa_cons (pe_un un_neg (pe_op op_pow pe_int pe_int)) (pa_cons pe_str pa_nil))))))))))) (pv 2) (fun _ _ => rfl)))) pss_nil)
        (pss_cons (ps_setLc (i := 3) (own := [("_law_turn", 4)]) (g := gName 4) (tt := tYes) rfl sc_law_any.nd rfl rfl (sw_true rfl rfl rfl (by decide +kernel)) (pi_range1 (by rfl) T.range_ (pa_cons (pe_callOk C_law_draw hr (by omega) (by rfl) (pa_cons (pv 0) (pa_cons pe_int pa_nil))) pa_nil)) (blkOk_by (N := sl_law_any) (sc := defScope s_law_any) (by decide +kernel)) (fun _ _ _ _ _ => pg_name (i := 4) sc_law_any.nd rfl (Or.inl rfl)) (fun _ _ _ _ _ => pts_nil) (fun _ _ _ _ _ => (pe_callOk C_law_any hr (by omega) (by rfl) (pa_cons (pv 0) (pa_cons (pe_op op_sub (pv 1) pe_int) pa_nil)))))
        (pss_cons (ps_if (pt_cmpR op_eq (pv 2) pe_int (nomark _)) (pss_one (ps_ret (pv 3))) pss_nil)
        (pss_cons (ps_if (pt_cmpR op_eq (pv 2) pe_int (nomark _)) (pss_one (ps_ret (pe_disp (pps_cons pe_str (pv 3) pps_nil) (by rfl) (by rfl) (fun z => by cases z) (by decide)))) pss_nil)
        (pss_one (ps_ret (pe_callTy call_tuple_of (by rfl) T.tuple_ (by decide +kernel) (pa_cons (pv 3) pa_nil))))))))), ?_⟩
      refine ⟨_, rfl, _, rfl, _, _, rfl, rfl, _, rfl, ?_⟩
      by_cases hz0 : 0 < z
      · obtain ⟨n', rfl⟩ : ∃ n', n = n' + 1 := ⟨n - 1, by omega⟩
        obtain rfl := hsp n' rfl
        rw [decide_eq_true hz0]
        refine iteT ⟨p, c, 14, rfl, hP, by decide, by decide, fun m H1 m0 m1 hP1 k1 => ?_⟩
        refine ⟨_, rfl, _, _, rfl, rfl, _, rfl, ?_⟩
        by_cases h10 : m < 10
        · rw [decide_eq_true h10]
          refine iteT ?_
          obtain ⟨v, d, hv, hd, hf⟩ := any_at m0 h10
          refine ⟨_, _, rfl, rfl, ⟨by decide, by decide, by decide⟩, _, rfl, le_line (by show 10 ≤ 100000; decide), fun q hq => ?_⟩
          refine ⟨_, rfl, q, _, m, v, rfl, rfl, SqL.of upd_same, hv, ?_⟩
          refine k v d _ (hd _ _ _) (hf.le ?_ (Nat.zero_le _)) (hP1.new hq) (k1.lay hq)
          show 60 ≤ 5 * (bAny n' + 2) + 20
          have := bAny_ge n'
          omega
        · rw [decide_eq_false h10]
          refine iteF ?_
          refine ⟨_, rfl, p, c, 6, rfl, hP1, by decide, by decide, fun many H2 l0 l1 hP2 k2 => ⟨many, rfl, by omega, by omega, fun L hL => ?_⟩⟩
          have kL : Kp p H (upd H2 L (.lst [])) := (k1.trans k2).lay hL
          have hPL : Pen (upd H2 L (.lst [])) p c := hP2.new hL
          have nLp : L ≠ p := hP2.neP hL
          have nLc : L ≠ c := hP2.neC hL
          have hL0 : H L = none := (k1.trans k2).none hL nLp
          have tk0 : ∀ a, Tk H a → Tk (upd H2 L (.lst [])) a := Tk.kp kL hPL.tk
          refine lc_range (lo := 0) (n := many.toNat) (fun i H' => ∃ vs ds, H' L = some (.lst vs) ∧ DaAll K (Tk (upd H2 L (.lst []))) H' vs ds ∧ ds.length = i ∧ (∀ e ∈ ds, Fit (bAny n') (2 * n') e) ∧ Pen H' p c ∧ Kp p H H' ∧ (∀ a, Tk (upd H2 L (.lst [])) a → Tk H' a))
            ⟨[], [], upd_same, .nil, rfl, fun _ z => (nomatch z), hPL, kL, fun _ z => z⟩ ?_ ?_
          · rintro i H3 hi ⟨vs, ds, g1, g2, g3, g4, g5, g6, g7⟩
            refine ⟨rfl, ?_⟩
            simp only [tYes, if_true]
            refine ⟨_, rfl, _, rfl, _, _, rfl, rfl, p, c, _, rfl, by omega, by omega, g5, fun v d H4 hd hf hP4 k4 => ?_⟩
            have e1 : H4 L = some (.lst vs) := k4 _ _ g1 nLp
            have q4 : DaAll K (Tk (upd H2 L (.lst []))) H4 vs ds := g2.kp k4 g5.noTup hPL.tk
            have d4 : Da K (Tk (upd H2 L (.lst []))) H4 v d := hd.less g7
            have t4 : ∀ a, Tk (upd H2 L (.lst [])) a → Tk H4 a := fun a z => Tk.kp k4 hP4.tk a (g7 a z)
            refine ⟨vs, e1, ?_, vs ++ [v], ds ++ [d], upd_same, ?_, ?_, ?_, hP4.keep nLp nLc, (g6.trans k4).mut hL0, ?_⟩
            · rw [g2.length, g3]
              exact lt_line (by omega)
            · exact (q4.append (.cons d4 .nil)).put e1 (fun _ => by simp) (fun _ _ => by simp) (Tk.of upd_same)
            · rw [List.length_append, g3]
              rfl
            · intro e he
              rcases List.mem_append.mp he with he | he
              · exact g4 e he
              · rw [List.mem_singleton.mp he]
                exact hf
            · intro a z
              by_cases ea : a = L
              · rw [ea]
                exact Tk.of upd_same
              · intro y
                rw [upd_ne ea] at y
                exact t4 a z y
          · rintro H3 ⟨vs, ds, g1, g2, g3, g4, g5, g6, g7⟩
            have fa : FitAll (5 * (bAny n' + 2)) (2 * n') ds := by
              have r := FitAll.rep (n := bAny n') (m := 2 * n') (d := .none) ⟨by rw [PyData.showable], by rw [Ow.wt]; have := bAny_ge n'; omega, by simp only [PyData.depth]; exact Nat.zero_le _⟩ ds.length rfl g4
              refine r.le ?_ (Nat.le_refl _)
              exact Nat.mul_le_mul_right _ (by omega)
            have g2' : DaAll K (Tk H) H3 vs ds := g2.less tk0
            have nL : ¬ Tk H L := fun z => z hL0
            have dl : Da K (Tk H) H3 (.ref L) (.list ds) := .lst g1 nL g2'
            have fl : Fit (5 * (bAny n' + 2) + 4) (2 * n' + 1) (.list ds) := Fit.lst fa
            refine ⟨_, rfl, rfl, _, rfl, ?_⟩
            by_cases e10 : m = 10
            · subst e10
              refine iteT ⟨_, rfl, k _ _ H3 dl (fl.le ?_ ?_) g5 g6⟩
              · show _ ≤ 5 * (bAny n' + 2) + 20
                omega
              · omega
            · rw [decide_eq_false (show ¬ V.int m = V.int 10 from fun e => e10 (by injection e))]
              refine iteF ?_
              refine ⟨_, rfl, rfl, _, rfl, ?_⟩
              by_cases e11 : m = 11
              · subst e11
                refine iteT ?_
                refine fun q hq => ?_
                have hq3 : H3 q = none := hq
                have nqL : L ≠ q := ne_of_none g1 hq
                refine ⟨_, rfl, upd_same, [(Sum.inr (Str.ofString "x"), .ref L)], rfl, (by show 1 ≤ 15; decide), ?_⟩
                rw [upd_upd]
                have dq : Da K (Tk H) (upd H3 q (.dK [(Sum.inr (Str.ofString "x"), .ref L)])) (.ref q) (.dict [(.str (Str.ofString "x"), .list ds)]) := by
                  refine .dct (kvs := [(Sum.inr (Str.ofString "x"), .ref L)]) (ds := [.list ds]) upd_same (fun z => z (g6.none hq (g5.neP hq))) (.cons ?_ .nil)
                  exact dl.same (same_new hq)
                refine k _ _ _ dq ?_ (g5.new hq) (g6.lay hq)
                have w1 := fl.wt
                have w2 := fl.dp
                refine ⟨?_, ?_, ?_⟩
                · simp only [PyData.showable, PyData.showableKv]
                  have := fl.sh
                  rw [PyData.showable] at this
                  rw [this]
                  rfl
                · rw [Ow.wt, wtKv, wtKv]
                  have e : wt (.str (Str.ofString "x")) = 4 := by decide +kernel
                  rw [e]
                  show _ ≤ 5 * (bAny n' + 2) + 20
                  omega
                · simp only [PyData.depth, PyData.depthKv] at w2 ⊢
                  omega
              · rw [decide_eq_false (show ¬ V.int m = V.int 11 from fun e => e11 (by injection e))]
                refine iteF ?_
                refine ⟨_, rfl, L, vs, rfl, .inl ⟨SqL.of g1, fun q hq => ?_⟩⟩
                have dq : Da K (Tk H) (upd H3 q (.tup vs)) (.ref q) (.tuple ds) := .tup (SqT.of upd_same) (g2'.same (same_new hq))
                exact k _ _ _ dq ((Fit.tup fa).le (by show _ ≤ 5 * (bAny n' + 2) + 20; omega) (by omega)) (g5.new hq) (g6.lay hq)
      · obtain rfl : n = 0 := by omega
        rw [decide_eq_false hz0]
        refine iteF ⟨p, c, 10, rfl, hP, by decide, by decide, fun m H1 m0 m1 hP1 k1 => ?_⟩
        refine ⟨_, rfl, _, _, rfl, rfl, _, rfl, ?_⟩
        rw [decide_eq_true m1]
        refine iteT ?_
        obtain ⟨v, d, hv, hd, hf⟩ := any_at m0 m1
        refine ⟨_, _, rfl, rfl, ⟨by decide, by decide, by decide⟩, _, rfl, le_line (by show 10 ≤ 100000; decide), fun q hq => ?_⟩
        refine ⟨_, rfl, q, _, m, v, rfl, rfl, SqL.of upd_same, hv, ?_⟩
        exact k v d _ (hd _ _ _) hf (hP1.new hq) (k1.lay hq)
  intro n
  induction n with
  | zero => exact body 0 _ ((D.none sc_law_any).mono (by decide)) (fun m e => by omega)
  | succ n ih => exact body (n + 1) _ ih (fun m e => by
      obtain rfl : n = m := by omega
      rfl)
end

section
variable {P : Program} {w : World} {K : PySem.W.Frag} {mg : Str → Option Value} {base : Heap}
theorem ok_rough_kind (D : DefAt K mg "_law_rough_kind" s_law_rough_kind ["_law_pen_here", "_law_deep"]) (T : Bl mg) (C_law_draw : CallOk P w K mg base 2 "_law_draw" ["_law_pen_here", "_law_below"] spDraw)
    (C_law_name : CallOk P w K mg base 3 "_law_name" ["_law_pen_here", "_law_gone"] spName) : ∀ n : Nat, CallOk P w K mg base (n + 4) "_law_rough_kind" ["_law_pen_here", "_law_deep"] (spRough K n) := by
  have body : ∀ (n : Nat) (sp' : Sp), CallOk P w K mg base (n + 3) "_law_rough_kind" ["_law_pen_here", "_law_deep"] sp' → (∀ m, n = m + 1 → sp' = spRough K m) → CallOk P w K mg base (n + 4) "_law_rough_kind" ["_law_pen_here", "_law_deep"] (spRough K n) := by
    intro n sp' C_law_rough_kind hsp
    refine D.ok sc_law_rough_kind (fun vs H Q E h => ?_) (fun f cdv A outer s H vs Q E hr h => ?_)
    · obtain ⟨p, c, z, rfl, _⟩ := h
      rfl
    · obtain ⟨p, c, z, rfl, hz, hn6, hP, k⟩ := h
      refine ⟨_, (pss_cons (ps_if (PW.pt (pw_or (pt_cmpR op_le (pv 1) pe_int (nomark _)) (pw_or1 (pt_cmpR op_eq (pe_callOk C_law_draw hr (by omega) (by rfl) (pa_cons (pv 0) (pa_cons pe_int pa_nil))) pe_int (nomark _))))) (pss_one (ps_ret (pe_callOk C_law_name hr (by omega) (by rfl) (pa_cons (pv 0) (pa_cons (pe_lst pa_nil) pa_nil))))) pss_nil)
        (pss_cons (ps_set (i := 2) sc_law_rough_kind.nd rfl (Or.inl rfl) (pe_ix ix_list (pe_lst (pa_cons pe_str (pa_cons pe_str pa_nil))) (pe_callOk C_law_draw hr (by omega) (by rfl) (pa_cons (pv 0) (pa_cons pe_int pa_nil))) (fun _ _ => rfl)))
        (pss_one (ps_ret (pe_tup (pa_cons (pv 2) (pa_cons (pe_callOk C_law_rough_kind hr (by omega) (by rfl) (pa_cons (pv 0) (pa_cons (pe_op op_sub (pv 1) pe_int) pa_nil))) (pa_cons (pe_callOk C_law_rough_kind hr (by omega) (by rfl) (pa_cons (pv 0) (pa_cons (pe_op op_sub (pv 1) pe_int) pa_nil))) pa_nil)))))))), ?_⟩
      have named : ∀ H1 : Hp, Pen H1 p c → Kp p H H1 → ∀ q, H1 q = none → spName [.ref p, .ref q] (upd H1 q (.lst [])) Q E0 := fun H1 hP1 k1 q hq =>
        ⟨p, c, q, [], rfl, hP1.new hq, upd_same, hP1.neP hq, by decide, fun x H2 hx hP2 k2 => k (.str x) (.str x) H2 (.str x) ((fit_nm hx).le (bKind_ge n) (Nat.zero_le _)) hP2 ((k1.lay hq).trans k2)⟩
      refine ⟨_, rfl, _, _, rfl, rfl, _, rfl, ?_⟩
      by_cases h0 : z ≤ 0
      · rw [decide_eq_true h0]
        refine iteT (iteT ?_)
        exact ⟨_, rfl, Nat.zero_le _, fun q hq => named H hP Kp.refl q hq⟩
      · obtain ⟨n', rfl⟩ : ∃ n', n = n' + 1 := ⟨n - 1, by omega⟩
        obtain rfl := hsp n' rfl
        rw [decide_eq_false h0]
        refine iteF ?_
        refine ⟨_, rfl, p, c, 2, rfl, hP, by decide, by decide, fun m H1 m0 m1 hP1 k1 => ⟨rfl, _, rfl, ?_⟩⟩
        by_cases e0 : m = 0
        · subst e0
          refine iteT ?_
          exact ⟨_, rfl, Nat.zero_le _, fun q hq => named H1 hP1 k1 q hq⟩
        · rw [decide_eq_false (show ¬ V.int m = V.int 0 from fun e => e0 (by injection e))]
          refine iteF ?_
          refine ⟨le_line (by show 2 ≤ 100000; decide), fun q hq => ?_⟩
          refine ⟨_, rfl, p, c, 2, rfl, hP1.new hq, by decide, by decide, fun l H2 l0 l1 hP2 k2 => ?_⟩
          obtain ⟨x, hx, fx, _⟩ := sign_at l0 l1
          have kq : Kp p H H2 := (k1.lay hq).trans k2
          refine ⟨q, _, l, .str x, rfl, rfl, SqL.of (k2 _ _ upd_same (hP1.neP hq)), hx, ?_⟩
          refine ⟨_, rfl, _, rfl, _, rfl, _, _, rfl, rfl, p, c, _, rfl, by omega, by omega, hP2, fun va a H3 ha fa hP3 k3 => ?_⟩
          refine ⟨_, rfl, _, rfl, _, _, rfl, rfl, p, c, _, rfl, by omega, by omega, hP3, fun vb b H4 hb fb hP4 k4 => ?_⟩
          refine ⟨le_line (by show 3 ≤ 100000; decide), fun t ht => ?_⟩
          have k04 : Kp p H H4 := (kq.trans k3).trans k4
          have da : Da K All H4 va a := ha.kp k4 hP3.noTup trivial
          have dt : Da K All (upd H4 t (.tup [.str x, va, vb])) (.ref t) (.tuple [.str x, a, b]) :=
            .tup (SqT.of upd_same) (.cons (.str x) (.cons (da.same (same_new ht)) (.cons (hb.same (same_new ht)) .nil)))
          refine k _ _ _ dt ?_ (hP4.new ht) (k04.lay ht)
          refine (Fit.tup (.cons (fx.le (Nat.le_refl _) (Nat.zero_le _)) (.cons fa (.cons fb (FitAll.nil (n := 0)))))).le ?_ (Nat.le_refl _)
          show _ ≤ 2 * (bKind n' + 2) + 12
          omega
  intro n
  induction n with
  | zero => exact body 0 _ ((D.none sc_law_rough_kind).mono (by decide)) (fun m e => by omega)
  | succ n ih => exact body (n + 1) _ ih (fun m e => by
      obtain rfl : n = m := by omega
      rfl)
end

section
variable {P : Program} {w : World} {K : PySem.W.Frag} {mg : Str → Option Value} {base : Heap}
theorem ok_spoiled (D : DefAt K mg "_law_spoiled" s_law_spoiled ["_law_pen_here", "_law_thing", "_law_deep"]) (T : Bl mg) (C_law_draw : CallOk P w K mg base 2 "_law_draw" ["_law_pen_here", "_law_below"] spDraw)
    (C2 : CallOk P w K mg base 5 "_law_any" ["_law_pen_here", "_law_deep"] (spAny K 2)) (C1 : CallOk P w K mg base 5 "_law_any" ["_law_pen_here", "_law_deep"] (spAny K 1)) :
    ∀ n : Nat, CallOk P w K mg base (n + 6) "_law_spoiled" ["_law_pen_here", "_law_thing", "_law_deep"] (spSpoil K n) := by
  have body : ∀ (n : Nat) (sp' : Sp), CallOk P w K mg base (n + 5) "_law_spoiled" ["_law_pen_here", "_law_thing", "_law_deep"] sp' → (∀ m, n = m + 1 → sp' = spSpoil K m) → CallOk P w K mg base (n + 6) "_law_spoiled" ["_law_pen_here", "_law_thing", "_law_deep"] (spSpoil K n) := by
    intro n sp' C_law_spoiled hsp
    refine D.ok sc_law_spoiled (fun vs H Q E h => ?_) (fun f cdv A outer s H vs Q E hr h => ?_)
    · obtain ⟨p, c, v, d, z, a, b, rfl, _⟩ := h
      rfl
    · obtain ⟨p, c, v, d, z, a, b, rfl, hz, hn8, hP, hd, hf, ha, k⟩ := h
      refine ⟨_, (Evl.pss_cut (ps_if (PW.pt (pw_or (pt_not (pt_val (pe_callB call_isD (by rfl) T.isinstance_ (by decide +kernel) (pa_cons (pv 1) (pa_cons (pe_bltn (v := .ty "tuple") (by rfl) T.tuple_ (by decide +kernel) rfl) pa_nil))))) (pw_or (pt_cmpR (op_eqU hr.units) (pv 1) (pe_tup pa_nil) (nomark _)) (pw_or (pt_cmpR op_le (pv 2) pe_int (nomark _)) (pw_or1 (pt_cmpR op_eq (pe_callOk C_law_draw hr (by omega) (by rfl) (pa_cons (pv 0) (pa_cons pe_int pa_nil))) pe_int (nomark _))))))) (pss_one (ps_ret (pe_callOk C2 hr (by omega) (by rfl) (pa_cons (pv 0) (pa_cons pe_int pa_nil))))) pss_nil)
        (pss_cons (ps_set (i := 3) sc_law_spoiled.nd rfl (Or.inl rfl) (pe_callOk C_law_draw hr (by omega) (by rfl) (pa_cons (pv 0) (pa_cons (pe_callB call_len (by rfl) T.len_ (by decide +kernel) (pa_cons (pv 1) pa_nil)) pa_nil))))
        (pss_cons (ps_set (i := 4) sc_law_spoiled.nd rfl (Or.inl rfl) (pe_callOk C_law_draw hr (by omega) (by rfl) (pa_cons (pv 0) (pa_cons pe_int pa_nil))))
        (pss_cons (ps_if (pt_cmpR op_eq (pv 4) pe_int (nomark _)) (pss_one (ps_ret (pe_op opAdd (pe_slice sl_tupA (pv 1) po_none (po_some (pv 3))) (pe_slice sl_tupA (pv 1) (po_some (pe_op opAdd (pv 3) pe_int)) po_none)))) pss_nil)
        (pss_cons (ps_if (pt_cmpR op_eq (pv 4) pe_int (nomark _)) (pss_one (ps_ret (pe_op opAdd (pe_op opAdd (pe_slice sl_tupA (pv 1) po_none (po_some (pv 3))) (pe_tup (pa_cons (pe_callOk C1 hr (by omega) (by rfl) (pa_cons (pv 0) (pa_cons pe_int pa_nil))) pa_nil))) (pe_slice sl_tupA (pv 1) (po_some (pv 3)) po_none)))) pss_nil)
        (pss_cons (ps_if (pt_cmpR op_eq (pv 4) pe_int (nomark _)) (pss_one (ps_ret (pe_callTy call_list_of (by rfl) T.list_ (by decide +kernel) (pa_cons (pv 1) pa_nil)))) pss_nil)
        (pss_cons (ps_if (pt_cmpR op_eq (pv 4) pe_int (nomark _)) (pss_one (ps_ret (pe_op opAdd (pe_op opAdd (pe_slice sl_tupA (pv 1) po_none (po_some (pv 3))) (pe_tup (pa_cons (pe_ix ix_tup (pv 1) pe_int (fun _ _ => rfl)) pa_nil))) (pe_slice sl_tupA (pv 1) (po_some (pe_op opAdd (pv 3) pe_int)) po_none)))) pss_nil)
        (pss_one (ps_ret (pe_op opAdd (pe_op opAdd (pe_slice sl_tupA (pv 1) po_none (po_some (pv 3))) (pe_tup (pa_cons (pe_callOk C_law_spoiled hr (by omega) (by rfl) (pa_cons (pv 0) (pa_cons (pe_ix ix_tup (pv 1) (pv 3) (fun _ _ => rfl)) (pa_cons (pe_op op_sub (pv 2) pe_int) pa_nil)))) pa_nil))) (pe_slice sl_tupA (pv 1) (po_some (pe_op opAdd (pv 3) pe_int)) po_none))))))))))), ?_⟩
      have other : ∀ H1 : Hp, Pen H1 p c → Kp p H H1 → spAny K 2 [.ref p, .int 2] H1 Q E0 := fun H1 hP1 k1 =>
        ⟨p, c, 2, rfl, rfl, by decide, hP1, fun v' d' H2 hd2 hf2 hP2 k2 => k v' d' H2 (hd2.less (Tk.kp k1 hP1.tk)) (hf2.le (by show 5 * (5 * (60 + 2) + 20 + 2) + 20 ≤ _; omega) (by omega)) hP2 (k1.trans k2)⟩
      refine ⟨fun σ H1 => ∃ (ds : List PyData) (t : Addr) (xs : List V), d = .tuple ds ∧ ds ≠ [] ∧ 0 < z ∧ v = .ref t ∧ SqT K H1 t xs ∧ DaAll K All H1 xs ds ∧ Pen H1 p c ∧ Kp p H H1 ∧ σ = [some (.ref p), some v, some (.int z), none, none], ?_, ?_⟩
      · refine ⟨_, rfl, All, v, d, "tuple", rfl, hd, .inr (.inl rfl), _, rfl, ?_⟩
        by_cases ht : tyD d = "tuple"
        · obtain ⟨ds, rfl⟩ := ty_tup ht
          obtain ⟨t, xs, rfl, hT, hA⟩ := hd.tupInv
          refine iteF ?_
          refine ⟨_, rfl, Nat.zero_le _, fun q hq => ?_⟩
          have sq : Same H (upd H q (.tup [])) := same_new hq
          have hPq : Pen (upd H q (.tup [])) p c := hP.new hq
          have kq : Kp p H (upd H q (.tup [])) := Kp.of sq
          refine ⟨t, q, xs, rfl, rfl, sqT_same sq hT, SqT.of upd_same, _, rfl, ?_⟩
          cases hxs : xs.isEmpty with
          | true => exact iteT (iteT ⟨_, rfl, other _ hPq kq⟩)
          | false =>
            refine iteF ?_
            refine ⟨_, rfl, _, _, rfl, rfl, _, rfl, ?_⟩
            by_cases h0 : z ≤ 0
            · rw [decide_eq_true h0]
              exact iteT (iteT ⟨_, rfl, other _ hPq kq⟩)
            · rw [decide_eq_false h0]
              refine iteF ?_
              refine ⟨_, rfl, p, c, 4, rfl, hPq, by decide, by decide, fun m H2 _ _ hP2 k2 => ⟨rfl, _, rfl, ?_⟩⟩
              refine ite2 (fun _ => ⟨_, rfl, other _ hP2 (kq.trans k2)⟩) (fun _ => ?_)
              refine ⟨ds, t, xs, rfl, fun e => ?_, by omega, rfl, sqT_kp k2 hPq.noTup (sqT_same sq hT), (hA.same sq).kp k2 hPq.noTup trivial, hP2, kq.trans k2, rfl⟩
              have l := hA.length
              rw [e] at l
              cases xs with
              | nil => cases hxs
              | cons _ _ => cases l
        · rw [decide_eq_false ht]
          exact iteT (iteT ⟨_, rfl, other H hP Kp.refl⟩)
      · rintro σ H1 ⟨ds, t, xs, rfl, hne, hz0, rfl, hT, hA, hP1, k1, rfl⟩
        obtain ⟨n', rfl⟩ : ∃ n', n = n' + 1 := ⟨n - 1, by omega⟩
        obtain rfl := hsp n' rfl
        obtain ⟨b', rfl⟩ := hf.deep
        obtain ⟨h4, hfa⟩ := hf.items
        have hlen := len_wt ds
        have hwt := hfa.wt
        have hpos : 0 < ds.length := List.length_pos_iff.mpr hne
        have fin : ∀ (H5 : Hp) (t5 : Addr) (ws : List V) (es : List PyData), SqT K H5 t5 ws → DaAll K (Tk H) H5 ws es → FitAll (2 * a + 1796) (b' + 8) es → Pen H5 p c → Kp p H H5 → Q (.ref t5) H5 := fun H5 t5 ws es g1 g2 g3 g4 g5 =>
          k _ _ H5 (.tup g1 g2) ((Fit.tup g3).le (by omega) (by omega)) g4 g5
        refine ⟨_, rfl, _, rfl, _, _, rfl, .inr ⟨_, hT, rfl⟩, p, c, _, rfl, hP1, ?_, ?_, fun sp H2 s0 s1 hP2 k2 => ?_⟩
        · rw [hA.length]
          omega
        · rw [hA.length]
          omega
        rw [hA.length] at s1
        obtain ⟨j, rfl⟩ : ∃ j : Nat, sp = (j : Int) := ⟨sp.toNat, by omega⟩
        have hj : j < ds.length := by omega
        have hT2 : SqT K H2 t xs := sqT_kp k2 hP1.noTup hT
        have hA2 : DaAll K All H2 xs ds := hA.kp k2 hP1.noTup trivial
        obtain ⟨fa, fb, fc, hsum, gA, gB, gC⟩ := hfa.get (List.getElem?_eq_getElem hj)
        refine ⟨_, rfl, p, c, 8, rfl, hP2, by decide, by decide, fun road H3 r0 r1 hP3 k3 => ?_⟩
        have hT3 : SqT K H3 t xs := sqT_kp k3 hP2.noTup hT2
        have hA3 : DaAll K All H3 xs ds := hA2.kp k3 hP2.noTup trivial
        have k03 : Kp p H H3 := (k1.trans k2).trans k3
        have hj1 : (j : Int) + 1 = ((j + 1 : Nat) : Int) := by omega
        have hxl : xs.length ≤ 40000 := by
          rw [hA.length]
          omega
        have up : ∀ {H5 : Hp} {ws : List V} {es : List PyData}, DaAll K All H5 ws es → DaAll K (Tk H) H5 ws es := fun h => h.less fun _ _ => trivial
        refine ⟨_, rfl, rfl, _, rfl, ?_⟩
        refine ite2 (fun _ => ?_) (fun _ => ?_)
        · -- one less
          refine ⟨_, rfl, _, rfl, _, rfl, ?_⟩
          dsimp only [tNoPart]
          refine cut_any hT3 fun t1 H4 s4 hT4 => ?_
          refine ⟨_, rfl, _, rfl, .inl ⟨_, _, rfl, rfl, _, rfl, ?_⟩⟩
          dsimp only [tNoPart]
          refine cut_any (sqT_same s4 hT3) fun t2 H5 s5 hT5 => ?_
          rw [cut_take] at hT4
          rw [hj1, cut_drop] at hT5
          refine .inr (.inr (.inl (cat_any (sqT_same s5 hT4) hT5 (le_line ?_) fun t3 H6 s6 hT6 => ?_)))
          · rw [List.length_take, List.length_drop]
            omega
          · have sm := (s4.trans s5).trans s6
            have q := (hA3.take j).append (hA3.drop (j + 1))
            exact fin H6 t3 _ _ hT6 (up (q.same sm)) ((gA.append gC).le (by omega) (by omega)) (hP3.same sm) (k03.same sm)
        refine ⟨_, rfl, rfl, _, rfl, ?_⟩
        refine ite2 (fun _ => ?_) (fun _ => ?_)
        · -- one more
          refine ⟨_, rfl, _, rfl, _, rfl, ?_⟩
          dsimp only [tNoPart]
          refine cut_any hT3 fun t1 H4 s4 hT4 => ?_
          rw [cut_take] at hT4
          refine ⟨_, rfl, p, c, 1, rfl, rfl, by decide, hP3.same s4, fun v1 d1 H5 hd1 hf1 hP5 k5 => ?_⟩
          refine ⟨le_line (by show 1 ≤ 100000; decide), fun t2 h2 => ?_⟩
          have s6 : Same H5 (upd H5 t2 (.tup [v1])) := same_new h2
          have hT5 := sqT_same s6 (sqT_kp k5 (hP3.same s4).noTup hT4)
          refine .inr (.inr (.inl (cat_any hT5 (SqT.of upd_same) (le_line ?_) fun t3 H7 s7 hT7 => ?_)))
          · rw [List.length_take]
            show min j xs.length + 1 ≤ 100000
            omega
          have hT8 := sqT_same s7 (sqT_same s6 (sqT_kp k5 (hP3.same s4).noTup (sqT_same s4 hT3)))
          refine ⟨_, rfl, _, rfl, _, rfl, ?_⟩
          dsimp only [tNoPart]
          refine cut_any hT8 fun t4 H8 s8 hT9 => ?_
          rw [cut_drop] at hT9
          refine .inr (.inr (.inl (cat_any (sqT_same s8 hT7) hT9 (le_line ?_) fun t5 H9 s9 hT10 => ?_)))
          · rw [List.length_append, List.length_take, List.length_drop]
            show min j xs.length + 1 + (xs.length - j) ≤ 100000
            omega
          · have hP4 := hP3.same s4
            have sm : Same H5 H9 := (s6.trans s7).trans (s8.trans s9)
            have q1 : DaAll K All H9 (xs.take j) (ds.take j) := (((hA3.take j).same s4).kp k5 hP4.noTup trivial).same sm
            have q2 : DaAll K All H9 (xs.drop j) (ds.drop j) := (((hA3.drop j).same s4).kp k5 hP4.noTup trivial).same sm
            have q3 : Da K (Tk H) H9 v1 d1 := (hd1.same sm).less (Tk.kp (k03.same s4) hP4.tk)
            refine fin H9 t5 _ _ hT10 (((up q1).append (.cons q3 .nil)).append (up q2)) ?_ (hP5.same sm) (((k03.same s4).trans k5).same sm)
            obtain ⟨e1, e2, hs2, f1, f2⟩ := hfa.split j
            have w1 : FitAll e1 (b' + 8) (ds.take j) := f1.le (Nat.le_refl _) (by omega)
            have w2 : FitAll e2 (b' + 8) (ds.drop j) := f2.le (Nat.le_refl _) (by omega)
            have w3 : FitAll 340 (b' + 8) [d1] := (FitAll.cons hf1 (FitAll.nil (n := 0))).le (by show 5 * (60 + 2) + 20 + 2 + 0 ≤ 340; decide) (by omega)
            exact ((w1.append w3).append w2).le (by omega) (Nat.le_refl _)
        refine ⟨_, rfl, rfl, _, rfl, ?_⟩
        refine ite2 (fun _ => ?_) (fun _ => ?_)
        · -- a list
          refine ⟨_, rfl, t, xs, rfl, .inr hT3, fun l hl => ?_⟩
          refine k _ _ _ (.lst upd_same (fun z => z (k03.none hl (hP3.neP hl))) (up (hA3.same (same_new hl)))) ?_ (hP3.new hl) (k03.lay hl)
          exact (Fit.lst hfa).le (by omega) (by omega)
        refine ⟨_, rfl, rfl, _, rfl, ?_⟩
        refine ite2 (fun _ => ?_) (fun _ => ?_)
        · -- the first one again
          refine ⟨_, rfl, _, rfl, _, rfl, ?_⟩
          dsimp only [tNoPart]
          refine cut_any hT3 fun t1 H4 s4 hT4 => ?_
          rw [cut_take] at hT4
          obtain ⟨v0, hv0⟩ : ∃ v0, xs[0]? = some v0 := ⟨xs[0]'(by rw [hA.length]; exact hpos), List.getElem?_eq_getElem _⟩
          obtain ⟨d0, hd0, hda0⟩ := hA3.get hv0
          refine ⟨_, rfl, t, xs, 0, v0, rfl, rfl, sqT_same s4 hT3, atI_nat (j := 0) hv0, le_line (by show 1 ≤ 100000; decide), fun t2 h2 => ?_⟩
          have s6 : Same H4 (upd H4 t2 (.tup [v0])) := same_new h2
          refine .inr (.inr (.inl (cat_any (sqT_same s6 hT4) (SqT.of upd_same) (le_line ?_) fun t3 H7 s7 hT7 => ?_)))
          · rw [List.length_take]
            show min j xs.length + 1 ≤ 100000
            omega
          refine ⟨_, rfl, _, rfl, .inl ⟨_, _, rfl, rfl, _, rfl, ?_⟩⟩
          dsimp only [tNoPart]
          refine cut_any (sqT_same s7 (sqT_same s6 (sqT_same s4 hT3))) fun t4 H8 s8 hT9 => ?_
          rw [hj1, cut_drop] at hT9
          refine .inr (.inr (.inl (cat_any (sqT_same s8 hT7) hT9 (le_line ?_) fun t5 H9 s9 hT10 => ?_)))
          · rw [List.length_append, List.length_take, List.length_drop]
            show min j xs.length + 1 + (xs.length - (j + 1)) ≤ 100000
            omega
          · have sm := ((s4.trans s6).trans s7).trans (s8.trans s9)
            have q := (((hA3.take j).append (.cons hda0 .nil)).append (hA3.drop (j + 1))).same sm
            refine fin H9 t5 _ _ hT10 (up q) ?_ (hP3.same sm) (k03.same sm)
            obtain ⟨_, g0, _, hs0, _, f0, _⟩ := hfa.get hd0
            exact (((gA.append (.cons f0 (FitAll.nil (n := 0)))).append gC).le (by omega) (by omega))
        · -- one of its own, spoiled
          refine ⟨_, rfl, _, rfl, _, rfl, ?_⟩
          dsimp only [tNoPart]
          refine cut_any hT3 fun t1 H4 s4 hT4 => ?_
          rw [cut_take] at hT4
          have hjx : j < xs.length := by
            rw [hA.length]
            exact hj
          obtain ⟨v0, hv0⟩ : ∃ v0, xs[j]? = some v0 := ⟨xs[j], List.getElem?_eq_getElem hjx⟩
          obtain ⟨d0, hd0, hda0⟩ := hA3.get hv0
          obtain rfl : d0 = ds[j] := by
            rw [List.getElem?_eq_getElem hj] at hd0
            exact (Option.some.inj hd0).symm
          have hP4 := hP3.same s4
          refine ⟨_, rfl, _, rfl, _, rfl, t, xs, (j : Int), v0, rfl, rfl, sqT_same s4 hT3, atI_nat hv0, _, rfl, _, _, rfl, rfl, p, c, v0, ds[j], _, _, _, rfl, by omega, by omega, hP4, hda0.same s4, gB, by omega, fun v1 d1 H5 hd1 hf1 hP5 k5 => ?_⟩
          refine ⟨le_line (by show 1 ≤ 100000; decide), fun t2 h2 => ?_⟩
          have s6 : Same H5 (upd H5 t2 (.tup [v1])) := same_new h2
          have hT5 := sqT_same s6 (sqT_kp k5 hP4.noTup hT4)
          refine .inr (.inr (.inl (cat_any hT5 (SqT.of upd_same) (le_line ?_) fun t3 H7 s7 hT7 => ?_)))
          · rw [List.length_take]
            show min j xs.length + 1 ≤ 100000
            omega
          have hT8 := sqT_same s7 (sqT_same s6 (sqT_kp k5 hP4.noTup (sqT_same s4 hT3)))
          refine ⟨_, rfl, _, rfl, .inl ⟨_, _, rfl, rfl, _, rfl, ?_⟩⟩
          dsimp only [tNoPart]
          refine cut_any hT8 fun t4 H8 s8 hT9 => ?_
          rw [hj1, cut_drop] at hT9
          refine .inr (.inr (.inl (cat_any (sqT_same s8 hT7) hT9 (le_line ?_) fun t5 H9 s9 hT10 => ?_)))
          · rw [List.length_append, List.length_take, List.length_drop]
            show min j xs.length + 1 + (xs.length - (j + 1)) ≤ 100000
            omega
          · have sm : Same H5 H9 := (s6.trans s7).trans (s8.trans s9)
            have q1 : DaAll K All H9 (xs.take j) (ds.take j) := (((hA3.take j).same s4).kp k5 hP4.noTup trivial).same sm
            have q2 : DaAll K All H9 (xs.drop (j + 1)) (ds.drop (j + 1)) := (((hA3.drop (j + 1)).same s4).kp k5 hP4.noTup trivial).same sm
            have q3 : Da K (Tk H) H9 v1 d1 := (hd1.same sm).less (Tk.kp (k03.same s4) hP4.tk)
            refine fin H9 t5 _ _ hT10 (((up q1).append (.cons q3 .nil)).append (up q2)) ?_ (hP5.same sm) (((k03.same s4).trans k5).same sm)
            have w1 : FitAll fa (b' + 8) (ds.take j) := gA.le (Nat.le_refl _) (by omega)
            have w2 : FitAll fc (b' + 8) (ds.drop (j + 1)) := gC.le (Nat.le_refl _) (by omega)
            have w3 : FitAll (2 * fb + 1802) (b' + 8) [d1] := (FitAll.cons hf1 (FitAll.nil (n := 0))).le (by omega) (Nat.le_refl _)
            exact ((w1.append w3).append w2).le (by omega) (Nat.le_refl _)
  intro n
  induction n with
  | zero => exact body 0 _ ((D.none sc_law_spoiled).mono (by decide)) (fun m e => by omega)
  | succ n ih => exact body (n + 1) _ ih (fun m e => by
      obtain rfl : n = m := by omega
      rfl)
end

section
variable {P : Program} {w : World} {K : PySem.W.Frag} {mg : Str → Option Value} {base : Heap}
theorem ok_chain (D : DefAt K mg "_law_chain" s_law_chain ["_law_pen_here", "_law_often"]) (T : Bl mg) (C_law_draw : CallOk P w K mg base 2 "_law_draw" ["_law_pen_here", "_law_below"] spDraw)
    (C_law_name : CallOk P w K mg base 3 "_law_name" ["_law_pen_here", "_law_gone"] spName) : CallOk P w K mg base 4 "_law_chain" ["_law_pen_here", "_law_often"] (spChain K) := by
  refine D.ok sc_law_chain (fun vs H Q E h => ?_) (fun f cdv A outer s H vs Q E hr h => ?_)
  · obtain ⟨p, c, z, rfl, _⟩ := h
    rfl
  · obtain ⟨p, c, z, rfl, hz1, hz7, hP, k⟩ := h
    refine ⟨_, (pss_cons (ps_set (i := 2) sc_law_chain.nd rfl (Or.inl rfl) (pe_callOk C_law_name hr (by omega) (by rfl) (pa_cons (pv 0) (pa_cons (pe_lst pa_nil) pa_nil))))
        (pss_cons (ps_for PassesOwn.never rfl (pi_range1 (by rfl) T.range_ (pa_cons (pe_op op_sub (pv 1) pe_int) pa_nil)) (pg_name (i := 3) sc_law_chain.nd rfl (Or.inl rfl)) (pss_cons (ps_set (i := 4) sc_law_chain.nd rfl (Or.inl rfl) (pe_lst (pa_cons (pv 2) (pa_cons (pe_callOk C_law_name hr (by omega) (by rfl) (pa_cons (pv 0) (pa_cons (pe_lst pa_nil) pa_nil))) pa_nil))))
        (pss_cons (ps_set (i := 5) sc_law_chain.nd rfl (Or.inl rfl) (pe_callOk C_law_draw hr (by omega) (by rfl) (pa_cons (pv 0) (pa_cons pe_int pa_nil))))
        (pss_one (ps_set (i := 2) sc_law_chain.nd rfl (Or.inl rfl) (pe_tup (pa_cons (pe_ix ix_list (pe_lst (pa_cons pe_str (pa_cons pe_str (pa_cons pe_str pa_nil)))) (pe_callOk C_law_draw hr (by omega) (by rfl) (pa_cons (pv 0) (pa_cons pe_int pa_nil))) (fun _ _ => rfl)) (pa_cons (pe_ix ix_list (pv 4) (pv 5) (fun _ _ => rfl)) (pa_cons (pe_ix ix_list (pv 4) (pe_op op_sub pe_int (pv 5)) (fun _ _ => rfl)) pa_nil)))))))))
        (pss_one (ps_ret (pv 2))))), ?_⟩
    refine ⟨_, rfl, Nat.zero_le _, fun q hq => ⟨p, c, q, [], rfl, hP.new hq, upd_same, hP.neP hq, by decide, fun x H1 hx hP1 k1 => ?_⟩⟩
    have k01 : Kp p H H1 := (Kp.new hq).trans k1
    refine ⟨_, rfl, _, _, rfl, rfl, _, rfl, by omega, by omega, for_range (lo := 0) (n := (z - 1).toNat) (fun i σ H' => ∃ v d v3 v4 v5, σ = [some (.ref p), some (.int z), some v, v3, v4, v5] ∧ Da K All H' v d ∧ Fit (90 + i * 110) i d ∧ Pen H' p c ∧ Kp p H H')
      ⟨.str x, .str x, none, none, none, rfl, .str x, fit_nm hx, hP1, k01⟩ ?_ ?_⟩
    · rintro i σ H2 hi ⟨v, d, v3, v4, v5, rfl, hd, hf, hP2, k2⟩
      refine ⟨_, rfl, _, rfl, Nat.zero_le _, fun q2 hq2 => ⟨p, c, q2, [], rfl, hP2.new hq2, upd_same, hP2.neP hq2, by decide, fun y H3 hy hP3 k3 => ?_⟩⟩
      have k03 : Kp p H H3 := (k2.lay hq2).trans k3
      refine ⟨le_line (by show 2 ≤ 100000; decide), fun pr hpr => ?_⟩
      have hP4 := hP3.new (o := .lst [v, .str y]) hpr
      have nprp : pr ≠ p := hP3.neP hpr
      refine ⟨_, rfl, p, c, 2, rfl, hP4, by decide, by decide, fun b H5 b0 b1 hP5 k5 => ?_⟩
      have e5 : H5 pr = some (.lst [v, .str y]) := k5 _ _ upd_same nprp
      refine ⟨le_line (by show 3 ≤ 100000; decide), fun sg hsg => ?_⟩
      refine ⟨_, rfl, p, c, 3, rfl, hP5.new hsg, by decide, by decide, fun l H6 l0 l1 hP6 k6 => ?_⟩
      obtain ⟨sx, hsx, fsx⟩ := sign_at3 l0 l1
      have e6 : H6 pr = some (.lst [v, .str y]) := k6 _ _ (by rw [upd_ne (ne_of_none e5 hsg)]; exact e5) nprp
      have k06 : Kp p H H6 := ((k03.lay hpr).trans k5).lay hsg |>.trans k6
      have d6 : Da K All H6 v d := ((((hd.same (same_new hq2)).kp k3 (hP2.new hq2).noTup trivial).same (same_new hpr)).kp k5 hP4.noTup trivial).same (same_new hsg) |>.kp k6 (hP5.new hsg).noTup trivial
      refine ⟨sg, _, l, .str sx, rfl, rfl, SqL.of (k6 _ _ upd_same (hP5.neP hsg)), hsx, ?_⟩
      have fy := fit_nm hy
      have both : ∀ (va vb : V) (da db : PyData) (na nb ma mb : Nat), Da K All H6 va da → Da K All H6 vb db → Fit na ma da → Fit nb mb db → na + nb ≤ 180 + i * 110 → ma ≤ i → mb ≤ i → ∀ t, H6 t = none →
          ∃ v d v3 v4 v5, [some (.ref p), some (.int z), some (.ref t), some (.int (0 + (i : Int))), some (.ref pr), some (.int b)] = [some (.ref p), some (.int z), some v, v3, v4, v5] ∧ Da K All (upd H6 t (.tup [.str sx, va, vb])) v d ∧ Fit (90 + (i + 1) * 110) (i + 1) d ∧ Pen (upd H6 t (.tup [.str sx, va, vb])) p c ∧ Kp p H (upd H6 t (.tup [.str sx, va, vb])) := by
        intro va vb da db na nb ma mb g1 g2 f1 f2 hs h1 h2 t ht
        refine ⟨.ref t, .tuple [.str sx, da, db], _, _, _, rfl, .tup (SqT.of upd_same) (.cons (.str sx) (.cons (g1.same (same_new ht)) (.cons (g2.same (same_new ht)) .nil))), ?_, hP6.new ht, k06.lay ht⟩
        refine (Fit.tup (.cons (fsx.le (Nat.le_refl _) (Nat.zero_le _)) (.cons (f1.le (Nat.le_refl _) h1) (.cons (f2.le (Nat.le_refl _) h2) (FitAll.nil (n := 0)))))).le ?_ (Nat.le_refl _)
        omega
      have hb : b = 0 ∨ b = 1 := by omega
      rcases hb with rfl | rfl
      · refine ⟨_, rfl, _, rfl, pr, _, 0, v, rfl, rfl, SqL.of e6, rfl, _, rfl, _, rfl, _, _, rfl, rfl, pr, _, 1, .str y, rfl, rfl, SqL.of e6, rfl, le_line (by show 3 ≤ 100000; decide), fun t ht => ?_⟩
        exact both v (.str y) d (.str y) _ _ _ _ d6 (.str y) hf fy (by omega) (Nat.le_refl _) (Nat.zero_le _) t ht
      · refine ⟨_, rfl, _, rfl, pr, _, 1, .str y, rfl, rfl, SqL.of e6, rfl, _, rfl, _, rfl, _, _, rfl, rfl, pr, _, 0, v, rfl, rfl, SqL.of e6, rfl, le_line (by show 3 ≤ 100000; decide), fun t ht => ?_⟩
        exact both (.str y) v (.str y) d _ _ _ _ (.str y) d6 fy hf (by omega) (Nat.zero_le _) (Nat.le_refl _) t ht
    · rintro σ H2 ⟨v, d, v3, v4, v5, rfl, hd, hf, hP2, k2⟩
      exact ⟨_, rfl, k v d H2 hd (hf.le (by omega) (by omega)) hP2 k2⟩
theorem ok_law {fL : Addr} {fdL : FuncData} (F : Fun K "law" "law" s_law fL fdL) (T : Bl mg) (C_law_pen : CallOk P w K mg base 1 "_law_pen" ["_law_script"] (spPen K)) (C_law_draw : CallOk P w K mg base 2 "_law_draw" ["_law_pen_here", "_law_below"] spDraw)
    (C_law_name : CallOk P w K mg base 3 "_law_name" ["_law_pen_here", "_law_gone"] spName) (C_law_any : CallOk P w K mg base 6 "_law_any" ["_law_pen_here", "_law_deep"] (spAny K 3)) (C_law_chain : CallOk P w K mg base 4 "_law_chain" ["_law_pen_here", "_law_often"] (spChain K))
    (C_law_rough_kind : CallOk P w K mg base 8 "_law_rough_kind" ["_law_pen_here", "_law_deep"] (spRough K 4)) (C_law_spoiled : CallOk P w K mg base 10 "_law_spoiled" ["_law_pen_here", "_law_thing", "_law_deep"] (spSpoil K 4))
    (C_law_is_kind : CallOk P w K mg base 7 "_law_is_kind" ["_law_thing", "_law_deep"] (spKindW K 6)) (C_law_is_name : CallOk P w K mg base 1 "_law_is_name" ["_law_thing"] (spIsName K)) (C_is_name : CallOk P w K mg base 1 "is_name" ["thing"] (spIsName K))
    (C_is_kind : CallOk P w K mg base 8 "is_kind" ["thing"] (spKind K)) (C_law_truth : CallOk P w K mg base 1 "_law_truth" ["_law_found", "_law_due"] spTruth) (C_is_shown : CallOk P w K mg base 7 "is_shown" ["kind"] (spShown K false 6))
    (C_law_has : CallOk P w K mg base 7 "_law_has" ["_law_kind"] (spShown K true 6)) : FnG P w K mg base 11 fL fdL ["_law_script"] (spLaw K) := by
  refine Fun.okG F sc_law (fun vs H Q E h => ?_) (fun cdv A outer s H vs Q E hg hr h => ?_)
  · obtain ⟨a, ns, rfl, _⟩ := h
    rfl
  · obtain ⟨a, ns, rfl, hS, hl, k⟩ := h
    refine ⟨_, (pss_cons (ps_set (i := 1) sc_law.nd rfl (Or.inl rfl) (pe_callOk C_law_pen hr (by omega) (by rfl) (pa_cons (pv 0) pa_nil)))
        (pss_cons (ps_for PassesOwn.never rfl (pi_range1 (by rfl) T.range_ (pa_cons pe_int pa_nil)) (pg_name (i := 2) sc_law.nd rfl (Or.inl rfl)) (pss_cons (ps_set (i := 3) sc_law.nd rfl (Or.inl rfl) (pe_callOk C_law_draw hr (by omega) (by rfl) (pa_cons (pv 1) (pa_cons pe_int pa_nil))))
        (pss_cons (ps_set (i := 4) sc_law.nd rfl (Or.inl rfl) (pe_op opAdd (pe_callOk C_law_name hr (by omega) (by rfl) (pa_cons (pv 1) (pa_cons (pe_lst pa_nil) pa_nil))) (pe_ix ix_list (pe_lst (pa_cons pe_str (pa_cons pe_str (pa_cons pe_str (pa_cons pe_str (pa_cons pe_str (pa_cons pe_str (pa_cons pe_str pa_nil)))))))) (pe_callOk C_law_draw hr (by omega) (by rfl) (pa_cons (pv 1) (pa_cons pe_int pa_nil))) (fun _ _ => rfl))))
        (Evl.pss_cut (ps_if (pt_cmpR op_eq (pv 3) pe_int (nomark _)) (pss_one (ps_set (i := 4) sc_law.nd rfl (Or.inl rfl) (pe_callOk C_law_any hr (by omega) (by rfl) (pa_cons (pv 1) (pa_cons pe_int pa_nil))))) pss_nil)
        (Evl.pss_cut (ps_if (pt_cmpR op_eq (pv 3) pe_int (nomark _)) (pss_one (ps_set (i := 4) sc_law.nd rfl (Or.inl rfl) (pe_callOk C_law_chain hr (by omega) (by rfl) (pa_cons (pv 1) (pa_cons (pe_op opAdd pe_int (pe_callOk C_law_draw hr (by omega) (by rfl) (pa_cons (pv 1) (pa_cons pe_int pa_nil)))) pa_nil))))) pss_nil)
        (Evl.pss_cut (ps_if (pt_cmpR op_eq (pv 3) pe_int (nomark _)) (pss_one (ps_set (i := 4) sc_law.nd rfl (Or.inl rfl) (pe_callOk C_law_rough_kind hr (by omega) (by rfl) (pa_cons (pv 1) (pa_cons pe_int pa_nil))))) pss_nil)
        (Evl.pss_cut (ps_if (pt_cmpR op_gt (pv 3) pe_int (nomark _)) (pss_one (ps_set (i := 4) sc_law.nd rfl (Or.inl rfl) (pe_callOk C_law_spoiled hr (by omega) (by rfl) (pa_cons (pv 1) (pa_cons (pe_callOk C_law_rough_kind hr (by omega) (by rfl) (pa_cons (pv 1) (pa_cons pe_int pa_nil))) (pa_cons pe_int pa_nil)))))) pss_nil)
        (pss_cons (ps_set (i := 5) sc_law.nd rfl (Or.inl rfl) (pe_callB (call_reprD hg) (by rfl) T.repr_ (by decide +kernel) (pa_cons (pv 4) pa_nil)))
        (pss_cons (ps_set (i := 6) sc_law.nd rfl (Or.inl rfl) (pe_callOk C_law_is_kind hr (by omega) (by rfl) (pa_cons (pv 4) (pa_cons pe_int pa_nil))))
        (pss_cons (ps_if (PW.pt (pw_or (pt_not (pt_val (pe_callOk C_law_truth hr (by omega) (by rfl) (pa_cons (pe_callOk C_is_name hr (by omega) (by rfl) (pa_cons (pv 4) pa_nil)) (pa_cons (pe_callOk C_law_is_name hr (by omega) (by rfl) (pa_cons (pv 4) pa_nil)) pa_nil))))) (pw_or1 (pt_not (pt_val (pe_callOk C_law_truth hr (by omega) (by rfl) (pa_cons (pe_callOk C_is_kind hr (by omega) (by rfl) (pa_cons (pv 4) pa_nil)) (pa_cons (pv 6) pa_nil)))))))) (pss_one (ps_ret pe_bl)) pss_nil)
        (pss_cons (ps_if (PW.pt (pw_and (pt_val (pv 6)) (pw_and1 (pt_not (pt_val (pe_callOk C_law_truth hr (by omega) (by rfl) (pa_cons (pe_callOk C_is_shown hr (by omega) (by rfl) (pa_cons (pv 4) pa_nil)) (pa_cons (pe_not (pe_callOk C_law_has hr (by omega) (by rfl) (pa_cons (pv 4) pa_nil))) pa_nil)))))))) (pss_one (ps_ret pe_bl)) pss_nil)
        (pss_one (ps_if (pt_cmpR op_ne (pe_callB (call_reprD hg) (by rfl) T.repr_ (by decide +kernel) (pa_cons (pv 4) pa_nil)) (pv 5) (nomark _)) (pss_one (ps_ret pe_bl)) pss_nil)))))))))))))
        (pss_one (ps_ret pe_bl)))), ?_⟩
    refine ⟨_, rfl, a, ns, rfl, hS, hl, fun p c H0 hP0 s0 _ _ => ?_⟩
    refine ⟨8, rfl, by decide, by decide, for_range (lo := 0) (n := 8) (fun i σ H' => ∃ v2 v3 v4 v5 v6, σ = [some (.ref a), some (.ref p), v2, v3, v4, v5, v6] ∧ Pen H' p c) ⟨none, none, none, none, none, rfl, hP0⟩ ?_ ?_⟩
    · rintro i σ H1 hi ⟨v2, v3, v4, v5, v6, rfl, hP1⟩
      refine ⟨_, rfl, p, c, 6, rfl, hP1, by decide, by decide, fun road H2 r0 r1 hP2 k2 => ?_⟩
      refine ⟨_, rfl, Nat.zero_le _, fun q hq => ⟨p, c, q, [], rfl, hP2.new hq, upd_same, hP2.neP hq, by decide, fun x H3 hx hP3 k3 => ?_⟩⟩
      refine ⟨le_line (by show 7 ≤ 100000; decide), fun q2 hq2 => ⟨_, rfl, p, c, 7, rfl, hP3.new hq2, by decide, by decide, fun l H4 l0 l1 hP4 k4 => ?_⟩⟩
      obtain ⟨y, hy, fy⟩ := tail_at l0 l1
      refine ⟨q2, _, l, .str y, rfl, rfl, SqL.of (k4 _ _ upd_same (hP3.neP hq2)), hy, .inr (.inl ⟨x, y, rfl, rfl, le_line (by have := hx.2.1; have := fy.1; show x.cps.size + y.length ≤ _; omega), ?_⟩)⟩
      -- what is drawn then, by the road
      let Mid : L2.St → Hp → Prop := fun σ H' => ∃ (v : V) (d : PyData), σ = [some (.ref a), some (.ref p), some (.int (0 + (i : Int))), some (.int road), some v, v5, v6] ∧ Da K (fun b => b = p) H' v d ∧ Fit 10000 20 d ∧ Pen H' p c
      have tkp : ∀ {H' : Hp}, Pen H' p c → ∀ b, b = p → Tk H' b := fun h b e => e ▸ h.tk
      refine ⟨Mid, ?_, ?_⟩
      · refine ⟨_, rfl, rfl, _, rfl, ?_⟩
        refine ite2 (fun _ => ?_) (fun _ => ⟨_, _, rfl, .str _, (hx.sm.app fy).fit.le (by decide) (by decide), hP4⟩)
        exact ⟨_, rfl, p, c, 3, rfl, rfl, by decide, hP4, fun v d H5 hd hf hP5 k5 => ⟨v, d, rfl, hd.less (tkp hP4), hf.le (by show 5 * (5 * (5 * (60 + 2) + 20 + 2) + 20 + 2) + 20 ≤ _; decide) (by decide), hP5⟩⟩
      rintro σ H5 ⟨v, d, rfl, hd, hf, hP5⟩
      refine ⟨Mid, ?_, ?_⟩
      · refine ⟨_, rfl, rfl, _, rfl, ?_⟩
        refine ite2 (fun _ => ?_) (fun _ => ⟨_, _, rfl, hd, hf, hP5⟩)
        refine ⟨_, rfl, _, rfl, p, c, 3, rfl, hP5, by decide, by decide, fun m H6 m0 m1 hP6 k6 => .inl ⟨_, _, rfl, rfl, ?_⟩⟩
        exact ⟨p, c, _, rfl, by omega, by omega, hP6, fun v' d' H7 hd' hf' hP7 k7 => ⟨v', d', rfl, hd'.less fun _ _ => trivial, hf'.le (by decide) (by decide), hP7⟩⟩
      rintro σ H6 ⟨v, d, rfl, hd, hf, hP6⟩
      refine ⟨Mid, ?_, ?_⟩
      · refine ⟨_, rfl, rfl, _, rfl, ?_⟩
        refine ite2 (fun _ => ?_) (fun _ => ⟨_, _, rfl, hd, hf, hP6⟩)
        exact ⟨_, rfl, p, c, 4, rfl, rfl, by decide, hP6, fun v' d' H7 hd' hf' hP7 k7 => ⟨v', d', rfl, hd'.less fun _ _ => trivial, hf'.le (by show 2 * (2 * (2 * (2 * (90 + 2) + 12 + 2) + 12 + 2) + 12 + 2) + 12 ≤ _; decide) (by decide), hP7⟩⟩
      rintro σ H7 ⟨v, d, rfl, hd, hf, hP7⟩
      refine ⟨Mid, ?_, ?_⟩
      · refine ⟨_, rfl, _, _, rfl, rfl, _, rfl, ?_⟩
        refine ite2 (fun _ => ?_) (fun _ => ⟨_, _, rfl, hd, hf, hP7⟩)
        refine ⟨_, rfl, _, rfl, p, c, 4, rfl, rfl, by decide, hP7, fun v' d' H8 hd' hf' hP8 k8 => ?_⟩
        exact ⟨p, c, v', d', 4, _, _, rfl, rfl, by decide, hP8, hd', hf', by show 2 * (2 * (2 * (2 * (90 + 2) + 12 + 2) + 12 + 2) + 12 + 2) + 12 ≤ _; decide, fun v2 d2 H9 hd2 hf2 hP9 k9 => ⟨v2, d2, rfl, hd2.less (tkp hP8), hf2.le (by show 2 * (2 * (2 * (2 * (2 * (90 + 2) + 12 + 2) + 12 + 2) + 12 + 2) + 12) + 1800 ≤ _; decide) (by decide), hP9⟩⟩
      rintro σ H8 ⟨v, d, rfl, hd, hf, hP8⟩
      -- the looks
      refine ⟨_, rfl, _, v, d, 10000, rfl, hd, hf.le (Nat.le_refl _) (by decide), le_line (by decide), room_un (k := 10) hr.un, ?_⟩
      refine ⟨_, rfl, _, v, d, _, _, 6, rfl, rfl, by decide, hd, hf, by decide, fun H9 s9 => ?_⟩
      refine ⟨_, rfl, _, v, d, _, _, rfl, hd.same s9, hf, by decide, fun H10 s10 => ⟨_, rfl, _, v, d, _, _, rfl, hd.same (s9.trans s10), hf, by decide, fun H11 s11 => ⟨_, _, rfl, _, rfl, ?_⟩⟩⟩
      rw [decide_eq_true (rfl : isNameD d = isNameD d)]
      refine iteF ?_
      have s811 := (s9.trans s10).trans s11
      refine ⟨_, rfl, _, v, d, _, _, rfl, hd.same s811, hf, by decide, fun H12 s12 => ⟨_, rfl, _, _, rfl, _, rfl, ?_⟩⟩
      rw [decide_eq_true (rfl : kindW 6 d = kindW 6 d)]
      refine iteF ?_
      have s812 := s811.trans s12
      have hd12 := hd.same s812
      have hP12 := hP8.same s812
      refine ⟨_, rfl, _, rfl, ?_⟩
      cases hk : kindW 6 d with
      | false =>
        refine iteF (iteF ?_)
        refine ⟨_, rfl, _, v, d, 10000, rfl, hd12, hf.le (Nat.le_refl _) (by decide), le_line (by decide), room_un (k := 10) hr.un, _, rfl, rfl, _, rfl, ?_⟩
        exact iteNS rfl ⟨_, _, _, _, _, rfl, hP12⟩
      | true =>
        refine iteT ?_
        refine ⟨_, rfl, _, v, d, rfl, hd12, hk, ?_⟩
        rw [if_neg Bool.false_ne_true]
        refine ⟨_, rfl, _, v, d, rfl, hd12, hk, ?_⟩
        rw [if_pos rfl]
        refine ⟨_, rfl, _, _, rfl, _, rfl, ?_⟩
        rw [Bool.not_not, decide_eq_true (rfl : shownW 6 d = shownW 6 d)]
        refine iteF ?_
        refine ⟨_, rfl, _, v, d, 10000, rfl, hd12, hf.le (Nat.le_refl _) (by decide), le_line (by decide), room_un (k := 10) hr.un, _, rfl, rfl, _, rfl, ?_⟩
        exact iteNS rfl ⟨_, _, _, _, _, rfl, hP12⟩
    · rintro σ H1 ⟨v2, v3, v4, v5, v6, rfl, hP1⟩
      exact k H1
end

end Ow
open PySem PySem.W PyProof.Rows
set_option maxRecDepth 100000 in
set_option maxHeartbeats 0 in
theorem PySem.Challenge.cw_oncewire_k02_names_and_kinds_known_holds : PySem.Challenge.rw_oncewire_k02_names_and_kinds_known.Holds := by
  w_on; o_law; k_head; (case hw => w_witness2)
  k_fill
  refine Ow.walkG (l := PySem.Challenge.rw_oncewire_k02_names_and_kinds_known) (n := 63) (k := 11) (x := Str.ofString "_law_script") (sp := Ow.spLaw) rfl (by decide) rfl ⟨rfl, by decide, by decide⟩ (fun w h Y => PySem.W.kIn_of Y) ?F (fun K H a ns hl _ hS => ⟨a, ns, rfl, hS, hl, fun _ => rfl⟩)
  case F =>
    intro w mg fa h KX G hmg
    have D_is_row : Ow.DefAt (L2.KOf KX) mg (Str.ofString "is_row") Ow.s_is_row [Str.ofString "thing", Str.ofString "least", Str.ofString "most"] := by
      dsimp only [L2.KOf]
      refine' Ow.defAt_mk KX G ?a ?l ?c ?k (fun _ _ _ _ _ _ us hl => match us, hl with | [_, _, _], _ => rfl)
      (case a => k_is); (case l => k_is); (case c => k_is); (case k => k_is)
    have D_is_name : Ow.DefAt (L2.KOf KX) mg (Str.ofString "is_name") Ow.s_is_name [Str.ofString "thing"] := by
      dsimp only [L2.KOf]
      refine' Ow.defAt_mk KX G ?a ?l ?c ?k (fun _ _ _ _ _ _ us hl => match us, hl with | [_], _ => rfl)
      (case a => k_is); (case l => k_is); (case c => k_is); (case k => k_is)
    have D_is_kind : Ow.DefAt (L2.KOf KX) mg (Str.ofString "is_kind") Ow.s_is_kind [Str.ofString "thing"] := by
      dsimp only [L2.KOf]
      refine' Ow.defAt_mk KX G ?a ?l ?c ?k (fun _ _ _ _ _ _ us hl => match us, hl with | [_], _ => rfl)
      (case a => k_is); (case l => k_is); (case c => k_is); (case k => k_is)
    have D_is_kind_within : Ow.DefAt (L2.KOf KX) mg (Str.ofString "is_kind_within") Ow.s_is_kind_within [Str.ofString "thing", Str.ofString "most"] := by
      dsimp only [L2.KOf]
      refine' Ow.defAt_mk KX G ?a ?l ?c ?k (fun _ _ _ _ _ _ us hl => match us, hl with | [_, _], _ => rfl)
      (case a => k_is); (case l => k_is); (case c => k_is); (case k => k_is)
    have D_is_shown : Ow.DefAt (L2.KOf KX) mg (Str.ofString "is_shown") Ow.s_is_shown [Str.ofString "kind"] := by
      dsimp only [L2.KOf]
      refine' Ow.defAt_mk KX G ?a ?l ?c ?k (fun _ _ _ _ _ _ us hl => match us, hl with | [_], _ => rfl)
      (case a => k_is); (case l => k_is); (case c => k_is); (case k => k_is)
    have D_law_pen : Ow.DefAt (L2.KOf KX) mg (Str.ofString "_law_pen") Ow.s_law_pen [Str.ofString "_law_script"] := by
      dsimp only [L2.KOf]
      refine' Ow.defAt_mk KX G ?a ?l ?c ?k (fun _ _ _ _ _ _ us hl => match us, hl with | [_], _ => rfl)
      (case a => k_is); (case l => k_is); (case c => k_is); (case k => k_is)
    have D_law_fresh : Ow.DefAt (L2.KOf KX) mg (Str.ofString "_law_fresh") Ow.s_law_fresh [Str.ofString "_law_pen_here"] := by
      dsimp only [L2.KOf]
      refine' Ow.defAt_mk KX G ?a ?l ?c ?k (fun _ _ _ _ _ _ us hl => match us, hl with | [_], _ => rfl)
      (case a => k_is); (case l => k_is); (case c => k_is); (case k => k_is)
    have D_law_draw : Ow.DefAt (L2.KOf KX) mg (Str.ofString "_law_draw") Ow.s_law_draw [Str.ofString "_law_pen_here", Str.ofString "_law_below"] := by
      dsimp only [L2.KOf]
      refine' Ow.defAt_mk KX G ?a ?l ?c ?k (fun _ _ _ _ _ _ us hl => match us, hl with | [_, _], _ => rfl)
      (case a => k_is); (case l => k_is); (case c => k_is); (case k => k_is)
    have D_law_name : Ow.DefAt (L2.KOf KX) mg (Str.ofString "_law_name") Ow.s_law_name [Str.ofString "_law_pen_here", Str.ofString "_law_gone"] := by
      dsimp only [L2.KOf]
      refine' Ow.defAt_mk KX G ?a ?l ?c ?k (fun _ _ _ _ _ _ us hl => match us, hl with | [_, _], _ => rfl)
      (case a => k_is); (case l => k_is); (case c => k_is); (case k => k_is)
    have D_law_any : Ow.DefAt (L2.KOf KX) mg (Str.ofString "_law_any") Ow.s_law_any [Str.ofString "_law_pen_here", Str.ofString "_law_deep"] := by
      dsimp only [L2.KOf]
      refine' Ow.defAt_mk KX G ?a ?l ?c ?k (fun _ _ _ _ _ _ us hl => match us, hl with | [_, _], _ => rfl)
      (case a => k_is); (case l => k_is); (case c => k_is); (case k => k_is)
    have D_law_spoiled : Ow.DefAt (L2.KOf KX) mg (Str.ofString "_law_spoiled") Ow.s_law_spoiled [Str.ofString "_law_pen_here", Str.ofString "_law_thing", Str.ofString "_law_deep"] := by
      dsimp only [L2.KOf]
      refine' Ow.defAt_mk KX G ?a ?l ?c ?k (fun _ _ _ _ _ _ us hl => match us, hl with | [_, _, _], _ => rfl)
      (case a => k_is); (case l => k_is); (case c => k_is); (case k => k_is)
    have D_law_rough_kind : Ow.DefAt (L2.KOf KX) mg (Str.ofString "_law_rough_kind") Ow.s_law_rough_kind [Str.ofString "_law_pen_here", Str.ofString "_law_deep"] := by
      dsimp only [L2.KOf]
      refine' Ow.defAt_mk KX G ?a ?l ?c ?k (fun _ _ _ _ _ _ us hl => match us, hl with | [_, _], _ => rfl)
      (case a => k_is); (case l => k_is); (case c => k_is); (case k => k_is)
    have D_law_is_name : Ow.DefAt (L2.KOf KX) mg (Str.ofString "_law_is_name") Ow.s_law_is_name [Str.ofString "_law_thing"] := by
      dsimp only [L2.KOf]
      refine' Ow.defAt_mk KX G ?a ?l ?c ?k (fun _ _ _ _ _ _ us hl => match us, hl with | [_], _ => rfl)
      (case a => k_is); (case l => k_is); (case c => k_is); (case k => k_is)
    have D_law_is_kind : Ow.DefAt (L2.KOf KX) mg (Str.ofString "_law_is_kind") Ow.s_law_is_kind [Str.ofString "_law_thing", Str.ofString "_law_deep"] := by
      dsimp only [L2.KOf]
      refine' Ow.defAt_mk KX G ?a ?l ?c ?k (fun _ _ _ _ _ _ us hl => match us, hl with | [_, _], _ => rfl)
      (case a => k_is); (case l => k_is); (case c => k_is); (case k => k_is)
    have D_law_has : Ow.DefAt (L2.KOf KX) mg (Str.ofString "_law_has") Ow.s_law_has [Str.ofString "_law_kind"] := by
      dsimp only [L2.KOf]
      refine' Ow.defAt_mk KX G ?a ?l ?c ?k (fun _ _ _ _ _ _ us hl => match us, hl with | [_], _ => rfl)
      (case a => k_is); (case l => k_is); (case c => k_is); (case k => k_is)
    have D_law_chain : Ow.DefAt (L2.KOf KX) mg (Str.ofString "_law_chain") Ow.s_law_chain [Str.ofString "_law_pen_here", Str.ofString "_law_often"] := by
      dsimp only [L2.KOf]
      refine' Ow.defAt_mk KX G ?a ?l ?c ?k (fun _ _ _ _ _ _ us hl => match us, hl with | [_, _], _ => rfl)
      (case a => k_is); (case l => k_is); (case c => k_is); (case k => k_is)
    have D_law_truth : Ow.DefAt (L2.KOf KX) mg (Str.ofString "_law_truth") Ow.s_law_truth [Str.ofString "_law_found", Str.ofString "_law_due"] := by
      dsimp only [L2.KOf]
      refine' Ow.defAt_mk KX G ?a ?l ?c ?k (fun _ _ _ _ _ _ us hl => match us, hl with | [_, _], _ => rfl)
      (case a => k_is); (case l => k_is); (case c => k_is); (case k => k_is)
    have T : Ow.Bl mg := by
      refine' ⟨PySem.W.mg_none_of KX G ?z0, PySem.W.mg_none_of KX G ?z1, PySem.W.mg_none_of KX G ?z2, PySem.W.mg_none_of KX G ?z3, PySem.W.mg_none_of KX G ?z4, PySem.W.mg_none_of KX G ?z5, PySem.W.mg_none_of KX G ?z6, PySem.W.mg_none_of KX G ?z7, PySem.W.mg_none_of KX G ?z8, PySem.W.mg_none_of KX G ?z9, PySem.W.mg_none_of KX G ?z10, PySem.W.mg_none_of KX G ?z11, PySem.W.mg_none_of KX G ?z12, PySem.W.mg_none_of KX G ?z13, PySem.W.mg_none_of KX G ?z14, PySem.W.mg_none_of KX G ?z15, PySem.W.mg_none_of KX G ?z16, PySem.W.mg_none_of KX G ?z17, PySem.W.mg_none_of KX G ?z18⟩
      (case z0 => k_is); (case z1 => k_is); (case z2 => k_is); (case z3 => k_is); (case z4 => k_is); (case z5 => k_is); (case z6 => k_is); (case z7 => k_is); (case z8 => k_is); (case z9 => k_is); (case z10 => k_is); (case z11 => k_is); (case z12 => k_is); (case z13 => k_is); (case z14 => k_is); (case z15 => k_is); (case z16 => k_is); (case z17 => k_is); (case z18 => k_is)
    have G_LETTERS : Ow.GV mg (Str.ofString "LETTERS") (.str Ow.abc) := by
      refine' Ow.gv_mk KX G ?a ?r
      (case a => k_is); (case r => exact ⟨_, rfl⟩)
    have G_MOST_LETTERS : Ow.GV mg (Str.ofString "MOST_LETTERS") (.int 8) := by
      refine' Ow.gv_mk KX G ?a ?r
      (case a => k_is); (case r => exact ⟨_, rfl⟩)
    have G_MOST_KINDS_WITHIN : Ow.GV mg (Str.ofString "MOST_KINDS_WITHIN") (.int 6) := by
      refine' Ow.gv_mk KX G ?a ?r
      (case a => k_is); (case r => exact ⟨_, rfl⟩)
    obtain ⟨fd, FL, hb⟩ : ∃ fd, L2.Fun (L2.KOf KX) (Str.ofString "law") (Str.ofString "law") Ow.s_law fa fd ∧ ∀ (s : Shared) (u : Value), BindsTo s fd ⟨[u], []⟩ [(Str.ofString "_law_script", u)] := by
      dsimp only [L2.KOf]
      refine' Ow.lawAt_mk KX G hmg ?a ?l ?c ?k ?hb
      (case a => k_is); (case l => k_is); (case c => k_is); (case k => k_is); (case hb => exact fun s u => .of_eq rfl)
    refine ⟨fd, hb, fun base _ _ => ?_⟩
    have c_pen := Ow.ok_pen (P := PySem.Challenge.rw_oncewire_k02_names_and_kinds_known.prog) (w := w) (base := base) D_law_pen T
    have c_fresh := Ow.ok_fresh (P := PySem.Challenge.rw_oncewire_k02_names_and_kinds_known.prog) (w := w) (base := base) D_law_fresh T
    have c_draw := Ow.ok_draw D_law_draw T c_fresh
    have c_name := Ow.ok_name D_law_name T c_draw
    have c_row := Ow.ok_is_row (P := PySem.Challenge.rw_oncewire_k02_names_and_kinds_known.prog) (w := w) (base := base) D_is_row T
    have c_isname := Ow.ok_is_name (P := PySem.Challenge.rw_oncewire_k02_names_and_kinds_known.prog) (w := w) (base := base) D_is_name T G_LETTERS G_MOST_LETTERS
    have c_lisname := Ow.ok_law_is_name (P := PySem.Challenge.rw_oncewire_k02_names_and_kinds_known.prog) (w := w) (base := base) D_law_is_name T
    have c_within := Ow.ok_is_kind_within D_is_kind_within T c_row c_isname 6
    have c_kind := Ow.ok_is_kind D_is_kind T G_MOST_KINDS_WITHIN c_within
    have c_shown := Ow.ok_is_shown (P := PySem.Challenge.rw_oncewire_k02_names_and_kinds_known.prog) (w := w) (base := base) D_is_shown T 6
    have c_has := Ow.ok_has (P := PySem.Challenge.rw_oncewire_k02_names_and_kinds_known.prog) (w := w) (base := base) D_law_has T 6
    have c_lkind := Ow.ok_law_is_kind D_law_is_kind T c_lisname 6
    have c_truth := Ow.ok_truth (P := PySem.Challenge.rw_oncewire_k02_names_and_kinds_known.prog) (w := w) (base := base) D_law_truth T
    have c_any := Ow.ok_any D_law_any T c_draw
    have c_rough := Ow.ok_rough_kind D_law_rough_kind T c_draw c_name 4
    have c_spoil := Ow.ok_spoiled D_law_spoiled T c_draw (c_any 2) ((c_any 1).mono (by decide)) 4
    have c_chain := Ow.ok_chain D_law_chain T c_draw c_name
    exact Ow.ok_law FL T c_pen c_draw c_name (c_any 3) c_chain c_rough c_spoil c_lkind c_lisname c_isname c_kind c_truth c_shown c_has
#print axioms PySem.Challenge.cw_oncewire_k02_names_and_kinds_known_holds
