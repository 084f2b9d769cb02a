import PyProof.Rows.All
import Wide.All
import OpenK.AllK
import Wide.FinOn
import HandS.ForMost
import HandS.IsInst
import HandS.TupAny
import HandS.Flow
import HandS.Style
import HandS.Zip
import HandS.Evl
import PyProof.ReprRoads
import PyProof.FactsAll.dict
import PyProof.EqKinds
import PyProof.P3In
import PySem.Challenge.RW_oncewire_k05_parts_and_uses
set_option Elab.async false
set_option linter.all false
set_option maxRecDepth 100000
set_option maxHeartbeats 4000000
/-! What all our laws over drawn data share: defs and their calls, frames of the heap, the pen that draws, data of any shape. -/
namespace Ow
open PySem PySem.Spec PyProof.Rows L2

/-! ### a def and its calls -/
structure CallOk (P : Program) (w : World) (K : PySem.W.Frag) (mg : Str → Option Value) (base : Heap) (k : Nat) (x : Str) (ps : List Str) (sp : Sp) : Prop where
  ex : ∃ (f : Addr) (fd : FuncData), FnOk P w K mg base CX0 k f fd ps sp ∧ mg x = some (.ref f) ∧ PySem.W.keepIn K (.ref f) = true ∧ Binds K fd ps []
structure DefAt (K : PySem.W.Frag) (mg : Str → Option Value) (x : Str) (st : Stmt) (ps : List Str) : Prop where
  ex : ∃ (f : Addr) (fd : FuncData), Fun K x x st f fd ∧ mg x = some (.ref f) ∧ Binds K fd ps []
section
variable {X : Cx} {k j : Nat} {x : Str} {ps : List Str} {sp : Sp} {p pos : Pos} {e : Expr} {es : List Expr} {t : TA}
theorem pe_callOk (C : CallOk X.prog X.w X.K X.mg X.base k x ps sp) (hr : Room j X.A) (hj : k ≤ j) (hg : Gl X x) (ha : PA X (e :: es) t)
    (hdb : (x == ("__debug__" : Str)) = false := by decide) (he : starEach (e :: es) X.env = (false, eval e X.env) :: starEach es X.env := by rfl)
    (hpl : (backTo pos (starEach es X.env)).any (·.1) = false := by rfl) : PE X (.Call (.Name x p) (e :: es) [] pos) (tCall sp [] E0 t) := by
  obtain ⟨f, fd, F, hm, hk, hb⟩ := C.ex
  exact pe_call F (hr.mono hj) hg hm hk hb .nil pass0 ha hdb he hpl
end
section
variable {P : Program} {w : World} {K : PySem.W.Frag} {mg : Str → Option Value} {base : Heap} {x : Str} {st : Stmt} {N ps : List Str} {k j : Nat} {sp sp' : Sp}
theorem DefAt.ok (D : DefAt K mg x st ps) (S : FnScope N ps (defScope st)) (len : ∀ vs H Q E, sp vs H Q E → vs.length = ps.length)
    (hbody : ∀ (f : Addr) (cdv : Value) (A : Around) (outer : List Env) (s : Shared) (H : Hp) (vs : List V) (Q : VK) (E : XK), Room k (A.deeper (envOfC x (defScope st) s.heap.objs.size f cdv)) → sp vs H Q E →
      ∃ t, PSs (cxOf CX0 P w K mg base N x (defScope st) f cdv A outer s H E).nox (defBody st) t ∧ t { nx := fun _ H' => Q .non H', rt := Q } (start N vs) H) : CallOk P w K mg base (k + 1) x ps sp := by
  obtain ⟨f, fd, F, hm, hb⟩ := D.ex
  exact ⟨f, fd, F.ok S len fun cdv A outer s H vs Q E hr h => hbody f cdv A outer s H vs Q E hr h, hm, F.kp, hb⟩
/-- nothing is promised -/
theorem DefAt.none (D : DefAt K mg x st ps) (S : FnScope N ps (defScope st)) : CallOk P w K mg base 1 x ps (fun _ _ _ _ => False) :=
  D.ok S (fun _ _ _ _ h => h.elim) fun _ _ _ _ _ _ _ _ _ _ h => h.elim
theorem CallOk.mono (C : CallOk P w K mg base j x ps sp) (h : j ≤ k) : CallOk P w K mg base k x ps sp := by
  obtain ⟨f, fd, F, r⟩ := C.ex
  exact ⟨f, fd, F.mono h, r⟩
theorem CallOk.imp (C : CallOk P w K mg base k x ps sp) (h : ∀ vs H Q E, sp' vs H Q E → sp vs H Q E) : CallOk P w K mg base k x ps sp' := by
  obtain ⟨f, fd, F, r⟩ := C.ex
  exact ⟨f, fd, F.imp h, r⟩
end

/-! ### frames: all but the object at p is as it was -/
def Kp (p : Addr) (H H' : Hp) : Prop := ∀ b o, H b = some o → b ≠ p → H' b = some o
section
variable {p q : Addr} {H H1 H2 : Hp} {o : HO}
theorem Kp.refl : Kp p H H := fun _ _ h _ => h
theorem Kp.trans (a : Kp p H H1) (b : Kp p H1 H2) : Kp p H H2 := fun c o h n => b c o (a c o h n) n
theorem Kp.of (s : Same H H1) : Kp p H H1 := fun c o h _ => s c o h
theorem Kp.new (h : H q = none) : Kp p H (upd H q o) := fun c u e _ => by
  rw [upd_ne (ne_of_none e h)]
  exact e
theorem Kp.self : Kp p H (upd H p o) := fun c u e n => by
  rw [upd_ne n]
  exact e
/-- an object that came later is changed -/
theorem Kp.mut (a : Kp p H H1) (h : H q = none) : Kp p H (upd H1 q o) := fun c u e n => by
  rw [upd_ne (ne_of_none e h)]
  exact a c u e n
theorem Kp.put (a : Kp p H H1) : Kp p H (upd H1 p o) := fun c u e n => by
  rw [upd_ne n]
  exact a c u e n
theorem Kp.lay (a : Kp p H H1) (h : H1 q = none) : Kp p H (upd H1 q o) := a.trans (Kp.new h)
theorem Kp.none (a : Kp p H H1) (h : H1 q = none) (n : q ≠ p) : H q = none := by
  cases e : H q with
  | none => rfl
  | some u =>
    rw [a q u e n] at h
    cases h
theorem same_new (h : H q = none) : Same H (upd H q o) := fun c u e => by
  rw [upd_ne (ne_of_none e h)]
  exact e
theorem Same.lay (a : Same H H1) (h : H1 q = none) : Same H (upd H1 q o) := a.trans (same_new h)
theorem Same.mut (a : Same H H1) (h : H q = none) : Same H (upd H1 q o) := fun c u e => by
  rw [upd_ne (ne_of_none e h)]
  exact a c u e
end

/-! ### sums of any kind -/
abbrev rAddAny (K : PySem.W.Frag) : R2 := fun x y H Q => rI0 (fun i j => .int (i + j)) x y H Q ∨ ((∃ i j, x = .str i ∧ y = .str j ∧ i.length + j.length ≤ sizeLine ∧ Q (.str (i ++ j)) H) ∨ (rCatA K x y H Q ∨ rCat x y H Q))
theorem opAdd {X : Cx} : OpR X (binaryOp .Add) (rAddAny X.K) := op_add.or (op_add_str.or (op_catA.or op_cat))

/-! ### the pen -/
def Pen (H : Hp) (p c : Addr) : Prop := (∃ z r, H p = some (.lst [.ref c, .int z, .int r])) ∧ ∃ cs : List Int, H c = some (.lst (cs.map V.int)) ∧ cs.length ≤ 63
section
variable {H H' : Hp} {p c q : Addr} {o : HO}
theorem Pen.ne (h : Pen H p c) : c ≠ p := by
  obtain ⟨⟨z, r, h1⟩, cs, h2, _⟩ := h
  rintro rfl
  rw [h1] at h2
  cases cs with
  | nil => cases h2
  | cons a t =>
    have e : [V.ref c, .int z, .int r] = (a :: t).map V.int := by
      injection h2 with h2
      injection h2
    rw [List.map_cons] at e
    injection e with e _
    cases e
theorem Pen.keep (h : Pen H p c) (n1 : q ≠ p) (n2 : q ≠ c) : Pen (upd H q o) p c := by
  obtain ⟨⟨z, r, h1⟩, cs, h2, hl⟩ := h
  exact ⟨⟨z, r, by rw [upd_ne n1.symm]; exact h1⟩, cs, by rw [upd_ne n2.symm]; exact h2, hl⟩
theorem Pen.neP (h : Pen H p c) (hq : H q = none) : q ≠ p := by
  obtain ⟨⟨z, r, h1⟩, _⟩ := h
  exact (ne_of_none h1 hq).symm
theorem Pen.neC (h : Pen H p c) (hq : H q = none) : q ≠ c := by
  obtain ⟨_, cs, h2, _⟩ := h
  exact (ne_of_none h2 hq).symm
theorem Pen.new (h : Pen H p c) (hq : H q = none) : Pen (upd H q o) p c := h.keep (h.neP hq) (h.neC hq)
theorem Pen.put {z r : Int} (h : Pen H p c) : Pen (upd H p (.lst [.ref c, .int z, .int r])) p c := by
  have n := h.ne
  obtain ⟨_, cs, h2, hl⟩ := h
  exact ⟨⟨z, r, upd_same⟩, cs, by rw [upd_ne n]; exact h2, hl⟩
theorem Pen.same (h : Pen H p c) (s : Same H H') : Pen H' p c := by
  obtain ⟨⟨z, r, h1⟩, cs, h2, hl⟩ := h
  exact ⟨⟨z, r, s _ _ h1⟩, cs, s _ _ h2, hl⟩
end

/-! ### data: None, truths, numbers, texts, tuples, lists and dicts (none of some) -/
def kD : Key → PyData
  | .inl i => .int i
  | .inr x => .str x
mutual
inductive Da (K : PySem.W.Frag) (N : Addr → Prop) (H : Hp) : V → PyData → Prop
  | non : Da K N H .non .none
  | bl (b : Bool) : Da K N H (.bl b) (.bool b)
  | int (i : Int) : Da K N H (.int i) (.int i)
  | str (x : Str) : Da K N H (.str x) (.str x)
  | lst {a : Addr} {xs : List V} {ds : List PyData} : H a = some (.lst xs) → ¬ N a → DaAll K N H xs ds → Da K N H (.ref a) (.list ds)
  | tup {a : Addr} {xs : List V} {ds : List PyData} : SqT K H a xs → DaAll K N H xs ds → Da K N H (.ref a) (.tuple ds)
  | dct {a : Addr} {kvs : List (Key × V)} {ds : List PyData} : H a = some (.dK kvs) → ¬ N a → DaAll K N H (kvs.map (·.2)) ds → Da K N H (.ref a) (.dict ((kvs.map fun kv => kD kv.1).zip ds))
inductive DaAll (K : PySem.W.Frag) (N : Addr → Prop) (H : Hp) : List V → List PyData → Prop
  | nil : DaAll K N H [] []
  | cons {v : V} {vs : List V} {d : PyData} {ds : List PyData} : Da K N H v d → DaAll K N H vs ds → DaAll K N H (v :: vs) (d :: ds)
end
/-- what is tracked -/
def Tk (H : Hp) : Addr → Prop := fun a => H a ≠ none
theorem Tk.of {H : Hp} {a : Addr} {o : HO} (h : H a = some o) : Tk H a := fun e => by
  rw [h] at e
  cases e
theorem Tk.kp {H H' : Hp} {p : Addr} (k : Kp p H H') (hp : Tk H' p) : ∀ a, Tk H a → Tk H' a := fun a h => by
  by_cases e : a = p
  · rw [e]
    exact hp
  · cases q : H a with
    | none => exact absurd q h
    | some o => exact Tk.of (k a o q e)
theorem Pen.tk {H : Hp} {p c : Addr} (h : Pen H p c) : Tk H p := by
  obtain ⟨⟨z, r, e⟩, _⟩ := h
  exact Tk.of e
/-- nothing that reads as a tuple stands at p -/
def NoTup (H : Hp) (p : Addr) : Prop := ∀ xs, ¬ Rd H p (.tup xs)
theorem Pen.noTup {H : Hp} {p c : Addr} (h : Pen H p c) : NoTup H p := fun xs r => by
  obtain ⟨⟨z, u, h1⟩, _⟩ := h
  rcases r with r | ⟨o, r⟩
  · rw [h1] at r
    cases r
  · rw [h1] at r
    cases r
section
variable {K : PySem.W.Frag} {N N' : Addr → Prop} {p : Addr} {H H' : Hp}
theorem sqT_kp {a : Addr} {xs : List V} (k : Kp p H H') (n : NoTup H p) (h : SqT K H a xs) : SqT K H' a xs := by
  rcases h with h | h
  · by_cases e : a = p
    · subst e
      exact (n xs h).elim
    · rcases h with h | ⟨o, h⟩
      · exact .inl (.inl (k _ _ h e))
      · exact .inl (.inr ⟨o, k _ _ h e⟩)
  · exact .inr h
theorem sqL_kp {a : Addr} {xs : List V} (k : Kp p H H') (n : a ≠ p) (h : SqL K H a xs) : SqL K H' a xs := by
  rcases h with h | h
  · rcases h with h | ⟨o, h⟩
    · exact .inl (.inl (k _ _ h n))
    · exact .inl (.inr ⟨o, k _ _ h n⟩)
  · exact .inr h
mutual
theorem Da.kp (k : Kp p H H') (n : NoTup H p) (q : N p) : ∀ {v : V} {d : PyData}, Da K N H v d → Da K N H' v d
  | _, _, .non => .non
  | _, _, .bl b => .bl b
  | _, _, .int i => .int i
  | _, _, .str x => .str x
  | _, _, .lst h ne r => .lst (k _ _ h fun e => ne (e ▸ q)) ne (DaAll.kp k n q r)
  | _, _, .tup h r => .tup (sqT_kp k n h) (DaAll.kp k n q r)
  | _, _, .dct h ne r => .dct (k _ _ h fun e => ne (e ▸ q)) ne (DaAll.kp k n q r)
theorem DaAll.kp (k : Kp p H H') (n : NoTup H p) (q : N p) : ∀ {vs : List V} {ds : List PyData}, DaAll K N H vs ds → DaAll K N H' vs ds
  | _, _, .nil => .nil
  | _, _, .cons a r => .cons (Da.kp k n q a) (DaAll.kp k n q r)
end
mutual
theorem Da.less (k : ∀ a, N' a → N a) : ∀ {v : V} {d : PyData}, Da K N H v d → Da K N' H v d
  | _, _, .non => .non
  | _, _, .bl b => .bl b
  | _, _, .int i => .int i
  | _, _, .str x => .str x
  | _, _, .lst h ne r => .lst h (fun z => ne (k _ z)) (DaAll.less k r)
  | _, _, .tup h r => .tup h (DaAll.less k r)
  | _, _, .dct h ne r => .dct h (fun z => ne (k _ z)) (DaAll.less k r)
theorem DaAll.less (k : ∀ a, N' a → N a) : ∀ {vs : List V} {ds : List PyData}, DaAll K N H vs ds → DaAll K N' H vs ds
  | _, _, .nil => .nil
  | _, _, .cons a r => .cons (Da.less k a) (DaAll.less k r)
end
theorem DaAll.length : ∀ {vs : List V} {ds : List PyData}, DaAll K N H vs ds → vs.length = ds.length
  | _, _, .nil => rfl
  | _, _, .cons _ r => by rw [List.length_cons, List.length_cons, DaAll.length r]
theorem DaAll.get : ∀ {vs : List V} {ds : List PyData}, DaAll K N H vs ds → ∀ {i : Nat} {v : V}, vs[i]? = some v → ∃ d, ds[i]? = some d ∧ Da K N H v d
  | _, _, .nil, _, _, e => by simp at e
  | _, _, .cons a r, 0, _, e => by
    simp only [List.getElem?_cons_zero, Option.some.injEq] at e
    subst e
    exact ⟨_, rfl, a⟩
  | _, _, .cons a r, i + 1, _, e => by
    simp only [List.getElem?_cons_succ] at e
    obtain ⟨d, h1, h2⟩ := DaAll.get r e
    exact ⟨d, by simpa using h1, h2⟩
theorem DaAll.append : ∀ {vs us : List V} {ds es : List PyData}, DaAll K N H vs ds → DaAll K N H us es → DaAll K N H (vs ++ us) (ds ++ es)
  | _, _, _, _, .nil, s => s
  | _, _, _, _, .cons a r, s => .cons a (DaAll.append r s)
theorem DaAll.take : ∀ {vs : List V} {ds : List PyData} (n : Nat), DaAll K N H vs ds → DaAll K N H (vs.take n) (ds.take n)
  | _, _, 0, _ => .nil
  | _, _, _ + 1, .nil => .nil
  | _, _, n + 1, .cons a r => .cons a (DaAll.take n r)
theorem DaAll.drop : ∀ {vs : List V} {ds : List PyData} (n : Nat), DaAll K N H vs ds → DaAll K N H (vs.drop n) (ds.drop n)
  | _, _, 0, r => r
  | _, _, _ + 1, .nil => .nil
  | _, _, n + 1, .cons _ r => DaAll.drop n r
end

/-! ### how long what is shown is, how deep -/
theorem joinLen : ∀ ts : List Str, (Str.join ", " ts).length ≤ (ts.map fun t => t.length + 2).sum
  | [] => by decide
  | [x] => by
    show x.length ≤ _
    simp
  | x :: y :: r => by
    have ih := joinLen (y :: r)
    have e : (Str.join ", " (x :: y :: r)).length = x.length + 2 + (Str.join ", " (y :: r)).length := by
      show (x ++ ", " ++ Str.join ", " (y :: r)).length = _
      rw [strLen_append, strLen_append]
      rfl
    rw [e, List.map_cons, List.sum_cons]
    omega
end Ow

namespace Ow
open PySem PySem.Spec PyProof.Rows L2

/-! ### how long what is shown is -/
mutual
/-- at least as long as what is shown; each place of a row and a brace counted with it -/
def wt : PyData → Nat
  | .none => 4
  | .bool _ => 5
  | .int i => (toString i : Str).length
  | .str x => (reprText x).length + x.length
  | .list xs => wtAll xs + 4
  | .tuple xs => wtAll xs + 4
  | .dict kvs => wtKv kvs + 4
def wtAll : List PyData → Nat
  | [] => 0
  | x :: xs => wt x + 2 + wtAll xs
def wtKv : List (PyData × PyData) → Nat
  | [] => 0
  | (k, v) :: r => wt k + wt v + 4 + wtKv r
end
theorem textFromLen : ∀ (ts : List Str) (k : Nat) (acc : Str), (textFrom k acc ts).length ≤ acc.length + (ts.map fun t => t.length + 2).sum
  | [], k, acc => by
    show acc.length ≤ _
    simp
  | t :: r, k, acc => by
    have ih := textFromLen r (k + 1) (acc ++ (if k > 0 then ", " else "" : String) ++ t)
    have e : (acc ++ (if k > 0 then ", " else "" : String) ++ t).length ≤ acc.length + 2 + t.length := by
      rw [strLen_append, strLen_append]
      by_cases h : k > 0
      · rw [if_pos h]
        show acc.length + 2 + t.length ≤ _
        omega
      · rw [if_neg h]
        show acc.length + 0 + t.length ≤ _
        omega
    show (textFrom (k + 1) (acc ++ (if k > 0 then ", " else "" : String) ++ t) r).length ≤ _
    rw [List.map_cons, List.sum_cons]
    omega
theorem listTextLen (ts : List Str) : (listText ts).length ≤ (ts.map fun t => t.length + 2).sum + 4 := by
  have h := textFromLen ts 0 "["
  have e : (listText ts).length = (textFrom 0 "[" ts).length + 1 := by
    unfold listText
    rw [strLen_append]
    rfl
  have e1 : (("[" : String) : Str).length = 1 := rfl
  rw [e]
  rw [e1] at h
  omega
theorem tupleTextLen (ts : List Str) : (tupleText ts).length ≤ (ts.map fun t => t.length + 2).sum + 4 := by
  have h := joinLen ts
  have e : (tupleText ts).length ≤ 1 + (Str.join ", " ts).length + 2 := by
    unfold tupleText
    rw [strLen_append, strLen_append]
    by_cases q : (ts.length == 1) = true
    · rw [if_pos q]
      exact Nat.le_refl _
    · rw [if_neg q]
      show 1 + (Str.join ", " ts).length + 1 ≤ _
      omega
  omega
theorem dictTextLen (ts : List Str) : (dictText ts).length ≤ (ts.map fun t => t.length + 2).sum + 4 := by
  have h := joinLen ts
  have e : (dictText ts).length = 1 + (Str.join ", " ts).length + 1 := by
    unfold dictText
    rw [strLen_append, strLen_append]
    rfl
  omega
mutual
theorem shownLen : ∀ d : PyData, d.shown.length ≤ wt d
  | .none => by decide
  | .bool b => by
    cases b
    · decide
    · decide
  | .int i => by
    simp only [PyData.shown, wt]
    exact Nat.le_refl _
  | .str x => by
    simp only [PyData.shown, wt]
    exact Nat.le_add_right _ _
  | .list xs => by
    simp only [PyData.shown, wt]
    have h := listTextLen (PyData.shownAll xs)
    have h2 := shownAllLen xs
    omega
  | .tuple xs => by
    simp only [PyData.shown, wt]
    have h := tupleTextLen (PyData.shownAll xs)
    have h2 := shownAllLen xs
    omega
  | .dict kvs => by
    simp only [PyData.shown, wt]
    have h := dictTextLen (PyData.shownKv kvs)
    have h2 := shownKvLen kvs
    omega
theorem shownAllLen : ∀ ds : List PyData, ((PyData.shownAll ds).map fun t => t.length + 2).sum ≤ wtAll ds
  | [] => by simp [PyData.shownAll, wtAll]
  | d :: ds => by
    have h1 := shownLen d
    have h2 := shownAllLen ds
    simp only [PyData.shownAll, wtAll, List.map_cons, List.sum_cons]
    omega
theorem shownKvLen : ∀ ds : List (PyData × PyData), ((PyData.shownKv ds).map fun t => t.length + 2).sum ≤ wtKv ds
  | [] => by simp [PyData.shownKv, wtKv]
  | (k, v) :: r => by
    have h1 := shownLen k
    have h2 := shownLen v
    have h3 := shownKvLen r
    simp only [PyData.shownKv, wtKv, List.map_cons, List.sum_cons]
    have e : (PyData.shown k ++ (": " : Str) ++ PyData.shown v).length = (PyData.shown k).length + 2 + (PyData.shown v).length := by
      rw [strLen_append, strLen_append]
      rfl
    rw [e]
    omega
end
/-- data that repr may be asked of: what is shown at most n long, at most m deep -/
structure Fit (n m : Nat) (d : PyData) : Prop where
  sh : d.showable = true
  wt : wt d ≤ n
  dp : d.depth ≤ m
theorem Fit.le {n m n' m' : Nat} {d : PyData} (f : Fit n m d) (h : n ≤ n') (k : m ≤ m') : Fit n' m' d := ⟨f.sh, Nat.le_trans f.wt h, Nat.le_trans f.dp k⟩

/-! ### what stands in the heap, read as data -/
section
variable {X : Cx} {pins : List (Addr × Obj)} {σ : L2.St} {H : Hp} {s : Shared} {N : Addr → Prop}
theorem pairs_read {P : Program} {w : World} {h : Heap} : ∀ {kvs : List (Key × V)} {vs : List (Key × Value)} {el : List DictEntry}, KV kvs vs → Pairs (mixKind P w) el vs →
    Vals (kvs.map (·.2)) (el.map (·.val)) ∧ ReadsAll h (el.map (·.key)) (kvs.map fun q => kD q.1) []
  | _, _, _, .nil, .nil => ⟨.nil, .nil⟩
  | _, _, _, .cons (a := a) (b := b) q r, .cons (e := e) h1 h2 h3 => by
    obtain ⟨i1, i2⟩ := pairs_read (h := h) r h3
    refine ⟨.cons (by show RelV a.2 e.val; rw [h2]; exact q.2) i1, ?_⟩
    have hk : Reads h e.key (kD a.1) [] := by
      rw [q.1]
      rcases keyIs_shape (k := b.1) (v := e.key) h1 with ⟨i, t, z, z2⟩ | ⟨x, t, z, z2⟩
      · rw [z, z2]
        exact .int i t
      · rw [z, z2]
        exact .str x t
    exact .cons hk i2
theorem list_nsys (I : Inv X pins σ H s) (hs : ∃ o, s.heap.get? sysModules = some o ∧ o.cls ≠ .type "list") {a : Addr} {xs : List V} (h : H a = some (.lst xs)) : a ≠ sysModules := by
  rintro rfl
  obtain ⟨o, e, c⟩ := hs
  obtain ⟨_, its, n, _, q⟩ := I.hok _ _ h
  rw [e] at q
  cases q
  exact c rfl
mutual
theorem Da.reads (I : Inv X pins σ H s) : ∀ {v : V} {d : PyData}, Da X.K N H v d → ∀ {u : Value}, RelV v u → ∃ as, Reads s.heap u d as ∧ ((∃ o, s.heap.get? sysModules = some o ∧ o.cls ≠ .type "list") → sysModules ∉ as)
  | _, _, .non, _, r => by
    cases r
    exact ⟨_, .none, fun _ z => nomatch z⟩
  | _, _, .bl b, _, r => by
    cases r
    exact ⟨_, .bool b, fun _ z => nomatch z⟩
  | _, _, .int i, _, r => by
    obtain ⟨t, rfl⟩ := r
    exact ⟨_, .int i t, fun _ z => nomatch z⟩
  | _, _, .str x, _, r => by
    obtain ⟨t, rfl⟩ := r
    exact ⟨_, .str x t, fun _ z => nomatch z⟩
  | _, _, .lst h ne ra, _, r => by
    cases r
    obtain ⟨its, rv, ⟨o, n, ho, hc, _, hd⟩, _⟩ := I.list (SqL.of h)
    obtain ⟨as, hr, hn⟩ := DaAll.reads I ra rv
    refine ⟨_, .list ho hc hd hr, fun hs z => ?_⟩
    rcases List.mem_cons.mp z with e | z
    · exact list_nsys I hs h e.symm
    · exact hn hs z
  | _, _, .tup h ra, _, r => by
    cases r
    obtain ⟨its, rv, ⟨o, ho, hc, n, hd⟩, _⟩ := I.tuple h
    obtain ⟨as, hr, hn⟩ := DaAll.reads I ra rv
    exact ⟨_, .tuple ho hc hd hr, hn⟩
  | _, _, .dct (kvs := kvs) (ds := ds) h ne ra, _, r => by
    cases r
    obtain ⟨_, hsys, vs, kv, o, es, ep, ho, hx, hd, hko, hpr, _⟩ := I.hok _ _ h
    obtain ⟨q1, q2⟩ := pairs_read (h := s.heap) kv hpr
    obtain ⟨as, hr, hn⟩ := DaAll.reads I ra q1
    have hl : (kvs.map fun q => kD q.1).length = ds.length := by
      rw [List.length_map, ← DaAll.length ra, List.length_map]
    refine ⟨_, .dict (as := []) (bs := as) ho hx.1 hd ?_ ?_, fun hs z => ?_⟩
    · rw [List.map_fst_zip (Nat.le_of_eq hl)]
      exact q2
    · rw [List.map_snd_zip (Nat.le_of_eq hl.symm)]
      exact hr
    · rcases List.mem_cons.mp z with e | z
      · rw [← e] at hsys
        exact absurd hsys (by decide)
      · exact hn hs z
theorem DaAll.reads (I : Inv X pins σ H s) : ∀ {vs : List V} {ds : List PyData}, DaAll X.K N H vs ds → ∀ {us : List Value}, Vals vs us → ∃ as, ReadsAll s.heap us ds as ∧ ((∃ o, s.heap.get? sysModules = some o ∧ o.cls ≠ .type "list") → sysModules ∉ as)
  | _, _, .nil, _, r => by
    cases r
    exact ⟨_, .nil, fun _ z => nomatch z⟩
  | _, _, .cons a ra, _, r => by
    cases r with
    | cons r1 r2 =>
      obtain ⟨as, h1, n1⟩ := Da.reads I a r1
      obtain ⟨bs, h2, n2⟩ := DaAll.reads I ra r2
      exact ⟨_, .cons h1 h2, fun hs z => (List.mem_append.mp z).elim (n1 hs) (n2 hs)⟩
end
end
/-! ### what is shown, item by item -/
section
variable {X : Cx} {pins : List (Addr × Obj)} {σ : L2.St} {H : Hp} {s : Shared} {N : Addr → Prop}
theorem reads_of (I : Inv X pins σ H s) {v : V} {d : PyData} (h : Da X.K N H v d) {u : Value} (r : RelV v u) : ∃ as, Reads s.heap u d as :=
  let ⟨as, q, _⟩ := Da.reads I h r
  ⟨as, q⟩
theorem out_of {a : Addr} {d : PyData} {as bs : List Addr} {h : Heap} (r : Reads h (.ref a) d as) {n : Nat} (hb : ReadAtMost h n bs) (hn : n < d.depth) : a ∉ bs ∧ ReadAtMost h d.depth (a :: bs) :=
  ⟨not_mem_of_deeper r hn hb, .cons r (Nat.le_of_lt hn) hb⟩
theorem dct_of (I : Inv X pins σ H s) {a : Addr} {kvs : List (Key × V)} {ds : List PyData} (h : H a = some (.dK kvs)) (ne : ¬ N a) (ra : DaAll X.K N H (kvs.map (·.2)) ds)
    (hz : (dictText (PyData.shownKv ((kvs.map fun q => kD q.1).zip ds))).length ≤ sizeLine) (hs : PyData.showableKv ((kvs.map fun q => kD q.1).zip ds) = true)
    (vals : ∀ {us : List Value}, Vals (kvs.map (·.2)) us → PyData.showableAll ds = true → (∀ t ∈ PyData.shownAll ds, t.length ≤ sizeLine) →
      ∃ bs, ReadAtMost s.heap (PyData.depthAll ds) bs ∧ ReprAllK X.prog X.w bs s.heap (PyData.depthAll ds) us (PyData.shownAll ds)) :
    ∃ (o : Obj) (es : Array DictEntry) (ep : Nat) (bs : List Addr), s.heap.get? a = some o ∧ o.cls = .type "dict" ∧ o.data = .dict es ep ∧ (a == sysModules) = false ∧ a ∉ bs ∧
      ReadAtMost s.heap (PyData.dict ((kvs.map fun q => kD q.1).zip ds)).depth (a :: bs) ∧ ReprEntriesK X.prog X.w bs s.heap (PyData.depthKv ((kvs.map fun q => kD q.1).zip ds)) es.toList (PyData.shownKv ((kvs.map fun q => kD q.1).zip ds)) := by
  obtain ⟨as, rd⟩ := reads_of I (.dct h ne ra) (u := .ref a) rfl
  obtain ⟨_, hsys, vs, kv, o, es, ep, ho, hx, hd, hko, hpr, _⟩ := I.hok _ _ h
  obtain ⟨q1, q2⟩ := pairs_read (h := s.heap) kv hpr
  have hl : (kvs.map fun q => kD q.1).length = ds.length := by
    rw [List.length_map, ← DaAll.length ra, List.length_map]
  have e1 : (((kvs.map fun q => kD q.1)).zip ds).map (·.1) = kvs.map fun q => kD q.1 := List.map_fst_zip (Nat.le_of_eq hl)
  have e2 : (((kvs.map fun q => kD q.1)).zip ds).map (·.2) = ds := List.map_snd_zip (Nat.le_of_eq hl.symm)
  obtain ⟨s1, s2⟩ := PyData.showableKv_split _ hs
  have zk := fun t ht => Nat.le_trans (let ⟨y, hy, hl⟩ := PyData.shownKv_key_le ((kvs.map fun q => kD q.1).zip ds) t ht; Nat.le_trans hl (dictText_mem_le hy)) hz
  have zv := fun t ht => Nat.le_trans (let ⟨y, hy, hl⟩ := PyData.shownKv_val_le ((kvs.map fun q => kD q.1).zip ds) t ht; Nat.le_trans hl (dictText_mem_le hy)) hz
  have d1 := PyData.depthAll_keys_le (((kvs.map fun q => kD q.1)).zip ds)
  have d2 := PyData.depthAll_vals_le (((kvs.map fun q => kD q.1)).zip ds)
  rw [e1] at s1 zk d1
  rw [e2] at s2 zv d2
  obtain ⟨b1, hb1, k1⟩ := ReprAllK.of_readsAll (prog := X.prog) (w := X.w) q2 s1 (fun _ z => nomatch z) zk
  obtain ⟨b2, hb2, k2⟩ := vals q1 s2 zv
  obtain ⟨o1, o2⟩ := out_of rd ((hb1.mono d1).append (hb2.mono d2)) (by rw [PyData.depth]; exact Nat.lt_succ_self _)
  refine ⟨o, es, ep, b1 ++ b2, ho, hx.1, hd, hsys, o1, o2, ?_⟩
  rw [PyData.shownKv_eq, e1, e2]
  exact .of_two es.toList _ _ (k1.more_le (fun b z => List.mem_append_left _ z) d1) (k2.more_le (fun b z => List.mem_append_right _ z) d2)
mutual
theorem Da.rk (I : Inv X pins σ H s) : ∀ {v : V} {d : PyData}, Da X.K N H v d → ∀ {u : Value}, RelV v u → d.showable = true → d.shown.length ≤ sizeLine →
    ∃ bs, ReadAtMost s.heap d.depth bs ∧ ReprK X.prog X.w bs s.heap d.depth u d.shown
  | _, _, .non, _, r, _, _ => by
    cases r
    refine ⟨[], fun _ z => (nomatch z), ?_⟩
    rw [PyData.shown]
    exact .of_is .none _ _ _
  | _, _, .bl b, _, r, _, _ => by
    cases r
    refine ⟨[], fun _ z => (nomatch z), ?_⟩
    rw [PyData.shown]
    exact .of_is (.bool b) _ _ _
  | _, _, .int i, _, r, hs, _ => by
    obtain ⟨t, rfl⟩ := r
    refine ⟨[], fun _ z => (nomatch z), ?_⟩
    rw [PyData.showable, decide_eq_true_eq] at hs
    rw [PyData.shown]
    exact .of_is (.int t hs) _ _ _
  | _, _, .str x, _, r, _, hz => by
    obtain ⟨t, rfl⟩ := r
    refine ⟨[], fun _ z => (nomatch z), ?_⟩
    rw [PyData.shown] at hz ⊢
    exact .of_is (.str x t hz) _ _ _
  | _, _, .lst (a := a) (ds := ds) h ne ra, _, r, hs, hz => by
    cases r
    obtain ⟨as, rd⟩ := reads_of I (.lst h ne ra) (u := .ref a) rfl
    obtain ⟨its, rv, ⟨o, n, ho, hc, _, hd⟩, _⟩ := I.list (SqL.of h)
    rw [PyData.showable] at hs
    rw [PyData.shown] at hz ⊢
    obtain ⟨bs, hb, hk⟩ := DaAll.rk I ra rv hs fun t ht => Nat.le_trans (listText_mem_le ht) hz
    obtain ⟨o1, o2⟩ := out_of rd hb (by rw [PyData.depth]; exact Nat.lt_succ_self _)
    refine ⟨a :: bs, o2, ?_⟩
    rw [PyData.depth]
    cases its with
    | nil =>
      cases rv
      cases ra
      rw [PyData.shownAll, listText_nil]
      exact .listEmpty ho hc hd
    | cons y t =>
      refine .list ho hc hd o1 ?_ fun i z e => hk.item i z ?_
      · simpa using hk.length_eq
      · simpa using e
  | _, _, .tup (a := a) h ra, _, r, hs, hz => by
    cases r
    obtain ⟨as, rd⟩ := reads_of I (.tup (N := N) h ra) (u := .ref a) rfl
    obtain ⟨its, rv, ⟨o, ho, hc, n, hd⟩, _⟩ := I.tuple h
    rw [PyData.showable] at hs
    rw [PyData.shown] at hz ⊢
    obtain ⟨bs, hb, hk⟩ := DaAll.rk I ra rv hs fun t ht => Nat.le_trans (tupleText_mem_le ht) hz
    obtain ⟨o1, o2⟩ := out_of rd hb (by rw [PyData.depth]; exact Nat.lt_succ_self _)
    refine ⟨a :: bs, o2, ?_⟩
    rw [PyData.depth]
    exact .tuple ho hc hd o1 (by simpa using hk)
  | _, _, .dct (a := a) (kvs := kvs) (ds := ds) h ne ra, _, r, hs, hz => by
    cases r
    rw [PyData.showable] at hs
    rw [PyData.shown] at hz ⊢
    obtain ⟨o, es, ep, bs, h1, h2, h3, h4, h5, h6, h7⟩ := dct_of I h ne ra hz hs fun rv s2 z2 => DaAll.rk I ra rv s2 z2
    refine ⟨a :: bs, h6, ?_⟩
    rw [PyData.depth]
    exact .dict h1 h2 h3 h4 h5 h7
theorem DaAll.rk (I : Inv X pins σ H s) : ∀ {vs : List V} {ds : List PyData}, DaAll X.K N H vs ds → ∀ {us : List Value}, Vals vs us → PyData.showableAll ds = true → (∀ t ∈ PyData.shownAll ds, t.length ≤ sizeLine) →
    ∃ bs, ReadAtMost s.heap (PyData.depthAll ds) bs ∧ ReprAllK X.prog X.w bs s.heap (PyData.depthAll ds) us (PyData.shownAll ds)
  | _, _, .nil, _, r, _, _ => by
    cases r
    refine ⟨[], fun _ z => (nomatch z), ?_⟩
    rw [PyData.shownAll]
    exact .nil
  | _, _, .cons (d := d) (ds := ds) a ra, _, r, hs, hz => by
    cases r with
    | cons r1 r2 =>
      rw [PyData.showableAll, Bool.and_eq_true] at hs
      rw [PyData.shownAll] at hz ⊢
      obtain ⟨b1, h1, k1⟩ := Da.rk I a r1 hs.1 (hz _ (List.mem_cons_self ..))
      obtain ⟨b2, h2, k2⟩ := DaAll.rk I ra r2 hs.2 fun t ht => hz t (List.mem_cons_of_mem _ ht)
      rw [PyData.depthAll]
      exact ⟨b1 ++ b2, .append (h1.mono (Nat.le_max_left _ _)) (h2.mono (Nat.le_max_right _ _)),
        .cons ((k1.more fun b z => List.mem_append_left _ z).level_le (Nat.le_max_left _ _)) (k2.more_le (fun b z => List.mem_append_right _ z) (Nat.le_max_right _ _))⟩
end
end
section
variable {X : Cx}
/-- repr of data: nothing else is shown around, and there is room -/
def rRepr (K : PySem.W.Frag) (un : Nat) : List V → Hp → VK → Prop := fun xs H Q => ∃ (N : Addr → Prop) (v : V) (d : PyData) (n : Nat), xs = [v] ∧ Da K N H v d ∧ Fit n 150 d ∧ n ≤ sizeLine ∧
  un + 151 < cLine ∧ Q (.str d.shown) H
theorem call_reprD (hg : X.A.guards = some []) : CallR X (.builtin "repr") (rRepr X.K X.A.units) := by
  intro pins s σ H xs us Q I r h
  obtain ⟨N, v, d, n, rfl, hd, hf, hn, hu, q⟩ := h
  obtain ⟨u, rfl, r1⟩ := vals1 r
  have hz : d.shown.length ≤ sizeLine := Nat.le_trans (shownLen d) (Nat.le_trans hf.wt hn)
  have hdp := hf.dp
  have hsh := hf.sh
  have fin : ∀ (h' : Heap) (u : Tok) (tk : Nat), (∀ b o, s.heap.get? b = some o → h'.get? b = some o) → EP X pins σ Q (.str d.shown u) { s with heap := h', toks := tk } := fun h' u tk k => ⟨.str _, H, I.kept k, ⟨u, rfl⟩, q⟩
  cases hd with
  | non =>
    cases r1
    exact PySem.P.repr_of_none ⟨.str _, H, I.tok _, ⟨_, rfl⟩, q⟩
  | bl b =>
    cases r1
    exact PySem.P.repr_of_bool ⟨.str _, H, I.tok _, ⟨_, rfl⟩, q⟩
  | int i =>
    obtain ⟨t, rfl⟩ := r1
    rw [PyData.showable, decide_eq_true_eq] at hsh
    exact PySem.P.repr_of_int hsh ⟨.str _, H, I.tok _, ⟨_, rfl⟩, q⟩
  | str x =>
    obtain ⟨t, rfl⟩ := r1
    exact PySem.P.repr_of_str ⟨.str _, H, I.tok _, ⟨_, rfl⟩, q⟩ hz
  | @lst a xs ds h1 h2 h3 =>
    cases r1
    obtain ⟨as, rd⟩ := reads_of I (.lst h1 h2 h3) (u := .ref a) rfl
    obtain ⟨its, rv, ⟨o, m, ho, hc, _, hdt⟩, _⟩ := I.list (SqL.of h1)
    rw [PyData.showable] at hsh
    rw [PyData.shown] at hz fin
    rw [PyData.depth] at hdp
    obtain ⟨bs, hb, hk⟩ := DaAll.rk I h3 rv hsh fun t ht => Nat.le_trans (listText_mem_le ht) hz
    obtain ⟨o1, _⟩ := out_of rd hb (by rw [PyData.depth]; exact Nat.lt_succ_self _)
    refine call_repr_slot (by omega) ⟨o, ho, hc⟩ PySem.F.slot_list_repr.toG ?_
    cases its with
    | nil =>
      cases rv
      cases h3
      rw [PyData.shownAll, listText_nil] at fin
      exact call_list_repr_empty ⟨o, ho, hc⟩ ho hdt ⟨_, _, rfl, fin s.heap _ _ fun _ _ e => e⟩
    | cons y t =>
      refine call_list_reprK ho hc hdt o1 ?_ (fun i z e => hk.item i z ?_) hg (fun b _ => Clear.nil b) ?_ (fun _ _ e => e) (fun h' u tk k => ⟨_, _, rfl, fin h' u tk k⟩) hz
      · simpa using hk.length_eq
      · simpa using e
      · show X.A.units + 1 + (PyData.depthAll ds + 1) < cLine
        omega
  | @tup a xs ds h1 h3 =>
    cases r1
    obtain ⟨as, rd⟩ := reads_of I (.tup (N := N) h1 h3) (u := .ref a) rfl
    obtain ⟨its, rv, ⟨o, ho, hc, m, hdt⟩, _⟩ := I.tuple h1
    rw [PyData.showable] at hsh
    rw [PyData.shown] at hz fin
    rw [PyData.depth] at hdp
    obtain ⟨bs, hb, hk⟩ := DaAll.rk I h3 rv hsh fun t ht => Nat.le_trans (tupleText_mem_le ht) hz
    obtain ⟨o1, _⟩ := out_of rd hb (by rw [PyData.depth]; exact Nat.lt_succ_self _)
    refine call_repr_slot (by omega) ⟨o, ho, hc⟩ PySem.F.slot_tuple_repr ?_
    refine call_tuple_reprK ho hc hdt o1 (by simpa using hk) hg (fun b _ => Clear.nil b) ?_ (fun _ _ e => e) (fun h' u tk k => ⟨_, _, rfl, fin h' u tk k⟩) hz
    show X.A.units + 1 + (PyData.depthAll ds + 1) < cLine
    omega
  | @dct a kvs ds h1 h2 h3 =>
    cases r1
    rw [PyData.showable] at hsh
    rw [PyData.shown] at hz fin
    rw [PyData.depth] at hdp
    obtain ⟨o, es, ep, bs, g1, g2, g3, g4, g5, g6, g7⟩ := dct_of I h1 h2 h3 hz hsh fun rv s2 z2 => DaAll.rk I h3 rv s2 z2
    refine call_repr_slot (by omega) ⟨o, g1, g2⟩ PySem.F.slot_dict_repr ?_
    refine call_dict_reprK g1 g2 g3 g4 g5 g7 hg (fun b _ => Clear.nil b) ?_ (fun _ _ e => e) (fun h' u tk k => ⟨_, _, rfl, fin h' u tk k⟩) hz
    show X.A.units + 1 + (PyData.depthKv ((kvs.map fun q => kD q.1).zip ds) + 1) < cLine
    omega
end

/-! ### a def that runs where nothing is being shown -/
structure FnG (P : Program) (w : World) (K : PySem.W.Frag) (mg : Str → Option Value) (base : Heap) (k : Nat) (f : Addr) (fd : FuncData) (ps : List Str) (sp : Sp) : Prop where
  len : ∀ vs H Q E, sp vs H Q E → vs.length = ps.length
  run : ∀ (A : Around) (outer : List Env) (s : Shared) (H : Hp) (args : Args) (us : List Value) (vs : List V) (Q : VK) (E : XK),
    A.guards = some [] → Room k A → Env0 P w K mg base A outer s H → BindsTo s fd args (ps.zip us) → Vals vs us → sp vs H Q E →
    codeAny (model P w) A (.call (.ref f) args) (CR CX0 outer P w H s Q E) s
/-- the end of a body, as the end of its call -/
theorem ends_call {P : Program} {w : World} {K : PySem.W.Frag} {mg : Str → Option Value} {base : Heap} {N : List Str} {qual : Str} {scope : Scope} {f : Addr} {cd : Value} {A : Around} {outer : List Env} {s s' : Shared} {H : Hp} {E : XK} {Q : VK} {fl : Flow}
    (h : SP (cxOf CX0 P w K mg base N qual scope f cd A outer s H E) [] { nx := fun _ H' => Q .non H', rt := Q } fl s') :
    match fl with
    | .next => CE outer P w H s Q .none s'
    | .ret u => CE outer P w H s Q u s'
    | _ => False := by
  cases fl with
  | next =>
    obtain ⟨_, H', J, q⟩ := h
    exact ⟨.non, H', J.os, J.bare, J.base, J.hok, rfl, q⟩
  | ret u =>
    obtain ⟨v, _, H', J, r, q⟩ := h
    exact ⟨v, H', J.os, J.bare, J.base, J.hok, r, q⟩
  | brk =>
    obtain ⟨_, _, _, q⟩ := h
    exact q
  | cont =>
    obtain ⟨_, _, _, q⟩ := h
    exact q
theorem Fun.okG {P : Program} {w : World} {K : PySem.W.Frag} {mg : Str → Option Value} {base : Heap} {x qual : Str} {st : Stmt} {f : Addr} {fd : FuncData} {N ps : List Str} {k : Nat} {sp : Sp} (F : Fun K x qual st f fd) (S : FnScope N ps (defScope st))
    (len : ∀ vs H Q E, sp vs H Q E → vs.length = ps.length)
    (body : ∀ (cdv : Value) (A : Around) (outer : List Env) (s : Shared) (H : Hp) (vs : List V) (Q : VK) (E : XK), A.guards = some [] → Room k (A.deeper (envOfC qual (defScope st) s.heap.objs.size f cdv)) → sp vs H Q E →
      ∃ t, PSs (cxOf CX0 P w K mg base N qual (defScope st) f cdv A outer s H E).nox (defBody st) t ∧ t { nx := fun _ H' => Q .non H', rt := Q } (start N vs) H) : FnG P w K mg base (k + 1) f fd ps sp := by
  obtain ⟨oc, od, kV, doc, pm, an, cdv, ct, osl, rfl, lk, hcd⟩ := F.ex
  constructor
  · exact len
  · intro A outer s H args us vs Q E ag room e0 bind rel want
    have ln := len vs H Q E want
    have old : ∀ b o, base.get? b = some o → s.heap.get? b = some o := fun b o q => (e0.bs b o q).1
    have KS : K.In s.heap := e0.mod.kin.keeps old
    refine codeAny_call_function room.depth (KS _ _ lk) rfl S.co S.gen rfl (PySem.W.codeRec_of KS hcd) (bind _ _ _ _ ?_)
    refine wpAny_newFunctionEnv_cells S.kind ?_ ?_
    · intro y hy
      obtain ⟨n, v⟩ := y
      have hp := S.par n (List.of_mem_zip hy).1
      rcases hp with q | q
      · exact Or.inl q
      · exact Or.inr ⟨q, PySem.W.cellsFrom_some _ _ _ (Or.inl q)⟩
    · intro env he s1 x
      subst he
      refine ⟨(e0.mod.nolimit.keeps old).keeps x.toInCall.keep, codeAny_func ?_⟩
      obtain ⟨t, ht, hq⟩ := body cdv A outer s H vs Q E ag (room.deeper _) want
      have J : Inv (cxOf CX0 P w K mg base N qual (defScope st) f cdv A outer s H E) [] (start N vs) H s1 := inv_start S room.hd e0 ln rel x
      refine wpAny_mono (ht.nox.run [] s1 (start N vs) H _ J hq) (fun fl s' hs => ?_) fun _ _ z => z
      have z := ends_call hs
      cases fl with
      | next => exact z
      | ret u => exact z
      | brk => exact z.elim
      | cont => exact z.elim
theorem FnOk.g {P : Program} {w : World} {K : PySem.W.Frag} {mg : Str → Option Value} {base : Heap} {k : Nat} {f : Addr} {fd : FuncData} {ps : List Str} {sp : Sp} (F : FnOk P w K mg base CX0 k f fd ps sp) : FnG P w K mg base k f fd ps sp :=
  ⟨F.len, fun A outer s H args us vs Q E _ => F.run A outer s H args us vs Q E⟩
structure CallG (P : Program) (w : World) (K : PySem.W.Frag) (mg : Str → Option Value) (base : Heap) (k : Nat) (x : Str) (ps : List Str) (sp : Sp) : Prop where
  ex : ∃ (f : Addr) (fd : FuncData), FnG P w K mg base k f fd ps sp ∧ mg x = some (.ref f) ∧ PySem.W.keepIn K (.ref f) = true ∧ Binds K fd ps []
theorem DefAt.okG {P : Program} {w : World} {K : PySem.W.Frag} {mg : Str → Option Value} {base : Heap} {x : Str} {st : Stmt} {N ps : List Str} {k : Nat} {sp : Sp} (D : DefAt K mg x st ps) (S : FnScope N ps (defScope st)) (len : ∀ vs H Q E, sp vs H Q E → vs.length = ps.length)
    (body : ∀ (f : Addr) (cdv : Value) (A : Around) (outer : List Env) (s : Shared) (H : Hp) (vs : List V) (Q : VK) (E : XK), A.guards = some [] → Room k (A.deeper (envOfC x (defScope st) s.heap.objs.size f cdv)) → sp vs H Q E →
      ∃ t, PSs (cxOf CX0 P w K mg base N x (defScope st) f cdv A outer s H E).nox (defBody st) t ∧ t { nx := fun _ H' => Q .non H', rt := Q } (start N vs) H) : CallG P w K mg base (k + 1) x ps sp := by
  obtain ⟨f, fd, F, hm, hb⟩ := D.ex
  exact ⟨f, fd, Fun.okG F S len fun cdv A outer s H vs Q E ag hr h => body f cdv A outer s H vs Q E ag hr h, hm, F.kp, hb⟩
section
variable {X : Cx} {k j : Nat} {x : Str} {ps : List Str} {sp : Sp} {p pos : Pos} {e : Expr} {es : List Expr} {t : TA}
theorem pe_callG (ag : X.A.guards = some []) (C : CallG X.prog X.w X.K X.mg X.base k x ps sp) (hr : Room j X.A) (hj : k ≤ j) (hg : Gl X x) (ha : PA X (e :: es) t)
    (hdb : (x == ("__debug__" : Str)) = false := by decide) (he : starEach (e :: es) X.env = (false, eval e X.env) :: starEach es X.env := by rfl)
    (hpl : (backTo pos (starEach es X.env)).any (·.1) = false := by rfl) : PE X (.Call (.Name x p) (e :: es) [] pos) (tCall sp [] E0 t) := by
  obtain ⟨f, fd, F, hm, hk, hb⟩ := C.ex
  constructor
  intro pins s σ H Q I h
  refine wpAny_Call_Name_kw (ld_glob I hg hm ?_ hdb)
  refine PySem.W.callWith_K (h₀ := X.base) I.ok.mod.kin hk (thn (ha.run pos pins s σ H _ I h) fun us s1 q0 => ?_) he hpl
  obtain ⟨vs, H1, I1, r, q⟩ := q0
  refine ⟨I1.kIn, ?_⟩
  have r2 : Vals (vs ++ []) (us ++ []) := r.append .nil
  have ln : (us ++ []).length = ps.length := by
    rw [← r2.length]
    exact F.len _ _ _ _ q
  refine wpAny_call (codeAny_mono (F.run X.A X.stack s1 H1 ⟨us, []⟩ (us ++ []) (vs ++ []) Q E0 ag (hr.mono hj) I1.env0 (hb s1 us I1.kIn ln) r2 q) fun a s' z => ?_)
  match a, z with
  | .ok (.ret u), z => exact I1.after z
  | .ok .next, z => exact z.elim
  | .ok .brk, z => exact z.elim
  | .ok .cont, z => exact z.elim
  | .error _, z => exact z.elim
end
end Ow

namespace Ow
open PySem PySem.Spec PyProof.Rows L2

/-! ### the law's own call -/
/-- the script alone is known, where the module has it not -/
noncomputable def scriptH (K : PySem.W.Frag) (a : Addr) (ob : Obj) (ns : List Int) : Hp := fun b =>
  if b = a ∧ (K.lookup a).isNone = true then some (.frz ob (.lst (ns.map V.int))) else none
section
variable {K : PySem.W.Frag} {a b : Addr} {ob : Obj} {ns : List Int}
theorem scriptH_some {u : HO} (h : scriptH K a ob ns b = some u) : b = a ∧ (K.lookup a).isNone = true ∧ u = .frz ob (.lst (ns.map V.int)) := by
  unfold scriptH at h
  by_cases c : b = a ∧ (K.lookup a).isNone = true
  · rw [if_pos c] at h
    exact ⟨c.1, c.2, (Option.some.inj h).symm⟩
  · rw [if_neg c] at h
    cases h
theorem scriptH_only : Only (scriptH K a ob ns) := fun c => by
  cases e : scriptH K a ob ns c with
  | none => exact .inl rfl
  | some u =>
    obtain ⟨_, _, rfl⟩ := scriptH_some e
    exact .inr ⟨ob, _, rfl⟩
end
/-- a def of one parameter, run on the script from where the top has left off: True -/
theorem law_run {P : Program} {w : World} {K : PySem.W.Frag} {mg mb : Str → Option Value} {k : Nat} {fa a : Addr} {fd : FuncData} {x : Str} {sp : Sp} {t : Shared} {vs : List Value} {ns : List Int}
    (inK : K.In t.heap) (gl : t.heap.Ns mainGlobals mg) (bl : t.heap.Ns builtinsNs mb) (bl2 : ∀ x : Str, x ≠ "__name__" → mb x = bootBuiltins x) (lim : t.heap.NoLimit) (gens : t.gens = #[])
    (obj : t.heap.get? a = some { cls := .type "list", data := .seq vs.toArray }) (hints : IntsAre vs ns) (short : ns.length ≤ sizeLine) (room : Room k callerA)
    (F : ∀ base : Heap, K.In base → base.Ns mainGlobals mg → FnG P w K mg base k fa fd [x] sp) (bind : ∀ (s : Shared) (u : Value), BindsTo s fd ⟨[u], []⟩ [(x, u)])
    (want : ∀ H : Hp, Only H → SqL K H a (ns.map V.int) → sp [.ref a] H (fun v _ => v = .bl true) fun _ _ _ => False) :
    codeAny (model P w) callerA (.call (.ref fa) ⟨[.ref a], []⟩) (fun r s' => r = .ok (.ret (.bool true)) ∧ OldK t.heap s'.heap ∧ s'.os = t.os ∧ AllBare s'.gens) t := by
  have rel := vals_ints hints
  have len := hints.length
  generalize hS : scriptH K a { cls := .type "list", data := .seq vs.toArray } ns = S
  have only : Only S := hS ▸ scriptH_only
  have know : ∀ b u, S b = some u → b = a ∧ (K.lookup a).isNone = true ∧ u = .frz { cls := .type "list", data := .seq vs.toArray } (.lst (ns.map V.int)) := fun b u q => by
    rw [← hS] at q
    exact scriptH_some q
  have read : SqL K S a (ns.map V.int) := by
    cases q : K.lookup a with
    | none =>
      refine .inl (.inr ⟨{ cls := .type "list", data := .seq vs.toArray }, ?_⟩)
      rw [← hS]
      unfold scriptH
      rw [if_pos ⟨rfl, by rw [q]; rfl⟩]
    | some o =>
      have e := inK a o q
      rw [obj] at e
      cases e
      refine .inr ⟨_, vs.toArray, _, q, rfl, rfl, rfl, ?_, rel⟩
      rw [List.size_toArray, len]
      exact short
  have hok : HOk P w S t.heap := fun b u q => by
    obtain ⟨rfl, _, rfl⟩ := know b u q
    refine ⟨obj, ?_, vs, _, rel, obj⟩
    rw [List.length_map]
    exact short
  -- what is no list stands in the base
  have hid : ∀ {b : Addr} {o : Obj}, t.heap.get? b = some o → (b = a → (K.lookup a).isNone = true → False) → (hidT t.heap S).get? b = some o := fun {b o} q n => hidT_get q (by
    cases z : S b with
    | none => rfl
    | some u =>
      obtain ⟨e1, e2, _⟩ := know b u z
      exact (n e1 e2).elim)
  have ns_hid : ∀ {b : Addr} {m : Str → Option Value}, t.heap.Ns b m → (hidT t.heap S).Ns b m := fun {b m} q => by
    obtain ⟨o, es, ep, h1, h2, r⟩ := q
    refine ⟨o, es, ep, hid h1 (fun e _ => ?_), h2, r⟩
    subst e
    rw [obj] at h1
    cases h1
    cases h2
  have in_hid : K.In (hidT t.heap S) := fun b o q => hid (inK b o q) (fun e n => by
    subst e
    rw [q] at n
    cases n)
  have e0 : Env0 P w K mg (hidT t.heap S) callerA [] t S := by
    refine ⟨rfl, ⟨in_hid, ns_hid gl, ⟨mb, ns_hid bl, bl2⟩, ?_⟩, fun b o q => of_hidT q, Nat.le_of_eq (hidT_size _ _), trivial, fun b z => ?_, hok, .of_eq gens⟩
    · obtain ⟨mc, h1, h2⟩ := lim
      exact ⟨mc, ns_hid h1, h2⟩
    · cases z
  refine codeAny_mono ((F _ in_hid (ns_hid gl)).run callerA [] t S ⟨[.ref a], []⟩ [.ref a] [.ref a] _ _ rfl room e0 (bind t (.ref a)) (.cons rfl .nil) (want S only read)) fun r s' h => ?_
  match r, h with
  | .ok (.ret u), h =>
    obtain ⟨v, H', os, bare, un, hok', r', q⟩ := h
    obtain rfl : v = .bl true := q
    obtain rfl : u = Value.bool true := r'
    refine ⟨rfl, OldK.of_keep fun b o q => ?_, os, bare⟩
    cases z : S b with
    | none =>
      refine un.keep b o q z ?_ ?_
      · intro y
        cases y
      · intro y
        cases y
    | some u =>
      obtain ⟨_, _, rfl⟩ := know b u z
      obtain ⟨f1, _⟩ := hok b _ z
      obtain ⟨f2, _⟩ := hok' b _ (un.frzs b _ _ z)
      rw [q] at f1
      cases f1
      exact f2
  | .ok .next, h => exact h.elim
  | .ok .brk, h => exact h.elim
  | .ok .cont, h => exact h.elim
  | .error _, h => exact h.elim

/-- the goal of the head (case hc) -/
theorem walkG {l : PySem.W.OpenLaw} {n k : Nat} {q : Program} {loose : List Str} {XP : (Str → Option Value) → Heap → Prop} {YP : World → Heap → Prop} {d : DefRec} {K : Params → PySem.W.Frag} {sp : PySem.W.Frag → Sp} {x : Str}
    (hn : l.most = some n) (hn2 : n ≤ sizeLine) (hdf : d.params.defaults = []) (hr : Room k callerA) (hY : ∀ (w : World) (h : Heap), YP w h → (K w.params).In h)
    (F : ∀ (w : World) (mg : Str → Option Value) (fa : Addr) (h : Heap), (K w.params).In h → h.Ns mainGlobals mg → mg d.name = some (.ref fa) →
      ∃ fd : FuncData, (∀ (s : Shared) (u : Value), BindsTo s fd ⟨[u], []⟩ [(x, u)]) ∧
        ∀ base : Heap, (K w.params).In base → base.Ns mainGlobals mg → FnG l.prog w (K w.params) mg base k fa fd [x] (sp (K w.params)))
    (want : ∀ (K : PySem.W.Frag) (H : Hp) (a : Addr) (ns : List Int), ns.length ≤ n → Only H → SqL K H a (ns.map V.int) → sp K [.ref a] H (fun v _ => v = .bl true) fun _ _ _ => False) :
    PySem.W.WalkO q loose XP YP l.row.toRowW d [] (fun f vs => PySem.call f vs) := by
  refine Att.attach_call hn hdf fun w s₀ s₁ mg mb fa o pm cd doc a vs ns G Y ho hd hcd hmg hobj hints hlen hg => ?_
  obtain ⟨fd, hb, hF⟩ := F w mg fa _ (hY w _ Y) G.T.g hmg
  exact law_run (hY w _ Y) G.T.g G.T.b G.T.builtins G.T.nolimit hg hobj hints (Nat.le_trans hlen hn2) hr hF hb fun H h1 h2 => want _ H a ns hlen h1 h2
end Ow
namespace Ow
open PySem PySem.Spec PyProof.Rows L2
/-! ### names of the module -/
/-- the built-in names that the text leaves alone -/
structure Bl (mg : Str → Option Value) : Prop where
  len_ : mg "len" = none
  list_ : mg "list" = none
  range_ : mg "range" = none
  isinstance_ : mg "isinstance" = none
  all_ : mg "all" = none
  any_ : mg "any" = none
  tuple_ : mg "tuple" = none
  repr_ : mg "repr" = none
  zip_ : mg "zip" = none
  str_ : mg "str" = none
  bool_ : mg "bool" = none
  int_ : mg "int" = none
  set_ : mg "set" = none
  sum_ : mg "sum" = none
  max_ : mg "max" = none
  min_ : mg "min" = none
  dict_ : mg "dict" = none
  sorted_ : mg "sorted" = none
  enumerate_ : mg "enumerate" = none
/-- a module's constant -/
def GV (mg : Str → Option Value) (x : Str) (v : V) : Prop := ∃ u, mg x = some u ∧ RelV v u
theorem pe_gv {X : Cx} {x : Str} {v : V} {pos : Pos} (h : GV X.mg x v) (hg : Gl X x) (hd : (x == ("__debug__" : Str)) = false := by decide) : PE X (.Name x pos) (tC v) := by
  obtain ⟨u, hm, r⟩ := h
  exact pe_glob hg hm r hd

/-! ### the pen's mathematics -/
theorem cut_front (ns : List Int) (k : Nat) : cutV (ns.map V.int) none (some (k : Int)) = (ns.take (min k ns.length)).map V.int := by
  unfold cutV
  rw [HT.sIx_none, HT.sIx_nat, List.drop_zero, Nat.sub_zero, List.length_map, List.map_take]
theorem dp_ints (K : PySem.W.Frag) (H : Hp) : ∀ cs : List Int, DpAll K H (cs.map V.int) (cs.map PyData.int)
  | [] => .nil
  | c :: cs => .cons (.int c) (dp_ints K H cs)
theorem at_mod (cs : List Int) (z : Int) (h : 0 < cs.length) : ∃ v : Int, atI (cs.map V.int) (z % (cs.length : Int)) = some (.int v) := by
  have h1 : 0 ≤ z % (cs.length : Int) := Int.emod_nonneg _ (by omega)
  have h2 : z % (cs.length : Int) < cs.length := Int.emod_lt_of_pos _ (by omega)
  obtain ⟨j, hj⟩ : ∃ j : Nat, z % (cs.length : Int) = (j : Int) := ⟨(z % (cs.length : Int)).toNat, by omega⟩
  rw [hj] at h2 ⊢
  have h3 : j < cs.length := by omega
  refine ⟨cs[j], atI_nat ?_⟩
  rw [List.getElem?_map, List.getElem?_eq_getElem h3]
  rfl
/-! ### the pen's promises -/
def spPen (K : PySem.W.Frag) : Sp := fun vs H Q _ => ∃ (a : Addr) (ns : List Int), vs = [.ref a] ∧ SqL K H a (ns.map V.int) ∧ ns.length ≤ 63 ∧
  ∀ (p c : Addr) (H' : Hp), Pen H' p c → Same H H' → H p = none → H c = none → Q (.ref p) H'
def spFresh : Sp := fun vs H Q _ => ∃ (p c : Addr), vs = [.ref p] ∧ Pen H p c ∧ ∀ (n : Int) (H' : Hp), Pen H' p c → Kp p H H' → Q (.int n) H'
def spDraw : Sp := fun vs H Q _ => ∃ (p c : Addr) (b : Int), vs = [.ref p, .int b] ∧ Pen H p c ∧ 0 < b ∧ b < 1073741824 ∧
  ∀ (n : Int) (H' : Hp), 0 ≤ n → n < b → Pen H' p c → Kp p H H' → Q (.int n) H'
/-- a name: one to eight small letters -/
def Nm (x : Str) : Prop := 0 < x.cps.size ∧ x.cps.size ≤ 8 ∧ ∀ c ∈ x.cps.toList, 97 ≤ c ∧ c ≤ 122
def spName : Sp := fun vs H Q _ => ∃ (p c g : Addr) (gs : List Str), vs = [.ref p, .ref g] ∧ Pen H p c ∧ H g = some (.lst (gs.map V.str)) ∧ g ≠ p ∧ gs.length ≤ 600 ∧
  ∀ (x : Str) (H' : Hp), Nm x → Pen H' p c → Kp p H H' → Q (.str x) H'
end Ow
namespace Ow
open PySem PySem.Spec PyProof.Rows L2
theorem shaped_intsAll : ∀ cs : List Int, PyData.canLayAll0 (cs.map PyData.int) = true ∧ PyData.depthAll (cs.map PyData.int) ≤ 1
  | [] => by simp [PyData.canLayAll0, PyData.depthAll]
  | c :: cs => by
    obtain ⟨h1, h2⟩ := shaped_intsAll cs
    refine ⟨?_, ?_⟩
    · simp only [List.map_cons, PyData.canLayAll0, PyData.canLay0, h1, Bool.and_self]
    · simp only [List.map_cons, PyData.depthAll, PyData.depth]
      omega
theorem shaped_ints (cs : List Int) : SeqAt.shaped (.list (cs.map PyData.int)) = true := by
  obtain ⟨h1, h2⟩ := shaped_intsAll cs
  have h3 : (PyData.list (cs.map PyData.int)).depth ≤ 64 := by
    simp only [PyData.depth]
    omega
  unfold SeqAt.shaped
  rw [decide_eq_true h3, Bool.and_true]
  simp only [PyData.canLay0]
  exact h1
theorem shaped_nil : SeqAt.shaped (.list []) = true := shaped_ints []
theorem eqv_nil (cs : List Int) : PyData.eqv (.list (cs.map PyData.int)) (.list []) = cs.isEmpty := by
  cases cs with
  | nil => simp [PyData.eqv, PyData.eqvAll]
  | cons c cs => simp [PyData.eqv, PyData.eqvAll]
theorem le_line {n : Nat} (h : n ≤ 16000000) : n ≤ sizeLine := Nat.le_trans h (by decide)
theorem lt_line {n : Nat} (h : n ≤ 16000000) : n < sizeLine := Nat.lt_of_le_of_lt h (by decide)
end Ow
namespace Ow
open PySem PySem.Spec PyProof.Rows L2
/-! ### names' mathematics -/
abbrev abc : Str := Str.ofString "abcdefghijklmnopqrstuvwxyz"
theorem abc_list : abc.cps.toList = (List.range 26).map (97 + ·) := by decide +kernel
theorem abc_at {n : Int} (h0 : 0 ≤ n) (h1 : n < 26) : ∃ c : Nat, atI abc.cps.toList n = some c ∧ 97 ≤ c ∧ c ≤ 122 := by
  obtain ⟨j, rfl⟩ : ∃ j : Nat, n = (j : Int) := ⟨n.toNat, by omega⟩
  refine ⟨97 + j, atI_nat ?_, by omega, by omega⟩
  rw [abc_list, List.getElem?_map, List.getElem?_range (by omega)]
  rfl
theorem abc_len : abc.length ≤ sizeLine := by decide +kernel
/-- small letters alone, so many -/
def Lt (x : Str) (n : Nat) : Prop := x.cps.size = n ∧ ∀ c ∈ x.cps.toList, 97 ≤ c ∧ c ≤ 122
theorem lt_nil : Lt (Str.ofString "") 0 := ⟨by decide, fun c h => by
  have e : (Str.ofString "").cps.toList = [] := by decide
  rw [e] at h
  cases h⟩
theorem app_cps (x y : Str) : (x ++ y).cps.toList = x.cps.toList ++ y.cps.toList := by
  show (x.cps ++ y.cps).toList = _
  rw [Array.toList_append]
theorem Lt.app {x y : Str} {n m : Nat} (h : Lt x n) (k : Lt y m) : Lt (x ++ y) (n + m) := by
  refine ⟨?_, fun c hc => ?_⟩
  · show (x.cps ++ y.cps).size = _
    rw [Array.size_append, h.1, k.1]
  · rw [app_cps] at hc
    exact (List.mem_append.mp hc).elim (h.2 c) (k.2 c)
theorem lt_one {c : Nat} (h1 : 97 ≤ c) (h2 : c ≤ 122) : Lt ⟨#[c]⟩ 1 := ⟨rfl, fun d hd => by
  have e : d = c := by simpa using hd
  subst e
  exact ⟨h1, h2⟩⟩
theorem Lt.front {x : Str} {n : Nat} (h : Lt x n) (k : Nat) : ∃ m, m ≤ k ∧ Lt (cutS x none (some (k : Int))) m := by
  have e : (cutS x none (some (k : Int))).cps.toList = x.cps.toList.take (min k x.length) := by
    unfold cutS
    rw [HT.sIx_none, HT.sIx_nat, List.drop_zero, Nat.sub_zero]
  have z : (cutS x none (some (k : Int))).cps.size = (x.cps.toList.take (min k x.length)).length := by
    rw [← e, Array.length_toList]
  refine ⟨_, ?_, rfl, fun c hc => ?_⟩
  · rw [z, List.length_take]
    omega
  · rw [e] at hc
    exact h.2 c (List.mem_of_mem_take hc)
theorem Lt.nm {x : Str} {n : Nat} (h : Lt x n) (h0 : 0 < n) (h8 : n ≤ 8) : Nm x := ⟨by rw [h.1]; exact h0, by rw [h.1]; exact h8, h.2⟩
theorem Lt.len {x : Str} {n : Nat} (h : Lt x n) : x.length = n := h.1
end Ow

/-! Data of any kind beside a text: equal, in a tuple of texts. -/
namespace PySem.SeqAt
open AutoSeq1 (wpAny_loadPart')
open MeetsSeq
theorem str_no_dict (b : Str) (u : Tok) (l : Addr) (c : Value) (es : Array DictEntry) (n : Nat) (dd : Option Addr) (sl : Array (Option Value)) :
    Meets (Builtin.«str.__eq__» ⟨[.str b u, .ref l], []⟩) (fun _ R s => s.heap.get? l = some { cls := c, dict := dd, data := .dict es n, slots := sl } ∧ R (.ok (.ret .notImplemented)) s) :=
  .of_wp fun prog w A R s h => by
    obtain ⟨hp, g, d, tk, os⟩ := s
    obtain ⟨hl, h⟩ := h
    wp_walk using wpAny_loadPart' hl, wpAny_load hl
    exact ⟨_, rfl, h⟩
theorem dict_no_str (l : Addr) (es : Array DictEntry) (n : Nat) (dd : Option Addr) (sl : Array (Option Value)) (b : Str) (u : Tok) :
    Meets (Builtin.«dict.__eq__» ⟨[.ref l, .str b u], []⟩) (fun _ R s => s.heap.get? l = some { cls := .type "dict", dict := dd, data := .dict es n, slots := sl } ∧ R (.ok (.ret .notImplemented)) s) :=
  .of_wp fun prog w A R s h => by
    obtain ⟨hp, g, d, tk, os⟩ := s
    obtain ⟨hl, h⟩ := h
    have f1 : isSubtype (.type "str") (.type "dict") = pure false := by rw [isSubtype_type]; kernel_rfl
    wp_walk using wpAny_loadPart' hl, wpAny_load hl
    exact ⟨_, rfl, h⟩
section
variable {A : Around} {s : Shared}
theorem str_dict {l : Addr} {o : Obj} {es : Array DictEntry} {n : Nat} (b : Str) (u : Tok) (ho : s.heap.get? l = some o) (hc : o.cls = .type "dict") (hd : o.data = .dict es n) (hu : A.units < cLine) : EqAt A s (.str b u) (.ref l) false := fun prog w E Q h => by
  obtain ⟨cls, dd, data, sl⟩ := o
  simp only at hc hd
  subst hc hd
  unfold eqBool
  refine wpAny_holding ?_
  refine wpAny_ite_split (fun hab => absurd (eq_of_beq hab) nofun) (fun _ => ?_)
  refine wpAny_bind (rc_eq_decline_or (k := false) (typeIs_str s b u) ⟨_, ho, rfl⟩ (by decide) F.sub_dict_str F.slot_str_eq F.slot_dict_eq_refl ?_ ?_ ?_ (.inr hu) (wpAny_truthy_bool h))
  · exact fun _ hq => call_meets F.slot_str_eq (typeIs_str s b u) F.entry_str_eq (F.args_str_eq_2 _ _) (str_no_dict b u l (.type "dict") es n dd sl) ⟨ho, hq⟩
  · exact fun _ hq => call_meets F.slot_dict_eq_refl ⟨_, ho, rfl⟩ F.entry_dict_eq (F.args_dict_eq_2 _ _) (dict_no_str l es n dd sl b u) ⟨ho, hq⟩
  · exact fun _ hq => wpAny_of_eq (rfl : isSame (.str b u) (.ref l) = pure false) hq
end
end PySem.SeqAt
namespace Ow
open PySem PySem.Spec PyProof.Rows L2
/-- whether a text is among some, of any data -/
def memD (d : PyData) (zs : List Str) : Bool := match d with
  | .str z => decide (z ∈ zs)
  | _ => false
/-- the equality that such an item has with the data -/
def eqD (d : PyData) : Value → Bool
  | .str b _ => (match d with | .str z => decide (b = z) | _ => false)
  | _ => false
section
variable {X : Cx} {pins : List (Addr × Obj)} {σ : L2.St} {H : Hp} {s : Shared} {N : Addr → Prop}
/-- a text beside data -/
theorem eq_text (I : Inv X pins σ H s) {A : Around} (hu : A.units < cLine) {v : V} {d : PyData} (h : Da X.K N H v d) {u : Value} (r : RelV v u) (b : Str) (t : Tok) : SeqAt.EqAt A s (.str b t) u (eqD d (.str b t)) := by
  cases h with
  | non => cases r; exact .str_none b t
  | bl x => cases r; exact .str_bool b t x
  | int i =>
    obtain ⟨t2, rfl⟩ := r
    exact .str_int b t i t2
  | str x =>
    obtain ⟨t2, rfl⟩ := r
    have e := SeqAt.EqAt.str_str (A := A) (s := s) b t x t2
    have e2 : (b == x) = decide (b = x) := by
      by_cases z : b = x
      · subst z
        simp
      · rw [decide_eq_false z]
        exact beq_eq_false_iff_ne.mpr z
    rw [e2] at e
    exact e
  | lst h1 h2 h3 =>
    cases r
    obtain ⟨its, rv, ⟨o, n, ho, hc, _, hd⟩, _⟩ := I.list (SqL.of h1)
    exact .str_list b t ⟨o, ho, hc, n, hd⟩ hu
  | tup h1 h3 =>
    cases r
    obtain ⟨its, rv, ht, _⟩ := I.tuple h1
    exact .str_tuple b t ht hu
  | dct h1 h2 h3 =>
    cases r
    obtain ⟨_, hsys, vs, kv, o, es, ep, ho, hx, hd, _⟩ := I.hok _ _ h1
    exact SeqAt.str_dict b t ho hx.1 hd hu
/-- x in a tuple of texts, x not in it -/
def rInT (K : PySem.W.Frag) (neg : Bool) : R2 := fun x y H Q => ∃ (N : Addr → Prop) (t : Addr) (zs : List Str) (d : PyData), y = .ref t ∧ SqT K H t (zs.map V.str) ∧ Da K N H x d ∧ Q (.bl (if neg then !memD d zs else memD d zs)) H
theorem strs_of : ∀ {zs : List Str} {us : List Value}, Vals (zs.map V.str) us → ∀ y ∈ us, ∃ z t, z ∈ zs ∧ y = .str z t
  | [], _, r, y, h => by
    cases r
    cases h
  | z :: zs, _, r, y, h => by
    rw [List.map_cons] at r
    cases r with
    | cons r1 r2 =>
      rcases List.mem_cons.mp h with e | h
      · obtain ⟨t, q⟩ := r1
        exact ⟨z, t, List.mem_cons_self .., e.trans q⟩
      · obtain ⟨z', t, h1, h2⟩ := strs_of r2 y h
        exact ⟨z', t, List.mem_cons_of_mem _ h1, h2⟩
theorem any_strs (d : PyData) : ∀ {zs : List Str} {us : List Value}, Vals (zs.map V.str) us → us.any (eqD d) = memD d zs
  | [], _, r => by
    cases r
    cases d <;> rfl
  | z :: zs, _, r => by
    rw [List.map_cons] at r
    cases r with
    | cons r1 r2 =>
      obtain ⟨t, rfl⟩ := r1
      rw [List.any_cons, any_strs d r2]
      cases d with
      | str x =>
        show (decide (z = x) || decide (x ∈ zs)) = decide (x ∈ z :: zs)
        rw [← Bool.decide_or]
        exact decide_eq_decide.mpr ⟨fun e => e.elim (fun e => e ▸ List.mem_cons_self ..) (List.mem_cons_of_mem _), fun e => (List.mem_cons.mp e).imp Eq.symm id⟩
      | _ => rfl
theorem op_inT (hu : X.A.units + 64 < cLine) : OpR X (compareOp .In) (rInT X.K false) := by
  intro pins s σ H x y v u Q I rx ry h
  obtain ⟨p, t, zs, d, rfl, ht, hd, q⟩ := h
  cases ry
  obtain ⟨its, rv, hit, _⟩ := I.tuple ht
  refine SeqAt.in_tupleAt (eqD d) hit (fun y hy => ?_) ?_
  · obtain ⟨z, tk, _, rfl⟩ := strs_of rv y (by simpa using hy)
    exact eq_text I (A := X.A.in1) (by show X.A.units + 1 < cLine; omega) hd rx z tk
  · refine ⟨.bl _, H, I, ?_, q⟩
    show Value.bool _ = Value.bool _
    rw [← any_strs d rv]
    simp
theorem op_notInT (hu : X.A.units + 64 < cLine) : OpR X (compareOp .NotIn) (rInT X.K true) := by
  intro pins s σ H x y v u Q I rx ry h
  obtain ⟨p, t, zs, d, rfl, ht, hd, q⟩ := h
  cases ry
  obtain ⟨its, rv, hit, _⟩ := I.tuple ht
  refine SeqAt.notIn_tupleAt (eqD d) hit (fun y hy => ?_) ?_
  · obtain ⟨z, tk, _, rfl⟩ := strs_of rv y (by simpa using hy)
    exact eq_text I (A := X.A.in1) (by show X.A.units + 1 < cLine; omega) hd rx z tk
  · refine ⟨.bl _, H, I, ?_, q⟩
    show Value.bool _ = Value.bool _
    rw [← any_strs d rv]
    simp
/-! ### isinstance of data -/
def tyD : PyData → String
  | .none => "NoneType"
  | .bool _ => "bool"
  | .int _ => "int"
  | .str _ => "str"
  | .list _ => "list"
  | .tuple _ => "tuple"
  | .dict _ => "dict"
theorem Da.ty {K : PySem.W.Frag} {v : V} {d : PyData} (h : Da K N H v d) : TyX K H v (.type (tyD d)) := by
  cases h with
  | non => exact .base .non
  | bl b => exact .base (.bl b)
  | int i => exact .base (.int i)
  | str x => exact .base (.str x)
  | lst h1 _ _ => exact .base (.lst h1)
  | tup h1 _ =>
    rcases h1 with (h1 | ⟨o, h1⟩) | ⟨o, its, n, hk, hc, _⟩
    · exact .base (.tup h1)
    · exact .fTuple h1
    · exact .kTuple hk hc
  | dct h1 _ _ => exact .base (.dK h1)
/-- isinstance(x, T) of data, T one of the built-in types that laws ask for -/
def rIsD (K : PySem.W.Frag) : List V → Hp → VK → Prop := fun xs H Q => ∃ (N : Addr → Prop) (v : V) (d : PyData) (T : String), xs = [v, .ty T] ∧ Da K N H v d ∧ (T = "str" ∨ T = "tuple" ∨ T = "bool") ∧ Q (.bl (decide (tyD d = T))) H
theorem kit_all : ∀ t ∈ ["NoneType", "bool", "int", "str", "list", "tuple", "dict"], ∀ T ∈ ["str", "tuple", "bool"], kitB t T = some (decide (t = T)) := by decide +kernel
theorem kit_tyD (d : PyData) (T : String) (h : T = "str" ∨ T = "tuple" ∨ T = "bool") : kitB (tyD d) T = some (decide (tyD d = T)) := by
  refine kit_all _ ?_ _ ?_
  · cases d <;> simp [tyD]
  · simpa using h
theorem call_isD : CallR X (.builtin "isinstance") (rIsD X.K) := by
  intro pins s σ H xs us Q I r h
  obtain ⟨p, v, d, T, rfl, hd, hT, q⟩ := h
  exact call_isi pins s σ H _ us Q I r ⟨v, .ty T, _, _, _, rfl, .ty T, hd.ty, kit_ty (kit_tyD d T hT), q⟩
end
end Ow

/-! How large data is; what is a name, a kind. -/
namespace Ow
open PySem PySem.Spec PyProof.Rows L2
/-! ### sizes -/
structure FitAll (n m : Nat) (ds : List PyData) : Prop where
  sh : PyData.showableAll ds = true
  wt : wtAll ds ≤ n
  dp : PyData.depthAll ds ≤ m
section
variable {n m n' m' k : Nat} {d : PyData} {ds es : List PyData}
theorem FitAll.nil : FitAll n m [] := ⟨by rw [PyData.showableAll], by rw [wtAll]; exact Nat.zero_le _, by rw [PyData.depthAll]; exact Nat.zero_le _⟩
theorem FitAll.cons (f : Fit n m d) (g : FitAll n' m ds) : FitAll (n + 2 + n') m (d :: ds) := by
  refine ⟨?_, ?_, ?_⟩
  · rw [PyData.showableAll, f.sh, g.sh]
    rfl
  · rw [wtAll]
    have := f.wt
    have := g.wt
    omega
  · rw [PyData.depthAll]
    have := f.dp
    have := g.dp
    omega
theorem FitAll.le (f : FitAll n m ds) (h : n ≤ n') (k : m ≤ m') : FitAll n' m' ds := ⟨f.sh, Nat.le_trans f.wt h, Nat.le_trans f.dp k⟩
theorem FitAll.append : ∀ {ds : List PyData} {n : Nat}, FitAll n m ds → FitAll n' m es → FitAll (n + n') m (ds ++ es)
  | [], n, _, g => g.le (by omega) (Nat.le_refl _)
  | d :: ds, n, f, g => by
    have hs := f.sh
    rw [PyData.showableAll, Bool.and_eq_true] at hs
    have hw := f.wt
    rw [wtAll] at hw
    have hd := f.dp
    rw [PyData.depthAll] at hd
    have f1 : Fit (Ow.wt d) m d := ⟨hs.1, Nat.le_refl _, by omega⟩
    have f2 : FitAll (wtAll ds) m ds := ⟨hs.2, Nat.le_refl _, by omega⟩
    exact (FitAll.cons f1 (f2.append g)).le (by omega) (Nat.le_refl _)
theorem Fit.tup (f : FitAll n m ds) : Fit (n + 4) (m + 1) (.tuple ds) := by
  refine ⟨by rw [PyData.showable]; exact f.sh, ?_, ?_⟩
  · rw [Ow.wt]
    have := f.wt
    omega
  · rw [PyData.depth]
    have := f.dp
    omega
theorem Fit.lst (f : FitAll n m ds) : Fit (n + 4) (m + 1) (.list ds) := by
  refine ⟨by rw [PyData.showable]; exact f.sh, ?_, ?_⟩
  · rw [Ow.wt]
    have := f.wt
    omega
  · rw [PyData.depth]
    have := f.dp
    omega
theorem Fit.items (f : Fit n (m + 1) (.tuple ds)) : 4 ≤ n ∧ FitAll (n - 4) m ds := by
  have h1 := f.sh
  have h2 := f.wt
  have h3 := f.dp
  rw [PyData.showable] at h1
  rw [Ow.wt] at h2
  rw [PyData.depth] at h3
  exact ⟨by omega, h1, by omega, by omega⟩
theorem Fit.deep (f : Fit n m (.tuple ds)) : ∃ m', m = m' + 1 := by
  have h3 := f.dp
  rw [PyData.depth] at h3
  exact ⟨m - 1, by omega⟩
theorem FitAll.split (f : FitAll n m ds) (k : Nat) : ∃ a b, a + b ≤ n ∧ FitAll a m (ds.take k) ∧ FitAll b m (ds.drop k) := by
  induction k generalizing ds n with
  | zero => exact ⟨0, n, by omega, .nil, by simpa using f⟩
  | succ k ih =>
    cases ds with
    | nil => exact ⟨0, 0, by omega, .nil, .nil⟩
    | cons d ds =>
      have hs := f.sh
      rw [PyData.showableAll, Bool.and_eq_true] at hs
      have hw := f.wt
      rw [wtAll] at hw
      have hd := f.dp
      rw [PyData.depthAll] at hd
      have f1 : Fit (Ow.wt d) m d := ⟨hs.1, Nat.le_refl _, by omega⟩
      have f2 : FitAll (wtAll ds) m ds := ⟨hs.2, Nat.le_refl _, by omega⟩
      obtain ⟨a, b, hab, fa, fb⟩ := ih f2
      exact ⟨Ow.wt d + 2 + a, b, by omega, .cons f1 fa, fb⟩
theorem FitAll.get {i : Nat} (f : FitAll n m ds) (h : ds[i]? = some d) : ∃ a b c, a + b + 2 + c ≤ n ∧ FitAll a m (ds.take i) ∧ Fit b m d ∧ FitAll c m (ds.drop (i + 1)) := by
  obtain ⟨a, b, hab, fa, fb⟩ := f.split i
  obtain ⟨hi, e⟩ := List.getElem?_eq_some_iff.mp h
  have q : ds.drop i = d :: ds.drop (i + 1) := by
    rw [← e]
    exact List.drop_eq_getElem_cons hi
  rw [q] at fb
  have hs := fb.sh
  rw [PyData.showableAll, Bool.and_eq_true] at hs
  have hw := fb.wt
  rw [wtAll] at hw
  have hd := fb.dp
  rw [PyData.depthAll] at hd
  exact ⟨a, Ow.wt d, wtAll (ds.drop (i + 1)), by omega, fa, ⟨hs.1, Nat.le_refl _, by omega⟩, ⟨hs.2, Nat.le_refl _, by omega⟩⟩
theorem FitAll.rep (f : Fit n m d) : ∀ k : Nat, ∀ {ds : List PyData}, ds.length = k → (∀ e ∈ ds, Fit n m e) → FitAll (k * (n + 2)) m ds
  | 0, [], _, _ => .nil
  | k + 1, e :: ds, h, g => by
    have h2 := FitAll.rep f k (ds := ds) (by simpa using h) fun x hx => g x (List.mem_cons_of_mem _ hx)
    refine (FitAll.cons (g e (List.mem_cons_self ..)) h2).le ?_ (Nat.le_refl _)
    rw [Nat.succ_mul]
    omega
end
theorem fit_str {x : Str} {n : Nat} (hc : ∀ c ∈ x.cps.toList, c < 16 ^ 8) (hn : x.length ≤ n) : Fit (11 * n + 2) 0 (.str x) := by
  refine ⟨by rw [PyData.showable], ?_, ?_⟩
  · rw [Ow.wt]
    have := StrLaws.reprText_len x hc
    omega
  · simp only [PyData.depth]
    exact Nat.zero_le _
theorem fit_nm {x : Str} (h : Nm x) : Fit 90 0 (.str x) := (fit_str (n := 8) (fun c hc => by have := (h.2.2 c hc).2; omega) h.2.1).le (by decide) (Nat.le_refl _)
theorem fit_str_len {n m : Nat} {x : Str} (f : Fit n m (.str x)) : x.length ≤ n := by
  have h := f.wt
  rw [Ow.wt] at h
  omega
/-! ### a tuple beside the empty one -/
def rEqU (K : PySem.W.Frag) : R2 := fun x y H Q => ∃ (a b : Addr) (xs : List V), x = .ref a ∧ y = .ref b ∧ SqT K H a xs ∧ SqT K H b [] ∧ Q (.bl xs.isEmpty) H
theorem op_eqU {X : Cx} (hu : X.A.units + 64 < cLine) : OpR X (compareOp .Eq) (rEqU X.K) := by
  intro pins s σ H x y v u Q I rx ry h
  obtain ⟨a, b, xs, rfl, rfl, ha, hb, q⟩ := h
  cases rx
  cases ry
  obtain ⟨its, rv, hit, _⟩ := I.tuple ha
  obtain ⟨its2, rv2, hit2, _⟩ := I.tuple hb
  cases rv2
  refine SeqAt.eq_tupleAt (e := fun _ => true) hit hit2 (by omega) (fun j h1 h2 => ?_) ?_
  · exact absurd h2 (Nat.not_lt_zero _)
  · refine ⟨.bl _, H, I, ?_, q⟩
    show Value.bool _ = Value.bool _
    cases rv with
    | nil => rfl
    | cons _ _ => simp
/-! ### names and kinds, of any data -/
def isNameD : PyData → Bool
  | .str z => decide (1 ≤ z.length) && decide (z.length ≤ 8) && z.cps.toList.all fun c => decide (c ∈ abc.cps.toList)
  | _ => false
def isRowD (d : PyData) (a b : Int) : Bool := match d with
  | .tuple ds => decide (a ≤ ds.length) && decide ((ds.length : Int) ≤ b)
  | _ => false
abbrev signs2 : List Str := [Str.ofString ">", Str.ofString "*"]
/-- a kind of at most so many within one another -/
def kindW : Nat → PyData → Bool
  | 0, _ => false
  | n + 1, d => match d with
    | .str z => isNameD (.str z)
    | .tuple [s, a, b] => decide (n ≠ 0) && memD s signs2 && kindW n a && kindW n b
    | _ => false
/-- whether no function stands in a kind -/
def shownW : Nat → PyData → Bool
  | 0, _ => true
  | n + 1, d => match d with
    | .tuple [s, a, b] => !(memD s [Str.ofString ">"]) && shownW n a && shownW n b
    | _ => true
end Ow
namespace Ow
open PySem PySem.Spec PyProof.Rows L2
section
variable {K : PySem.W.Frag} {N : Addr → Prop} {H H' : Hp}
theorem sqT_same {a : Addr} {xs : List V} (k : Same H H') (h : SqT K H a xs) : SqT K H' a xs := by
  rcases h with (h | ⟨o, h⟩) | h
  · exact .inl (.inl (k _ _ h))
  · exact .inl (.inr ⟨o, k _ _ h⟩)
  · exact .inr h
mutual
theorem Da.same (k : Same H H') : ∀ {v : V} {d : PyData}, Da K N H v d → Da K N H' v d
  | _, _, .non => .non
  | _, _, .bl b => .bl b
  | _, _, .int i => .int i
  | _, _, .str x => .str x
  | _, _, .lst h ne r => .lst (k _ _ h) ne (DaAll.same k r)
  | _, _, .tup h r => .tup (sqT_same k h) (DaAll.same k r)
  | _, _, .dct h ne r => .dct (k _ _ h) ne (DaAll.same k r)
theorem DaAll.same (k : Same H H') : ∀ {vs : List V} {ds : List PyData}, DaAll K N H vs ds → DaAll K N H' vs ds
  | _, _, .nil => .nil
  | _, _, .cons a r => .cons (Da.same k a) (DaAll.same k r)
end
theorem Da.tupInv {v : V} {ds : List PyData} (h : Da K N H v (.tuple ds)) : ∃ a xs, v = .ref a ∧ SqT K H a xs ∧ DaAll K N H xs ds := by
  cases h with
  | tup h r => exact ⟨_, _, rfl, h, r⟩
theorem Da.strInv {v : V} {x : Str} (h : Da K N H v (.str x)) : v = .str x := by
  cases h
  rfl
theorem Da.tup3 {v : V} {s a b : PyData} (h : Da K N H v (.tuple [s, a, b])) : ∃ t x y z, v = .ref t ∧ SqT K H t [x, y, z] ∧ Da K N H x s ∧ Da K N H y a ∧ Da K N H z b := by
  obtain ⟨t, xs, rfl, h1, h2⟩ := h.tupInv
  cases h2 with
  | cons g1 h2 =>
    cases h2 with
    | cons g2 h2 =>
      cases h2 with
      | cons g3 h2 =>
        cases h2
        exact ⟨_, _, _, _, rfl, h1, g1, g2, g3⟩
end
theorem ty_str {d : PyData} (h : tyD d = "str") : ∃ x, d = .str x := by
  cases d <;> simp [tyD] at h ⊢
theorem ty_tup {d : PyData} (h : tyD d = "tuple") : ∃ ds, d = .tuple ds := by
  cases d <;> simp [tyD] at h ⊢
theorem row3 {d : PyData} (h : isRowD d 3 3 = true) : ∃ s a b, d = .tuple [s, a, b] := by
  cases d with
  | tuple ds =>
    simp only [isRowD, Bool.and_eq_true, decide_eq_true_eq] at h
    match ds, h with
    | [s, a, b], _ => exact ⟨s, a, b, rfl⟩
    | [], h => simp at h
    | [_], h => simp at h
    | [_, _], h => simp at h
    | _ :: _ :: _ :: _ :: _, h =>
      simp only [List.length_cons] at h
      omega
  | _ => simp [isRowD] at h
theorem kind_str (n : Nat) (x : Str) : kindW (n + 1) (.str x) = isNameD (.str x) := rfl
theorem kind_tup (n : Nat) (s a b : PyData) : kindW (n + 1) (.tuple [s, a, b]) = (decide (n ≠ 0) && memD s signs2 && kindW n a && kindW n b) := rfl
theorem kind_no {n : Nat} {d : PyData} (h : tyD d ≠ "str") (h2 : n = 0 ∨ isRowD d 3 3 = false) : kindW (n + 1) d = false := by
  cases d with
  | str x => exact absurd rfl h
  | tuple ds =>
    match ds with
    | [s, a, b] =>
      rw [kind_tup]
      rcases h2 with h2 | h2
      · rw [h2]
        rfl
      · simp [isRowD] at h2
    | [] => rfl
    | [_] => rfl
    | [_, _] => rfl
    | _ :: _ :: _ :: _ :: _ => rfl
  | _ => rfl
theorem fit3 {n m : Nat} {s a b : PyData} (f : Fit n m (.tuple [s, a, b])) : Fit n m s ∧ Fit n m a ∧ Fit n m b := by
  obtain ⟨m', rfl⟩ := f.deep
  obtain ⟨h4, g⟩ := f.items
  obtain ⟨_, _, _, _, _, g0, _⟩ := g.get (i := 0) rfl
  obtain ⟨_, _, _, _, _, g1, _⟩ := g.get (i := 1) rfl
  obtain ⟨_, _, _, _, _, g2, _⟩ := g.get (i := 2) rfl
  exact ⟨g0.le (by omega) (by omega), g1.le (by omega) (by omega), g2.le (by omega) (by omega)⟩
/-! ### what the program's and the law's own looks promise -/
def spIsRow (K : PySem.W.Frag) : Sp := fun vs H Q _ => ∃ (N : Addr → Prop) (v : V) (d : PyData) (a b : Int), vs = [v, .int a, .int b] ∧ Da K N H v d ∧ Q (.bl (isRowD d a b)) H
def spIsName (K : PySem.W.Frag) : Sp := fun vs H Q _ => ∃ (N : Addr → Prop) (v : V) (d : PyData) (n m : Nat), vs = [v] ∧ Da K N H v d ∧ Fit n m d ∧ n ≤ 16000000 ∧ ∀ H', Same H H' → Q (.bl (isNameD d)) H'
def spKindW (K : PySem.W.Frag) (k : Nat) : Sp := fun vs H Q _ => ∃ (N : Addr → Prop) (v : V) (d : PyData) (n m : Nat) (z : Int), vs = [v, .int z] ∧ z = (k : Int) ∧ 1 ≤ k ∧ Da K N H v d ∧ Fit n m d ∧ n ≤ 16000000 ∧ ∀ H', Same H H' → Q (.bl (kindW k d)) H'
def spKind (K : PySem.W.Frag) : Sp := fun vs H Q _ => ∃ (N : Addr → Prop) (v : V) (d : PyData) (n m : Nat), vs = [v] ∧ Da K N H v d ∧ Fit n m d ∧ n ≤ 16000000 ∧ ∀ H', Same H H' → Q (.bl (kindW 6 d)) H'
def spShown (K : PySem.W.Frag) (neg : Bool) (k : Nat) : Sp := fun vs H Q _ => ∃ (N : Addr → Prop) (v : V) (d : PyData), vs = [v] ∧ Da K N H v d ∧ kindW k d = true ∧ Q (.bl (if neg then !shownW k d else shownW k d)) H
end Ow

/-! Comprehensions whose element is plain. -/
namespace Ow
open PySem PySem.Spec PyProof.Rows L2
/-- what a comprehension over J asks: the new list at D -/
def LcG (J : It) (g : TG) (tt : TT) (te : TE) (vs : List Nat) (σ : L2.St) (H1 : Hp) (D : Addr) (Qd : Hp → Prop) : Prop :=
  ∃ W : Nat → Nat → Hp → Prop, (∃ m, W 0 m (upd H1 D (.lst []))) ∧
    ∀ i m H, W i m H → (J.stop i H ∧ Qd H) ∨ (J.go i H ∧ ∃ Nx : Hp → Prop, (∀ H', Nx H' → ∃ m', m' < m ∧ W (i + 1) m' H') ∧
      ∀ x H', J.yld i H x H' → g x (wipe σ vs) H' fun σ2 H2 => wipe σ2 vs = wipe σ vs ∧
        tt σ2 H2 fun b H3 => if b = true then te σ2 H3 fun y H4 => ∃ acc, H4 D = some (.lst acc) ∧ acc.length < sizeLine ∧ Nx (upd H4 D (.lst (acc ++ [y]))) else Nx H3)
section
variable {j : Nat} {te : TE} {vs : List Nat} {σ : L2.St} {H1 : Hp} {D : Addr} {Qd : Hp → Prop}
/-- over a text: each sign's value is f of its code -/
theorem lc_str_map {x : Str} (f : Nat → V) (hx : x.cps.size < sizeLine) (hw : ∀ v, wipe ((wipe σ vs).set j (some v)) vs = wipe σ vs)
    (hv : ∀ c ∈ x.cps.toList, ∀ (H2 : Hp) (Q : VK), Q (f c) H2 → te ((wipe σ vs).set j (some (.str ⟨#[c]⟩))) H2 Q)
    (hd : Qd (upd H1 D (.lst (x.cps.toList.map f)))) : LcG (Its x) (gName j) tYes te vs σ H1 D Qd := by
  refine ⟨fun i m H => m = x.cps.size - i ∧ i ≤ x.cps.size ∧ H = upd H1 D (.lst ((x.cps.toList.take i).map f)), ⟨_, rfl, Nat.zero_le _, rfl⟩, ?_⟩
  rintro i m H ⟨rfl, hi, rfl⟩
  by_cases hl : i < x.cps.size
  · refine .inr ⟨hl, fun H => H = upd H1 D (.lst ((x.cps.toList.take (i + 1)).map f)), fun H' e => ⟨x.cps.size - (i + 1), by omega, rfl, hl, e⟩, fun y H' z => ?_⟩
    obtain ⟨rfl, c, hc, rfl⟩ := z
    have hc2 : x.cps.toList[i]? = some c := by
      rw [Array.getElem?_toList]
      exact hc
    refine ⟨hw _, ?_⟩
    simp only [tYes, if_true]
    refine hv c (List.mem_of_getElem? hc2) _ _ ⟨_, upd_same, ?_, ?_⟩
    · rw [List.length_map, List.length_take]
      omega
    · rw [upd_upd, List.take_add_one, hc2, List.map_append]
      rfl
  · have e : i = x.cps.size := by omega
    subst e
    refine .inl ⟨Nat.le_refl _, ?_⟩
    rw [List.take_of_length_le (by simp)]
    exact hd
/-- over a list or a tuple that stays: each item's value is f of it -/
theorem lc_seq_map {K : PySem.W.Frag} {J : It} {xs : List V} (hJ : ∀ i H, (i < xs.length → Same H1 H → J.go i H) ∧ (xs.length ≤ i → Same H1 H → J.stop i H)) (hy : ∀ i H x H', Same H1 H → J.yld i H x H' → H' = H ∧ xs[i]? = some x)
    (hD : H1 D = none) (f : V → V) (hx : xs.length < sizeLine) (hw : ∀ v, wipe ((wipe σ vs).set j (some v)) vs = wipe σ vs)
    (hv : ∀ x ∈ xs, ∀ (H2 : Hp) (Q : VK), Same H1 H2 → Q (f x) H2 → te ((wipe σ vs).set j (some x)) H2 Q)
    (hd : Qd (upd H1 D (.lst (xs.map f)))) : LcG J (gName j) tYes te vs σ H1 D Qd := by
  refine ⟨fun i m H => m = xs.length - i ∧ i ≤ xs.length ∧ H = upd H1 D (.lst ((xs.take i).map f)), ⟨_, rfl, Nat.zero_le _, rfl⟩, ?_⟩
  rintro i m H ⟨rfl, hi, rfl⟩
  have sm : ∀ l, Same H1 (upd H1 D (.lst l)) := fun l => same_new hD
  by_cases hl : i < xs.length
  · refine .inr ⟨(hJ i _).1 hl (sm _), fun H => H = upd H1 D (.lst ((xs.take (i + 1)).map f)), fun H' e => ⟨xs.length - (i + 1), by omega, rfl, hl, e⟩, fun y H' z => ?_⟩
    obtain ⟨rfl, hc⟩ := hy i _ y H' (sm _) z
    refine ⟨hw _, ?_⟩
    simp only [tYes, if_true]
    refine hv y (List.mem_of_getElem? hc) _ _ (sm _) ⟨_, upd_same, ?_, ?_⟩
    · rw [List.length_map, List.length_take]
      omega
    · rw [upd_upd, List.take_add_one, hc, List.map_append]
      rfl
  · have e : i = xs.length := by omega
    subst e
    refine .inl ⟨(hJ _ _).2 (Nat.le_refl _) (sm _), ?_⟩
    rw [List.take_of_length_le (Nat.le_refl _)]
    exact hd
end
end Ow
namespace Ow
open PySem PySem.Spec PyProof.Rows L2
theorem kind_cases {n : Nat} {d : PyData} (h : kindW n d = true) : (∃ x, d = .str x) ∨ ∃ (m : Nat) (sg : Str) (a b : PyData), n = m + 1 ∧ d = .tuple [.str sg, a, b] ∧ sg ∈ signs2 ∧ kindW m a = true ∧ kindW m b = true := by
  cases n with
  | zero => cases h
  | succ n =>
    by_cases ht : tyD d = "str"
    · exact .inl (ty_str ht)
    · cases hr : isRowD d 3 3 with
      | false =>
        rw [kind_no ht (.inr hr)] at h
        cases h
      | true =>
        obtain ⟨s, a, b, rfl⟩ := row3 hr
        rw [kind_tup] at h
        simp only [Bool.and_eq_true] at h
        obtain ⟨⟨⟨_, h2⟩, h3⟩, h4⟩ := h
        cases s with
        | str sg => exact .inr ⟨n, sg, a, b, rfl, rfl, of_decide_eq_true h2, h3, h4⟩
        | _ => cases h2
theorem shown_str (n : Nat) (x : Str) : shownW n (.str x) = true := by cases n <;> rfl
theorem shown_tup (n : Nat) (s a b : PyData) : shownW (n + 1) (.tuple [s, a, b]) = (!(memD s [Str.ofString ">"]) && shownW n a && shownW n b) := rfl
theorem mem_one (sg z : Str) : memD (.str sg) [z] = decide (sg = z) := by
  show decide (sg ∈ [z]) = _
  simp
end Ow
namespace Ow
open PySem PySem.Spec PyProof.Rows L2
/-! ### what the drawing defs promise -/
def bAny : Nat → Nat
  | 0 => 60
  | n + 1 => 5 * (bAny n + 2) + 20
theorem bAny_ge : ∀ n : Nat, 60 ≤ bAny n
  | 0 => Nat.le_refl _
  | n + 1 => by
    have := bAny_ge n
    show 60 ≤ 5 * (bAny n + 2) + 20
    omega
def spAny (K : PySem.W.Frag) (k : Nat) : Sp := fun vs H Q _ => ∃ (p c : Addr) (z : Int), vs = [.ref p, .int z] ∧ z = (k : Int) ∧ k ≤ 4 ∧ Pen H p c ∧
  ∀ (v : V) (d : PyData) (H' : Hp), Da K (Tk H) H' v d → Fit (bAny k) (2 * k) d → Pen H' p c → Kp p H H' → Q v H'
abbrev anyList : List V := [.int 0, .bl true, .non, .str "", .str "x", .str "^", .str "Ab", .str "x1", .int (-(10 ^ (39 : Int).toNat)), .str "abcdefghi"]
theorem fit_of {d : PyData} (h : (d.showable && decide (wt d ≤ 60) && decide (d.depth ≤ 0)) = true) : Fit 60 0 d := by
  simp only [Bool.and_eq_true, decide_eq_true_eq] at h
  exact ⟨h.1.1, h.1.2, h.2⟩
theorem any_at {n : Int} (h0 : 0 ≤ n) (h1 : n < 10) : ∃ (v : V) (d : PyData), atI anyList n = some v ∧ (∀ K N H, Da K N H v d) ∧ Fit 60 0 d := by
  have : n = 0 ∨ n = 1 ∨ n = 2 ∨ n = 3 ∨ n = 4 ∨ n = 5 ∨ n = 6 ∨ n = 7 ∨ n = 8 ∨ n = 9 := by omega
  rcases this with rfl | rfl | rfl | rfl | rfl | rfl | rfl | rfl | rfl | rfl
  · exact ⟨_, _, rfl, fun _ _ _ => .int _, fit_of (by decide +kernel)⟩
  · exact ⟨_, _, rfl, fun _ _ _ => .bl _, fit_of (by decide +kernel)⟩
  · exact ⟨_, _, rfl, fun _ _ _ => .non, fit_of (by decide +kernel)⟩
  · exact ⟨_, _, rfl, fun _ _ _ => .str _, fit_of (by decide +kernel)⟩
  · exact ⟨_, _, rfl, fun _ _ _ => .str _, fit_of (by decide +kernel)⟩
  · exact ⟨_, _, rfl, fun _ _ _ => .str _, fit_of (by decide +kernel)⟩
  · exact ⟨_, _, rfl, fun _ _ _ => .str _, fit_of (by decide +kernel)⟩
  · exact ⟨_, _, rfl, fun _ _ _ => .str _, fit_of (by decide +kernel)⟩
  · exact ⟨_, _, rfl, fun _ _ _ => .int _, fit_of (by decide +kernel)⟩
  · exact ⟨_, _, rfl, fun _ _ _ => .str _, fit_of (by decide +kernel)⟩
section
variable {K : PySem.W.Frag} {N : Addr → Prop} {H H' : Hp}
theorem Da.put {D : Addr} {o o' : HO} {v : V} {d : PyData} (h : Da K N H v d) (hD : H D = some o) (ht : ∀ xs, o ≠ .tup xs) (hf : ∀ ob u, o ≠ .frz ob u) (hN : N D) : Da K N (upd H D o') v d :=
  h.kp (p := D) Kp.self (fun xs r => by
    rcases r with r | ⟨ob, r⟩
    · rw [hD] at r
      exact ht _ (Option.some.inj r)
    · rw [hD] at r
      exact hf _ _ (Option.some.inj r)) hN
theorem DaAll.put {D : Addr} {o o' : HO} {vs : List V} {ds : List PyData} (h : DaAll K N H vs ds) (hD : H D = some o) (ht : ∀ xs, o ≠ .tup xs) (hf : ∀ ob u, o ≠ .frz ob u) (hN : N D) : DaAll K N (upd H D o') vs ds :=
  h.kp (p := D) Kp.self (fun xs r => by
    rcases r with r | ⟨ob, r⟩
    · rw [hD] at r
      exact ht _ (Option.some.inj r)
    · rw [hD] at r
      exact hf _ _ (Option.some.inj r)) hN
end
theorem Pen.keepTk {H H0 : Hp} {p c D : Addr} {o : HO} (h : Pen H p c) (h0 : Pen H0 p c) (hD : H0 D = none) : Pen (upd H D o) p c := h.keep (h0.neP hD) (h0.neC hD)
end Ow
namespace Ow
open PySem PySem.Spec PyProof.Rows L2
/-- data without lists and dicts avoids all -/
abbrev All : Addr → Prop := fun _ => True
def bKind : Nat → Nat
  | 0 => 90
  | n + 1 => 2 * (bKind n + 2) + 12
def spRough (K : PySem.W.Frag) (k : Nat) : Sp := fun vs H Q _ => ∃ (p c : Addr) (z : Int), vs = [.ref p, .int z] ∧ z = (k : Int) ∧ k ≤ 6 ∧ Pen H p c ∧
  ∀ (v : V) (d : PyData) (H' : Hp), Da K All H' v d → Fit (bKind k) k d → Pen H' p c → Kp p H H' → Q v H'
theorem bKind_ge : ∀ n : Nat, 90 ≤ bKind n
  | 0 => Nat.le_refl _
  | n + 1 => by
    have := bKind_ge n
    show 90 ≤ 2 * (bKind n + 2) + 12
    omega
theorem fit_sign {x : Str} (h : wt (.str x) ≤ 4) : Fit 4 0 (.str x) := ⟨by rw [PyData.showable], h, by simp only [PyData.depth]; exact Nat.zero_le _⟩
abbrev signs3 : List V := [.str ">", .str "*"]
theorem sign_at {n : Int} (h0 : 0 ≤ n) (h1 : n < 2) : ∃ x : Str, atI signs3 n = some (.str x) ∧ Fit 4 0 (.str x) ∧ x ∈ signs2 := by
  have : n = 0 ∨ n = 1 := by omega
  rcases this with rfl | rfl
  · exact ⟨_, rfl, fit_sign (by decide +kernel), by simp⟩
  · exact ⟨_, rfl, fit_sign (by decide +kernel), by simp⟩
end Ow
namespace Ow
open PySem PySem.Spec PyProof.Rows L2
def spSpoil (K : PySem.W.Frag) (k : Nat) : Sp := fun vs H Q _ => ∃ (p c : Addr) (v : V) (d : PyData) (z : Int) (n m : Nat), vs = [.ref p, v, .int z] ∧ z = (k : Int) ∧ k ≤ 8 ∧ Pen H p c ∧ Da K All H v d ∧ Fit n m d ∧ n ≤ 4000000 ∧
  ∀ (v' : V) (d' : PyData) (H' : Hp), Da K (Tk H) H' v' d' → Fit (2 * n + 1800) (m + 8) d' → Pen H' p c → Kp p H H' → Q v' H'
section
variable {K : PySem.W.Frag} {H : Hp} {Q : VK} {a b : Addr} {xs ys : List V}
theorem cat_any (ha : SqT K H a xs) (hb : SqT K H b ys) (hl : xs.length + ys.length ≤ sizeLine) (k : ∀ t H', Same H H' → SqT K H' t (xs ++ ys) → Q (.ref t) H') : rCatA K (.ref a) (.ref b) H Q := by
  refine ⟨a, b, xs, ys, rfl, rfl, ha, hb, hl, fun e => ?_, fun _ e => ?_, fun _ _ p hp => ?_⟩
  · exact k b H (Same.refl H) (by rw [e, List.nil_append]; exact hb)
  · exact k a H (Same.refl H) (by rw [e, List.append_nil]; exact ha)
  · exact k p _ (same_new hp) (SqT.of upd_same)
theorem cut_any {lo hi : Option Int} (ha : SqT K H a xs) (k : ∀ t H', Same H H' → SqT K H' t (cutV xs lo hi) → Q (.ref t) H') : rSlA K (.ref a) lo hi H Q := by
  refine ⟨a, xs, rfl, ha, fun e => ?_, fun _ p hp => ?_⟩
  · refine k a H (Same.refl H) ?_
    have z : cutV xs lo hi = xs := by
      unfold cutV
      rw [e.1, e.2]
      simp
    rw [z]
    exact ha
  · exact k p _ (same_new hp) (SqT.of upd_same)
theorem cut_take (xs : List V) (k : Nat) : cutV xs none (some (k : Int)) = xs.take k := by
  unfold cutV
  rw [HT.sIx_none, HT.sIx_nat, List.drop_zero, Nat.sub_zero]
  by_cases h : k ≤ xs.length
  · rw [Nat.min_eq_left h]
  · rw [Nat.min_eq_right (by omega), List.take_of_length_le (Nat.le_refl _), List.take_of_length_le (by omega)]
theorem cut_drop (xs : List V) (k : Nat) : cutV xs (some (k : Int)) none = xs.drop k := by
  unfold cutV
  rw [HT.sIx_none, HT.sIx_nat]
  by_cases h : k ≤ xs.length
  · rw [Nat.min_eq_left h, List.take_of_length_le (by rw [List.length_drop]; exact Nat.le_refl _)]
  · rw [Nat.min_eq_right (by omega), Nat.sub_self, List.take_zero, List.drop_eq_nil_of_le (by omega)]
end
end Ow
namespace Ow
open PySem PySem.Spec PyProof.Rows L2
theorem len_wt : ∀ ds : List PyData, ds.length ≤ wtAll ds
  | [] => Nat.zero_le _
  | d :: ds => by
    have := len_wt ds
    rw [wtAll, List.length_cons]
    omega
theorem Kp.same {p : Addr} {H H1 H2 : Hp} (a : Kp p H H1) (s : Same H1 H2) : Kp p H H2 := a.trans (Kp.of s)
end Ow
namespace Ow
open PySem PySem.Spec PyProof.Rows L2
def spChain (K : PySem.W.Frag) : Sp := fun vs H Q _ => ∃ (p c : Addr) (z : Int), vs = [.ref p, .int z] ∧ 1 ≤ z ∧ z ≤ 7 ∧ Pen H p c ∧
  ∀ (v : V) (d : PyData) (H' : Hp), Da K All H' v d → Fit 2000 10 d → Pen H' p c → Kp p H H' → Q v H'
/-- the script is handed in, True comes out -/
def spLaw (K : PySem.W.Frag) : Sp := fun vs H Q _ => ∃ (a : Addr) (ns : List Int), vs = [.ref a] ∧ SqL K H a (ns.map V.int) ∧ ns.length ≤ 63 ∧ ∀ H', Q (.bl true) H'
abbrev signs4 : List V := [.str ">", .str "*", .str "*"]
theorem sign_at3 {n : Int} (h0 : 0 ≤ n) (h1 : n < 3) : ∃ x : Str, atI signs4 n = some (.str x) ∧ Fit 4 0 (.str x) := by
  have : n = 0 ∨ n = 1 ∨ n = 2 := by omega
  rcases this with rfl | rfl | rfl
  · exact ⟨_, rfl, fit_sign (by decide +kernel)⟩
  · exact ⟨_, rfl, fit_sign (by decide +kernel)⟩
  · exact ⟨_, rfl, fit_sign (by decide +kernel)⟩
abbrev tails7 : List V := [.str "", .str "a", .str "A", .str "_", .str " ", .str "1", .str "7"]
/-- a short text of small codes -/
def Sm (x : Str) (n : Nat) : Prop := x.length ≤ n ∧ ∀ c ∈ x.cps.toList, c < 16 ^ 8
theorem sm_of {x : Str} {n : Nat} (h : (decide (x.length ≤ n) && x.cps.toList.all fun c => decide (c < 16 ^ 8)) = true) : Sm x n := by
  simp only [Bool.and_eq_true, decide_eq_true_eq, List.all_eq_true] at h
  exact h
theorem tail_at {n : Int} (h0 : 0 ≤ n) (h1 : n < 7) : ∃ x : Str, atI tails7 n = some (.str x) ∧ Sm x 1 := by
  have : n = 0 ∨ n = 1 ∨ n = 2 ∨ n = 3 ∨ n = 4 ∨ n = 5 ∨ n = 6 := by omega
  rcases this with rfl | rfl | rfl | rfl | rfl | rfl | rfl <;> exact ⟨_, rfl, sm_of (by decide +kernel)⟩
theorem Nm.sm {x : Str} (h : Nm x) : Sm x 8 := ⟨h.2.1, fun c hc => by have := (h.2.2 c hc).2; omega⟩
theorem Sm.app {x y : Str} {n m : Nat} (h : Sm x n) (k : Sm y m) : Sm (x ++ y) (n + m) := by
  refine ⟨?_, fun c hc => ?_⟩
  · have := h.1
    have := k.1
    rw [strLen_append]
    omega
  · rw [app_cps] at hc
    exact (List.mem_append.mp hc).elim (h.2 c) (k.2 c)
theorem Sm.fit {x : Str} {n : Nat} (h : Sm x n) : Fit (11 * n + 2) 0 (.str x) := fit_str h.2 h.1
end Ow
namespace Ow
open PySem PySem.Spec PyProof.Rows L2
/-- two truths beside one another -/
def spTruth : Sp := fun vs H Q _ => ∃ a b : Bool, vs = [.bl a, .bl b] ∧ Q (.bl (decide (a = b))) H
theorem room_un {n k : Nat} (h : n + 16 * k + 200 < cLine) : n + 151 < cLine := by omega
end Ow
namespace Ow
open PySem PySem.Spec PyProof.Rows L2
section
variable {K : PySem.W.Frag} {mg : Str → Option Value} {h : Heap} {x : Str} {st : Stmt} {ps : List Str} {f : Addr} {od an : Option Addr} {sl : Array (Option Value)} {oc kV dc pm cd ct : Value}
theorem defAt_mk (X : K.In h) (G : h.Ns mainGlobals mg) (a : PySem.W.nsIn K mainGlobals x = some (some (.ref f)))
    (l : K.lookup f = some ⟨oc, od, .func (PySem.W.fnOf x x (defArgs st) (defBody st) (defScope st) .none kV dc pm an cd ct), sl⟩) (c : PySem.W.codeIn K cd x = true) (k : PySem.W.keepIn K (.ref f) = true)
    (hb : ∀ (kV doc pm : Value) (an : Option Addr) (cdv ct : Value) (us : List Value), us.length = ps.length → bindArgs (PySem.W.fnOf x x (defArgs st) (defBody st) (defScope st) .none kV doc pm an cdv ct) ⟨us, []⟩ = pure (ps.zip us)) : DefAt K mg x st ps :=
  ⟨f, _, fun_mk l c k, PySem.W.mg_of X G a, (fun_mk (st := st) l c k).binds hb⟩
theorem lawAt_mk {fa : Addr} {y : Str} (X : K.In h) (G : h.Ns mainGlobals mg) (hmg : mg x = some (.ref fa)) (a : PySem.W.nsIn K mainGlobals x = some (some (.ref f)))
    (l : K.lookup f = some ⟨oc, od, .func (PySem.W.fnOf x x (defArgs st) (defBody st) (defScope st) .none kV dc pm an cd ct), sl⟩) (c : PySem.W.codeIn K cd x = true) (k : PySem.W.keepIn K (.ref f) = true)
    (hb : ∀ (s : Shared) (u : Value), BindsTo s (PySem.W.fnOf x x (defArgs st) (defBody st) (defScope st) .none kV dc pm an cd ct) ⟨[u], []⟩ [(y, u)]) :
    ∃ fd, Fun K x x st fa fd ∧ ∀ (s : Shared) (u : Value), BindsTo s fd ⟨[u], []⟩ [(y, u)] := by
  have e := hmg.symm.trans (PySem.W.mg_of X G a)
  injection e with e
  injection e with e
  subst e
  exact ⟨_, fun_mk l c k, hb⟩
theorem gv_mk {v : V} {u : Value} (X : K.In h) (G : h.Ns mainGlobals mg) (a : PySem.W.nsIn K mainGlobals x = some (some u)) (r : RelV v u) : GV mg x v := ⟨u, PySem.W.mg_of X G a, r⟩
end
end Ow

/-! Drawn terms: their shape, their size. -/
namespace Ow
open PySem PySem.Spec PyProof.Rows L2
abbrev strD (x : Str) : PyData := .str x
/-- the shape of a term, by how many are within one another at most -/
inductive Tm : Nat → PyData → Prop
  | name (n : Nat) (x : Str) : Tm (n + 1) (.str x)
  | at (n : Nat) (f : Str) : Tm (n + 1) (.tuple [.str (Str.ofString "@"), .str f])
  | lam {n : Nat} (x : Str) (k : PyData) {t : PyData} : Tm n t → Tm (n + 1) (.tuple [.str (Str.ofString "^"), .str x, k, t])
  | two {n : Nat} (s : Str) {t u : PyData} : s ∈ [Str.ofString "!", Str.ofString "&", Str.ofString "-"] → Tm n t → Tm n u → Tm (n + 1) (.tuple [.str s, t, u])
  | five {n : Nat} (s x y : Str) {t u : PyData} : s ∈ [Str.ofString "/", Str.ofString "+"] → Tm n t → Tm n u → Tm (n + 1) (.tuple [.str s, t, .str x, .str y, u])
  | mk {n : Nat} (c : Str) (ts : List PyData) : (∀ t ∈ ts, Tm n t) → Tm (n + 1) (.tuple [.str (Str.ofString "#"), .str c, .tuple ts])
  | ch {n : Nat} {t : PyData} (cs : List (Str × List Str × PyData)) : Tm n t → (∀ c ∈ cs, Tm n c.2.2) →
      Tm (n + 1) (.tuple [.str (Str.ofString "?"), t, .tuple (cs.map fun c => .tuple [.str c.1, .tuple (c.2.1.map strD), c.2.2])])
theorem Tm.up : ∀ {n : Nat} {d : PyData}, Tm n d → ∀ {m : Nat}, n ≤ m → Tm m d
  | _, _, .name n x, m, h => by
    obtain ⟨m, rfl⟩ : ∃ k, m = k + 1 := ⟨m - 1, by omega⟩
    exact .name m x
  | _, _, .at n x, m, h => by
    obtain ⟨m, rfl⟩ : ∃ k, m = k + 1 := ⟨m - 1, by omega⟩
    exact .at m x
  | _, _, .lam x k t, m, h => by
    obtain ⟨m, rfl⟩ : ∃ k, m = k + 1 := ⟨m - 1, by omega⟩
    exact .lam x k (t.up (by omega))
  | _, _, .two s hs t u, m, h => by
    obtain ⟨m, rfl⟩ : ∃ k, m = k + 1 := ⟨m - 1, by omega⟩
    exact .two s hs (t.up (by omega)) (u.up (by omega))
  | _, _, .five s x y hs t u, m, h => by
    obtain ⟨m, rfl⟩ : ∃ k, m = k + 1 := ⟨m - 1, by omega⟩
    exact .five s x y hs (t.up (by omega)) (u.up (by omega))
  | _, _, .mk c ts ht, m, h => by
    obtain ⟨m, rfl⟩ : ∃ k, m = k + 1 := ⟨m - 1, by omega⟩
    exact .mk c ts fun t z => (ht t z).up (by omega)
  | _, _, .ch cs t hc, m, h => by
    obtain ⟨m, rfl⟩ : ∃ k, m = k + 1 := ⟨m - 1, by omega⟩
    exact .ch cs (t.up (by omega)) fun c z => (hc c z).up (by omega)
def bT : Nat → Nat
  | 0 => 110
  | n + 1 => 4 * bT n + 1700
theorem bT_ge : ∀ n : Nat, 110 ≤ bT n
  | 0 => Nat.le_refl _
  | n + 1 => by
    have := bT_ge n
    show 110 ≤ 4 * bT n + 1700
    omega
def spFew : Sp := fun vs H Q _ => ∃ (p c : Addr), vs = [.ref p] ∧ Pen H p c ∧ ∀ (x : Str) (H' : Hp), Nm x → Pen H' p c → Kp p H H' → Q (.str x) H'
def spRow (K : PySem.W.Frag) : Sp := fun vs H Q _ => ∃ (p c : Addr) (z : Int), vs = [.ref p, .int z] ∧ 0 ≤ z ∧ z ≤ 4 ∧ Pen H p c ∧
  ∀ (t : Addr) (xs : List Str) (H' : Hp), SqT K H' t (xs.map V.str) → (xs.length : Int) = z → (∀ x ∈ xs, Nm x) → Pen H' p c → Kp p H H' → Q (.ref t) H'
def spRoughT (K : PySem.W.Frag) (k : Nat) : Sp := fun vs H Q _ => ∃ (p c : Addr) (z : Int), vs = [.ref p, .int z] ∧ z ≤ (k : Int) ∧ k ≤ 6 ∧ Pen H p c ∧
  ∀ (v : V) (d : PyData) (H' : Hp), Da K All H' v d → Fit (bT k) (3 * k + 2) d → Tm (k + 1) d → Pen H' p c → Kp p H H' → Q v H'
abbrev few3 : List Str := [Str.ofString "x", Str.ofString "y", Str.ofString "xy"]
theorem nm_of {x : Str} (h : (decide (0 < x.cps.size) && decide (x.cps.size ≤ 8) && x.cps.toList.all fun c => decide (97 ≤ c) && decide (c ≤ 122)) = true) : Nm x := by
  simp only [Bool.and_eq_true, decide_eq_true_eq, List.all_eq_true] at h
  exact ⟨h.1.1, h.1.2, h.2⟩
theorem nm_few : ∀ x ∈ few3, Nm x := by
  intro x h
  simp only [List.mem_cons, List.not_mem_nil, or_false] at h
  rcases h with rfl | rfl | rfl
  · exact nm_of (by decide +kernel)
  · exact nm_of (by decide +kernel)
  · exact nm_of (by decide +kernel)
theorem few_at {y : Str} (hy : Nm y) {n : Int} (h0 : 0 ≤ n) (h1 : n < 4) : ∃ x : Str, atI [V.str "x", .str "y", .str "xy", .str y] n = some (.str x) ∧ Nm x := by
  have : n = 0 ∨ n = 1 ∨ n = 2 ∨ n = 3 := by omega
  rcases this with rfl | rfl | rfl | rfl
  · exact ⟨_, rfl, nm_few _ (by simp)⟩
  · exact ⟨_, rfl, nm_few _ (by simp)⟩
  · exact ⟨_, rfl, nm_few _ (by simp)⟩
  · exact ⟨_, rfl, hy⟩
theorem fit_names : ∀ {xs : List Str}, (∀ x ∈ xs, Nm x) → FitAll (92 * xs.length) 0 (xs.map strD)
  | [], _ => .nil
  | x :: xs, h => by
    have g := fit_names (xs := xs) fun y hy => h y (List.mem_cons_of_mem _ hy)
    refine (FitAll.cons (fit_nm (h x (List.mem_cons_self ..))) g).le ?_ (Nat.le_refl _)
    rw [List.length_cons]
    omega
theorem da_names {K : PySem.W.Frag} {N : Addr → Prop} {H : Hp} : ∀ xs : List Str, DaAll K N H (xs.map V.str) (xs.map strD)
  | [] => .nil
  | x :: xs => .cons (.str x) (da_names xs)
abbrev tri : List V := [.str "!", .str "&", .str "-"]
theorem tri_at {n : Int} (h0 : 0 ≤ n) (h1 : n < 3) : ∃ x : Str, atI tri n = some (.str x) ∧ Fit 4 0 (.str x) ∧ x ∈ [Str.ofString "!", Str.ofString "&", Str.ofString "-"] := by
  have : n = 0 ∨ n = 1 ∨ n = 2 := by omega
  rcases this with rfl | rfl | rfl
  · exact ⟨_, rfl, fit_sign (by decide +kernel), by simp⟩
  · exact ⟨_, rfl, fit_sign (by decide +kernel), by simp⟩
  · exact ⟨_, rfl, fit_sign (by decide +kernel), by simp⟩
abbrev duo : List V := [.str "/", .str "+"]
theorem duo_at {n : Int} (h0 : 0 ≤ n) (h1 : n < 2) : ∃ x : Str, atI duo n = some (.str x) ∧ Fit 4 0 (.str x) ∧ x ∈ [Str.ofString "/", Str.ofString "+"] := by
  have : n = 0 ∨ n = 1 := by omega
  rcases this with rfl | rfl
  · exact ⟨_, rfl, fit_sign (by decide +kernel), by simp⟩
  · exact ⟨_, rfl, fit_sign (by decide +kernel), by simp⟩
end Ow

/-! What stands within a term, in the order of its text. -/
namespace Ow
open PySem PySem.Spec PyProof.Rows L2
abbrev sg (x : String) : Str := Str.ofString x
def nmD : PyData → Str
  | .str x => x
  | _ => sg ""
def itD : PyData → List PyData
  | .tuple ds => ds
  | _ => []
def caseD : PyData → List Str × PyData
  | .tuple [_, ns, u] => ((itD ns).map nmD, u)
  | c => ([], c)
def kids : PyData → List (List Str × PyData)
  | .tuple [.str s, a, b] => if s = sg "#" then (itD b).map (fun t => ([], t)) else if s = sg "?" then ([], a) :: (itD b).map caseD else [([], a), ([], b)]
  | .tuple [.str _, x, _, t] => [([nmD x], t)]
  | .tuple [.str _, t, x, y, u] => [([], t), ([nmD x, nmD y], u)]
  | _ => []
theorem nm_map (xs : List Str) : (xs.map strD).map nmD = xs := by
  induction xs with
  | nil => rfl
  | cons x xs ih =>
    show x :: (xs.map strD).map nmD = _
    rw [ih]
theorem kids_str (x : Str) : kids (.str x) = [] := rfl
theorem kids_at (s : Str) (f : PyData) : kids (.tuple [.str s, f]) = [] := rfl
theorem kids_lam (s x : Str) (k t : PyData) : kids (.tuple [.str s, .str x, k, t]) = [([x], t)] := rfl
theorem kids_five (s x y : Str) (t u : PyData) : kids (.tuple [.str s, t, .str x, .str y, u]) = [([], t), ([x, y], u)] := rfl
theorem kids_three (s : Str) (a b : PyData) : kids (.tuple [.str s, a, b]) = if s = sg "#" then (itD b).map (fun t => ([], t)) else if s = sg "?" then ([], a) :: (itD b).map caseD else [([], a), ([], b)] := rfl
theorem kids_mk (c : PyData) (ts : List PyData) : kids (.tuple [.str (sg "#"), c, .tuple ts]) = ts.map (fun t => ([], t)) := by
  rw [kids_three, if_pos rfl]
  rfl
theorem kids_ch (t : PyData) (cs : List (Str × List Str × PyData)) : kids (.tuple [.str (sg "?"), t, .tuple (cs.map fun c => .tuple [.str c.1, .tuple (c.2.1.map strD), c.2.2])]) = ([], t) :: cs.map (·.2) := by
  rw [kids_three, if_neg (by decide +kernel), if_pos rfl]
  show _ :: (cs.map _).map caseD = _
  rw [List.map_map]
  congr 1
  refine List.map_congr_left fun c _ => ?_
  show ((c.2.1.map strD).map nmD, c.2.2) = c.2
  rw [nm_map]
theorem kids_two {s : Str} (t u : PyData) (h : s ∈ [sg "!", sg "&", sg "-"]) : kids (.tuple [.str s, t, u]) = [([], t), ([], u)] := by
  rw [kids_three]
  simp only [List.mem_cons, List.not_mem_nil, or_false] at h
  rcases h with rfl | rfl | rfl
  all_goals rw [if_neg (by decide +kernel), if_neg (by decide +kernel)]
theorem kids_tm : ∀ {n : Nat} {d : PyData}, Tm (n + 1) d → ∀ k ∈ kids d, Tm n k.2
  | _, _, .name n x, k, h => by cases h
  | _, _, .at n x, k, h => by cases h
  | _, _, .lam x kk t, k, h => by
    rw [kids_lam] at h
    rw [List.mem_singleton.mp h]
    exact t
  | _, _, .two s hs t u, k, h => by
    rw [kids_two _ _ hs] at h
    simp only [List.mem_cons, List.not_mem_nil, or_false] at h
    rcases h with rfl | rfl
    · exact t
    · exact u
  | _, _, .five s x y hs t u, k, h => by
    rw [kids_five] at h
    simp only [List.mem_cons, List.not_mem_nil, or_false] at h
    rcases h with rfl | rfl
    · exact t
    · exact u
  | _, _, .mk c ts ht, k, h => by
    rw [kids_mk] at h
    obtain ⟨t, ht', rfl⟩ := List.mem_map.mp h
    exact ht t ht'
  | _, _, .ch cs t hc, k, h => by
    rw [kids_ch] at h
    rcases List.mem_cons.mp h with rfl | h
    · exact t
    · obtain ⟨c, hc', rfl⟩ := List.mem_map.mp h
      exact hc c hc'
theorem FitAll.unc {n m : Nat} {d : PyData} {ds : List PyData} (f : FitAll n m (d :: ds)) : ∃ a b, a + 2 + b ≤ n ∧ Fit a m d ∧ FitAll b m ds := by
  obtain ⟨a, b, c, h, _, f2, f3⟩ := f.get (i := 0) rfl
  exact ⟨b, c, by omega, f2, f3⟩
theorem FitAll.fmap (f : PyData → PyData) : ∀ {ds : List PyData} {n m : Nat}, (∀ d ∈ ds, ∀ {n m : Nat}, Fit n m d → Fit n m (f d)) → FitAll n m ds → FitAll n m (ds.map f)
  | [], n, m, _, h => h
  | d :: ds, n, m, g, h => by
    obtain ⟨a, b, l, f1, f2⟩ := h.unc
    exact (FitAll.cons (g d (List.mem_cons_self ..) f1) (FitAll.fmap f (fun e he => g e (List.mem_cons_of_mem _ he)) f2)).le l (Nat.le_refl _)
theorem Fit.two {n m : Nat} {s t u : PyData} (f : Fit n m (.tuple [s, t, u])) : FitAll n m [t, u] ∧ Fit n m u ∧ Fit n m t := by
  obtain ⟨m', rfl⟩ := f.deep
  obtain ⟨h4, fa⟩ := f.items
  obtain ⟨a, b, l, f1, f2⟩ := fa.unc
  obtain ⟨a2, b2, l2, f3, f4⟩ := f2.unc
  obtain ⟨a3, b3, l3, f5, f6⟩ := f4.unc
  exact ⟨f2.le (by omega) (by omega), f5.le (by omega) (by omega), f3.le (by omega) (by omega)⟩
theorem Fit.inner {n m : Nat} {ts : List PyData} (f : Fit n m (.tuple ts)) : FitAll n m ts := by
  obtain ⟨m', rfl⟩ := f.deep
  obtain ⟨h4, fa⟩ := f.items
  exact fa.le (by omega) (by omega)
theorem kids_fit : ∀ {n w m : Nat} {d : PyData}, Tm n d → Fit w m d → FitAll w m ((kids d).map (·.2))
  | _, w, m, _, .name n x, f => FitAll.nil.le (Nat.zero_le _) (Nat.le_refl _)
  | _, w, m, _, .at n x, f => FitAll.nil.le (Nat.zero_le _) (Nat.le_refl _)
  | _, w, m, _, .lam x kk t, f => by
    rw [kids_lam]
    obtain ⟨a, b, l, f1, f2⟩ := f.inner.unc
    obtain ⟨a2, b2, l2, f3, f4⟩ := f2.unc
    obtain ⟨a3, b3, l3, f5, f6⟩ := f4.unc
    exact f6.le (by omega) (Nat.le_refl _)
  | _, w, m, _, .two s hs t u, f => by
    rw [kids_two _ _ hs]
    exact f.two.1
  | _, w, m, _, .five s x y hs t u, f => by
    rw [kids_five]
    obtain ⟨a, b, l, f1, f2⟩ := f.inner.unc
    obtain ⟨a2, b2, l2, f3, f4⟩ := f2.unc
    obtain ⟨a3, b3, l3, f5, f6⟩ := f4.unc
    obtain ⟨a4, b4, l4, f7, f8⟩ := f6.unc
    exact (FitAll.cons f3 f8).le (by omega) (Nat.le_refl _)
  | _, w, m, _, .mk c ts ht, f => by
    rw [kids_mk, List.map_map]
    have := f.two.2.1.inner
    rwa [show ts.map ((fun x : List Str × PyData => x.2) ∘ fun t => ([], t)) = ts from List.map_id _]
  | _, w, m, _, .ch cs t hc, f => by
    rw [kids_ch]
    obtain ⟨a, b, l, f1, f2⟩ := f.inner.unc
    obtain ⟨a2, b2, l2, f3, f4⟩ := f2.unc
    obtain ⟨a3, b3, l3, f5, f6⟩ := f4.unc
    have g := f5.inner
    have g2 := FitAll.fmap (fun c => (caseD c).2) (fun d hd => by
      obtain ⟨c, _, rfl⟩ := List.mem_map.mp hd
      intro n m q
      exact q.two.2.1) g
    rw [List.map_map] at g2
    show FitAll w m (_ :: (cs.map (·.2)).map (·.2))
    rw [List.map_map]
    exact (FitAll.cons f3 g2).le (by omega) (Nat.le_refl _)
theorem len_wt2 : ∀ {n m : Nat} {ds : List PyData}, FitAll n m ds → 2 * ds.length ≤ n
  | n, m, [], _ => Nat.zero_le _
  | n, m, d :: ds, f => by
    obtain ⟨a, b, l, f1, f2⟩ := f.unc
    have := len_wt2 f2
    rw [List.length_cons]
    omega
theorem kids_len {n w m : Nat} {d : PyData} (t : Tm n d) (f : Fit w m d) : 2 * (kids d).length ≤ w := by
  have := len_wt2 (kids_fit t f)
  rwa [List.length_map] at this
theorem FitAll.mem {n m : Nat} {ds : List PyData} (f : FitAll n m ds) {d : PyData} (h : d ∈ ds) : Fit n m d := by
  obtain ⟨i, hi⟩ := List.getElem?_of_mem h
  obtain ⟨a, b, c, l, _, f2, _⟩ := f.get hi
  exact f2.le (by omega) (Nat.le_refl _)
theorem kids_names : ∀ {n w m : Nat} {d : PyData}, Tm n d → Fit w m d → 4 ≤ w → ∀ k ∈ kids d, k.1.length ≤ w
  | _, w, m, _, .name n x, f, _, k, h => by cases h
  | _, w, m, _, .at n x, f, _, k, h => by cases h
  | _, w, m, _, .lam x kk t, f, hw, k, h => by
    rw [kids_lam] at h
    rw [List.mem_singleton.mp h]
    show 1 ≤ w
    omega
  | _, w, m, _, .two s hs t u, f, _, k, h => by
    rw [kids_two _ _ hs] at h
    simp only [List.mem_cons, List.not_mem_nil, or_false] at h
    rcases h with rfl | rfl
    · exact Nat.zero_le _
    · exact Nat.zero_le _
  | _, w, m, _, .five s x y hs t u, f, hw, k, h => by
    rw [kids_five] at h
    simp only [List.mem_cons, List.not_mem_nil, or_false] at h
    rcases h with rfl | rfl
    · exact Nat.zero_le _
    · show 2 ≤ w
      omega
  | _, w, m, _, .mk c ts ht, f, _, k, h => by
    rw [kids_mk] at h
    obtain ⟨t, ht', rfl⟩ := List.mem_map.mp h
    exact Nat.zero_le _
  | _, w, m, _, .ch cs t hc, f, _, k, h => by
    rw [kids_ch] at h
    rcases List.mem_cons.mp h with rfl | h
    · exact Nat.zero_le _
    · obtain ⟨c, hc', rfl⟩ := List.mem_map.mp h
      have g := f.two.2.1.inner.mem (List.mem_map.mpr ⟨c, hc', rfl⟩)
      have := len_wt2 g.two.2.2.inner
      rw [List.length_map] at this
      omega
/-- each part, in the order of the text -/
def pre : Nat → PyData → List PyData
  | 0, _ => []
  | n + 1, d => d :: (kids d).flatMap fun k => pre n k.2
/-- each part with the names that are given around it -/
def walkD : Nat → PyData → List Str → List (PyData × List Str)
  | 0, _, _ => []
  | n + 1, d, g => (d, g) :: (kids d).flatMap fun k => walkD n k.2 (g ++ k.1)
theorem map_flat {A B C : Type} (f : A → List B) (g : B → C) : ∀ xs : List A, (xs.flatMap f).map g = xs.flatMap fun x => (f x).map g
  | [] => rfl
  | x :: xs => by
    rw [List.flatMap_cons, List.flatMap_cons, List.map_append, map_flat f g xs]
theorem flat_eq {A B : Type} {f g : A → List B} : ∀ {xs : List A}, (∀ x ∈ xs, f x = g x) → xs.flatMap f = xs.flatMap g
  | [], _ => rfl
  | x :: xs, h => by
    rw [List.flatMap_cons, List.flatMap_cons, h x (List.mem_cons_self ..), flat_eq fun y hy => h y (List.mem_cons_of_mem _ hy)]
theorem walk_pre : ∀ (n : Nat) (d : PyData) (g : List Str), (walkD n d g).map (·.1) = pre n d
  | 0, _, _ => rfl
  | n + 1, d, g => by
    show d :: ((kids d).flatMap fun k => walkD n k.2 (g ++ k.1)).map (·.1) = d :: _
    rw [map_flat]
    congr 1
    exact flat_eq fun k _ => walk_pre n k.2 _
theorem walk_up : ∀ {m : Nat} {d : PyData} {g : List Str}, Tm m d → ∀ {n : Nat}, m ≤ n → walkD n d g = walkD m d g
  | 0, d, g, t, n, h => by cases t
  | m + 1, d, g, t, n, h => by
    obtain ⟨n, rfl⟩ : ∃ k, n = k + 1 := ⟨n - 1, by omega⟩
    show (d, g) :: _ = (d, g) :: _
    congr 1
    exact flat_eq fun k hk => walk_up (kids_tm t k hk) (by omega)
theorem pre_up {m n : Nat} {d : PyData} (t : Tm m d) (h : m ≤ n) : pre n d = pre m d := by
  rw [← walk_pre n d [], ← walk_pre m d [], walk_up t h]
theorem pre_fit : ∀ {n w m : Nat} {d : PyData}, Tm n d → Fit w m d → FitAll (n * (w + 2)) m (pre n d)
  | 0, w, m, d, t, f => by cases t
  | n + 1, w, m, d, t, f => by
    have step : ∀ (ks : List (List Str × PyData)) (b : Nat), (∀ k ∈ ks, Tm n k.2) → FitAll b m (ks.map (·.2)) → FitAll (n * b) m (ks.flatMap fun k => pre n k.2) := by
      intro ks
      induction ks with
      | nil => exact fun b _ h => FitAll.nil.le (Nat.zero_le _) (Nat.le_refl _)
      | cons k ks ih =>
        intro b ht h
        obtain ⟨x, y, l, f1, f2⟩ := FitAll.unc h
        rw [List.flatMap_cons]
        refine ((pre_fit (ht k (List.mem_cons_self ..)) f1).append (ih y (fun e he => ht e (List.mem_cons_of_mem _ he)) f2)).le ?_ (Nat.le_refl _)
        rw [← Nat.mul_add]
        exact Nat.mul_le_mul_left _ l
    refine (FitAll.cons f (step (kids d) w (kids_tm t) (kids_fit t f))).le ?_ (Nat.le_refl _)
    rw [Nat.succ_mul]
    have : n * w ≤ n * (w + 2) := Nat.mul_le_mul_left _ (by omega)
    omega
theorem pre_len {n w m : Nat} {d : PyData} (t : Tm n d) (f : Fit w m d) : 2 * (pre n d).length ≤ n * (w + 2) := len_wt2 (pre_fit t f)
/-- each but the first of its like is left out -/
def dd (acc : List Str) : List Str → List Str
  | [] => acc
  | x :: xs => dd (if x ∈ acc then acc else acc ++ [x]) xs
/-- a name that is not given -/
def outs : List (PyData × List Str) → List Str
  | [] => []
  | (.str x, g) :: ws => if x ∈ g then outs ws else x :: outs ws
  | _ :: ws => outs ws
theorem dd_app (xs ys : List Str) : ∀ acc, dd acc (xs ++ ys) = dd (dd acc xs) ys := by
  induction xs with
  | nil => exact fun _ => rfl
  | cons x xs ih => exact fun acc => ih _
theorem outs_app (ws zs : List (PyData × List Str)) : outs (ws ++ zs) = outs ws ++ outs zs := by
  induction ws with
  | nil => rfl
  | cons q ws ih =>
    obtain ⟨d, g⟩ := q
    cases d with
    | str x =>
      show (if x ∈ g then outs (ws ++ zs) else x :: outs (ws ++ zs)) = (if x ∈ g then outs ws else x :: outs ws) ++ outs zs
      by_cases h : x ∈ g
      · rw [if_pos h, if_pos h, ih]
      · rw [if_neg h, if_neg h, ih]
        rfl
    | _ => exact ih
theorem outs_len (ws : List (PyData × List Str)) : (outs ws).length ≤ ws.length := by
  induction ws with
  | nil => exact Nat.le_refl _
  | cons q ws ih =>
    obtain ⟨d, g⟩ := q
    rw [List.length_cons]
    cases d with
    | str x =>
      show (if x ∈ g then outs ws else x :: outs ws).length ≤ _
      by_cases h : x ∈ g
      · rw [if_pos h]
        omega
      · rw [if_neg h, List.length_cons]
        omega
    | _ => exact Nat.le_trans ih (by omega)
theorem dd_len (xs : List Str) : ∀ acc, (dd acc xs).length ≤ acc.length + xs.length := by
  induction xs with
  | nil => exact fun _ => Nat.le_refl _
  | cons x xs ih =>
    intro acc
    refine Nat.le_trans (ih _) ?_
    rw [List.length_cons]
    by_cases h : x ∈ acc
    · rw [if_pos h]
      omega
    · rw [if_neg h, List.length_append]
      show acc.length + 1 + _ ≤ _
      omega
/-! tuples that stay -/
def Ts (K : PySem.W.Frag) (H H' : Hp) : Prop := ∀ a xs, SqT K H a xs → SqT K H' a xs
section
variable {K : PySem.W.Frag} {H H1 H2 H' : Hp}
theorem Ts.trans (a : Ts K H H1) (b : Ts K H1 H2) : Ts K H H2 := fun c xs h => b c xs (a c xs h)
theorem Ts.of (s : Same H H') : Ts K H H' := fun c xs h => sqT_same s h
theorem Ts.refl : Ts K H H := fun c xs h => h
theorem Ts.kp {p : Addr} (k : Kp p H H') (n : NoTup H p) : Ts K H H' := fun c xs h => sqT_kp k n h
theorem Ts.put {p : Addr} {xs : List V} {o : HO} (h : H p = some (.lst xs)) : Ts K H (upd H p o) := Ts.kp Kp.self fun ys r => by
  rcases r with r | ⟨ob, r⟩
  · rw [h] at r
    cases r
  · rw [h] at r
    cases r
mutual
theorem Da.ts (k : Ts K H H') : ∀ {v : V} {d : PyData}, Da K All H v d → Da K All H' v d
  | _, _, .non => .non
  | _, _, .bl b => .bl b
  | _, _, .int i => .int i
  | _, _, .str x => .str x
  | _, _, .lst e n r => absurd trivial n
  | _, _, .tup h r => .tup (k _ _ h) (r.ts k)
  | _, _, .dct e n r => absurd trivial n
theorem DaAll.ts (k : Ts K H H') : ∀ {vs : List V} {ds : List PyData}, DaAll K All H vs ds → DaAll K All H' vs ds
  | _, _, .nil => .nil
  | _, _, .cons h r => .cons (h.ts k) (r.ts k)
end
end
theorem DaAll.snoc {K : PySem.W.Frag} {N : Addr → Prop} {H : Hp} {ds : List PyData} {d : PyData} : ∀ {vs : List V}, DaAll K N H vs (ds ++ [d]) → ∃ us v, vs = us ++ [v] ∧ DaAll K N H us ds ∧ Da K N H v d := by
  induction ds with
  | nil =>
    intro vs h
    cases h with
    | cons a b =>
      cases b
      exact ⟨[], _, rfl, .nil, a⟩
  | cons e ds ih =>
    intro vs h
    cases h with
    | cons a b =>
      obtain ⟨us, v, rfl, h1, h2⟩ := ih b
      exact ⟨_ :: us, v, rfl, .cons a h1, h2⟩
theorem DaAll.rev {K : PySem.W.Frag} {N : Addr → Prop} {H : Hp} : ∀ {vs : List V} {ds : List PyData}, DaAll K N H vs ds → DaAll K N H vs.reverse ds.reverse
  | _, _, .nil => .nil
  | _, _, .cons a b => by
    rw [List.reverse_cons, List.reverse_cons]
    exact b.rev.append (.cons a .nil)
theorem DaAll.at {K : PySem.W.Frag} {N : Addr → Prop} {H : Hp} {vs : List V} {ds : List PyData} (h : DaAll K N H vs ds) {i : Nat} {d : PyData} (e : ds[i]? = some d) : ∃ v, vs[i]? = some v ∧ Da K N H v d := by
  have hl := h.length
  obtain ⟨hi, _⟩ := List.getElem?_eq_some_iff.mp e
  have hv : vs[i]? = some vs[i] := List.getElem?_eq_getElem (by omega)
  obtain ⟨d', e', hd⟩ := h.get hv
  rw [e] at e'
  cases e'
  exact ⟨_, hv, hd⟩
def kdA (k : List Str × PyData) : PyData := .tuple [.tuple (k.1.map strD), k.2]
def kdB (k : List Str × PyData) : PyData := .tuple [k.2, .tuple (k.1.map strD)]
def spKids (K : PySem.W.Frag) (f : List Str × PyData → PyData) : Sp := fun vs H Q _ => ∃ (v : V) (d : PyData) (n w m : Nat), vs = [v] ∧ Da K All H v d ∧ Tm n d ∧ Fit w m d ∧ w ≤ 16000000 ∧
  ∀ (L : Addr) (us : List V) (H' : Hp), Same H H' → H L = none → H' L = some (.lst us) → DaAll K All H' us ((kids d).map f) → Q (.ref L) H'
def spParts (K : PySem.W.Frag) : Sp := fun vs H Q _ => ∃ (v : V) (d : PyData) (n w m : Nat), vs = [v] ∧ Da K All H v d ∧ Tm n d ∧ Fit w m d ∧ n * (w + 2) ≤ 16000000 ∧
  ∀ (L : Addr) (us : List V) (H' : Hp), Same H H' → H L = none → H' L = some (.lst us) → DaAll K All H' us (pre n d) → Q (.ref L) H'
def spUses (K : PySem.W.Frag) : Sp := fun vs H Q _ => ∃ (v : V) (d : PyData) (n w m : Nat), vs = [v] ∧ Da K All H v d ∧ Tm n d ∧ Fit w m d ∧ 4 ≤ w ∧ n * (w + 2) ≤ 16000000 ∧
  ∀ (L : Addr) (H' : Hp), Same H H' → H L = none → H' L = some (.lst ((dd [] (outs (walkD n d []))).map V.str)) → Q (.ref L) H'
def spFirst : Sp := fun vs H Q _ => ∃ (a : Addr) (xs : List Str), vs = [.ref a] ∧ H a = some (.lst (xs.map V.str)) ∧ xs.length ≤ 16000000 ∧
  ∀ (L : Addr) (H' : Hp), Same H H' → H L = none → H' L = some (.lst ((dd [] xs).map V.str)) → Q (.ref L) H'
/-- a row of a part with a list of the names given around it -/
def Wk (K : PySem.W.Frag) (H : Hp) (u : V) (q : PyData × List Str) : Prop := ∃ (t : Addr) (v : V) (h : Addr), u = .ref t ∧ SqT K H t [v, .ref h] ∧ Da K All H v q.1 ∧ H h = some (.lst (q.2.map V.str))
theorem Wk.same {K : PySem.W.Frag} {H H' : Hp} {u : V} {q : PyData × List Str} (s : Same H H') (h : Wk K H u q) : Wk K H' u q := by
  obtain ⟨t, v, a, rfl, h1, h2, h3⟩ := h
  exact ⟨t, v, a, rfl, sqT_same s h1, h2.same s, s _ _ h3⟩
inductive WkAll (K : PySem.W.Frag) (H : Hp) : List V → List (PyData × List Str) → Prop
  | nil : WkAll K H [] []
  | cons {u : V} {us : List V} {q : PyData × List Str} {qs : List (PyData × List Str)} : Wk K H u q → WkAll K H us qs → WkAll K H (u :: us) (q :: qs)
theorem WkAll.same {K : PySem.W.Frag} {H H' : Hp} (s : Same H H') : ∀ {us : List V} {qs : List (PyData × List Str)}, WkAll K H us qs → WkAll K H' us qs
  | _, _, .nil => .nil
  | _, _, .cons a b => .cons (a.same s) (b.same s)
theorem WkAll.append {K : PySem.W.Frag} {H : Hp} : ∀ {us vs : List V} {qs rs : List (PyData × List Str)}, WkAll K H us qs → WkAll K H vs rs → WkAll K H (us ++ vs) (qs ++ rs)
  | _, _, _, _, .nil, h => h
  | _, _, _, _, .cons a b, h => .cons a (b.append h)
theorem WkAll.length {K : PySem.W.Frag} {H : Hp} : ∀ {us : List V} {qs : List (PyData × List Str)}, WkAll K H us qs → us.length = qs.length
  | _, _, .nil => rfl
  | _, _, .cons a b => by rw [List.length_cons, List.length_cons, b.length]
theorem WkAll.get {K : PySem.W.Frag} {H : Hp} : ∀ {us : List V} {qs : List (PyData × List Str)}, WkAll K H us qs → ∀ {i : Nat} {u : V}, us[i]? = some u → ∃ q, qs[i]? = some q ∧ Wk K H u q
  | _, _, .nil, i, u, e => by cases e
  | _, _, .cons a b, 0, u, e => by
    cases e
    exact ⟨_, rfl, a⟩
  | _, _, .cons a b, i + 1, u, e => b.get (i := i) e
def spWalk (K : PySem.W.Frag) (n : Nat) : Sp := fun vs H Q _ => ∃ (v : V) (d : PyData) (h : Addr) (g : List Str) (w m : Nat), vs = [v, .ref h] ∧ Da K All H v d ∧ Tm n d ∧ Fit w m d ∧ 4 ≤ w ∧ H h = some (.lst (g.map V.str)) ∧ n * (w + 2) ≤ 16000000 ∧ g.length + n * w ≤ 16000000 ∧
  ∀ (L : Addr) (us : List V) (H' : Hp), Same H H' → H L = none → H' L = some (.lst us) → WkAll K H' us (walkD n d g) → Q (.ref L) H'
section
variable {K : PySem.W.Frag} {N : Addr → Prop} {H H' : Hp}
theorem DaAll.unc {vs : List V} {d : PyData} {ds : List PyData} (h : DaAll K N H vs (d :: ds)) : ∃ v us, vs = v :: us ∧ Da K N H v d ∧ DaAll K N H us ds := by
  cases h with
  | cons a b => exact ⟨_, _, rfl, a, b⟩
theorem DaAll.un0 {vs : List V} (h : DaAll K N H vs []) : vs = [] := by
  cases h
  rfl
theorem Da.tup2 {v : V} {a b : PyData} (h : Da K N H v (.tuple [a, b])) : ∃ t x y, v = .ref t ∧ SqT K H t [x, y] ∧ Da K N H x a ∧ Da K N H y b := by
  obtain ⟨t, xs, rfl, hT, hA⟩ := h.tupInv
  obtain ⟨x, us, rfl, hx, hA⟩ := hA.unc
  obtain ⟨y, us, rfl, hy, hA⟩ := hA.unc
  obtain rfl := hA.un0
  exact ⟨t, x, y, rfl, hT, hx, hy⟩
theorem Da.tup4 {v : V} {a b c d : PyData} (h : Da K N H v (.tuple [a, b, c, d])) : ∃ t x y z w, v = .ref t ∧ SqT K H t [x, y, z, w] ∧ Da K N H x a ∧ Da K N H y b ∧ Da K N H z c ∧ Da K N H w d := by
  obtain ⟨t, xs, rfl, hT, hA⟩ := h.tupInv
  obtain ⟨x, us, rfl, hx, hA⟩ := hA.unc
  obtain ⟨y, us, rfl, hy, hA⟩ := hA.unc
  obtain ⟨z, us, rfl, hz, hA⟩ := hA.unc
  obtain ⟨w, us, rfl, hw, hA⟩ := hA.unc
  obtain rfl := hA.un0
  exact ⟨t, x, y, z, w, rfl, hT, hx, hy, hz, hw⟩
theorem Da.tup5 {v : V} {a b c d e : PyData} (h : Da K N H v (.tuple [a, b, c, d, e])) : ∃ t x y z w u, v = .ref t ∧ SqT K H t [x, y, z, w, u] ∧ Da K N H x a ∧ Da K N H y b ∧ Da K N H z c ∧ Da K N H w d ∧ Da K N H u e := by
  obtain ⟨t, xs, rfl, hT, hA⟩ := h.tupInv
  obtain ⟨x, us, rfl, hx, hA⟩ := hA.unc
  obtain ⟨y, us, rfl, hy, hA⟩ := hA.unc
  obtain ⟨z, us, rfl, hz, hA⟩ := hA.unc
  obtain ⟨w, us, rfl, hw, hA⟩ := hA.unc
  obtain ⟨u, us, rfl, hu, hA⟩ := hA.unc
  obtain rfl := hA.un0
  exact ⟨t, x, y, z, w, u, rfl, hT, hx, hy, hz, hw, hu⟩
theorem da_strs : ∀ {vs : List V} {xs : List Str}, DaAll K N H vs (xs.map strD) → vs = xs.map V.str
  | vs, [], h => h.un0
  | vs, x :: xs, h => by
    obtain ⟨v, us, rfl, hv, hA⟩ := DaAll.unc h
    rw [hv.strInv, da_strs hA]
    rfl
theorem Da.names {v : V} {xs : List Str} (h : Da K N H v (.tuple (xs.map strD))) : ∃ t, v = .ref t ∧ SqT K H t (xs.map V.str) := by
  obtain ⟨t, vs, rfl, hT, hA⟩ := h.tupInv
  rw [da_strs hA] at hT
  exact ⟨t, rfl, hT⟩
theorem row_a {t n : Addr} {v : V} {d : PyData} {xs : List Str} (h : SqT K H t [.ref n, v]) (h1 : SqT K H n (xs.map V.str)) (h2 : Da K All H v d) : Da K All H (.ref t) (kdA (xs, d)) :=
  .tup h (.cons (.tup h1 (da_names xs)) (.cons h2 .nil))
theorem row_b {t n : Addr} {v : V} {d : PyData} {xs : List Str} (h : SqT K H t [v, .ref n]) (h1 : SqT K H n (xs.map V.str)) (h2 : Da K All H v d) : Da K All H (.ref t) (kdB (xs, d)) :=
  .tup h (.cons h2 (.cons (.tup h1 (da_names xs)) .nil))
theorem acc_da {D : Addr} {us : List V} {ds : List PyData} {y : V} {d : PyData} (e : H D = some (.lst us)) (h : DaAll K All H us ds) (g : Da K All H y d) : DaAll K All (upd H D (.lst (us ++ [y]))) (us ++ [y]) (ds ++ [d]) :=
  (h.append (.cons g .nil)).ts (Ts.put e)
theorem in_strs (s : Str) (xs : List Str) : inV (.str s) (xs.map V.str) = decide (s ∈ xs) := by
  induction xs with
  | nil => rfl
  | cons x xs ih =>
    show ((x == s) || inV (.str s) (xs.map V.str)) = _
    rw [ih]
    by_cases h : x = s
    · subst h
      simp
    · rw [show (x == s) = false from beq_eq_false_iff_ne.mpr h, Bool.false_or]
      have : ¬ s = x := fun e => h e.symm
      simp [this]
theorem flat_strs (xs : List Str) : (xs.map V.str).all flatV = true := by simp [flatV]
end
theorem iteSF {A B : Prop} {a b : Str} (h : a ≠ b) (hb : B) : if decide (V.str a = V.str b) = true then A else B := by
  rw [decide_eq_false (fun e => h (by injection e))]
  exact iteF hb
theorem iteST {A B : Prop} {a b : Str} (h : a = b) (ha : A) : if decide (V.str a = V.str b) = true then A else B := by
  rw [decide_eq_true (congrArg V.str h)]
  exact iteT ha
theorem iteInF {A B : Prop} {x : Str} {xs : List Str} (h : x ∉ xs) (hb : B) : if (if false = true then !inV (.str x) (xs.map V.str) else inV (.str x) (xs.map V.str)) = true then A else B := by
  rw [if_neg Bool.false_ne_true, in_strs, decide_eq_false h]
  exact iteF hb
theorem iteInT {A B : Prop} {x : Str} {xs : List Str} (h : x ∈ xs) (ha : A) : if (if false = true then !inV (.str x) (xs.map V.str) else inV (.str x) (xs.map V.str)) = true then A else B := by
  rw [if_neg Bool.false_ne_true, in_strs, decide_eq_true h]
  exact iteT ha
abbrev m2 : List Str := [Str.ofString "/", Str.ofString "+"]
abbrev m3 : List Str := [Str.ofString "!", Str.ofString "&", Str.ofString "-"]
theorem ne_mem {s z : Str} {l : List Str} (h : s ∈ l) (g : z ∉ l) : s ≠ z := fun e => g (e ▸ h)
theorem none_same {H H' : Hp} {L : Addr} (s : Same H H') (h : H' L = none) : H L = none := by
  cases e : H L with
  | none => rfl
  | some o => exact absurd (s _ _ e) (by rw [h]; nofun)
theorem ix_tupK {X : Cx} {K : PySem.W.Frag} (h : X.K = K) : IxR X (rIxT K) := h ▸ ix_tup
theorem ix_listK {X : Cx} {K : PySem.W.Frag} (h : X.K = K) : IxR X (rIxL K) := h ▸ ix_list
theorem notIn_seqK {X : Cx} {K : PySem.W.Frag} (h : X.K = K) : OpR X (compareOp .NotIn) (rIn K true) := h ▸ op_notIn_seq
theorem isDK {X : Cx} {K : PySem.W.Frag} (h : X.K = K) : CallR X (.builtin "isinstance") (rIsD K) := h ▸ call_isD
theorem tm_pos {n : Nat} {d : PyData} (t : Tm n d) : ∃ m, n = m + 1 := by
  cases n with
  | zero => cases t
  | succ m => exact ⟨m, rfl⟩
theorem kids_tmn {n : Nat} {d : PyData} (t : Tm n d) : ∀ k ∈ kids d, Tm n k.2 := by
  obtain ⟨m, rfl⟩ := tm_pos t
  exact fun k hk => (kids_tm t k hk).up (by omega)
theorem walk_step {n : Nat} {d : PyData} (t : Tm n d) (g : List Str) : walkD n d g = (d, g) :: (kids d).flatMap fun k => walkD n k.2 (g ++ k.1) := by
  obtain ⟨m, rfl⟩ := tm_pos t
  show (d, g) :: _ = (d, g) :: _
  congr 1
  exact flat_eq fun k hk => (walk_up (kids_tm t k hk) (by omega)).symm
theorem flat_map {A B C : Type} (f : A → B) (g : B → List C) : ∀ xs : List A, (xs.map f).flatMap g = xs.flatMap fun x => g (f x)
  | [] => rfl
  | x :: xs => by rw [List.map_cons, List.flatMap_cons, List.flatMap_cons, flat_map f g xs]
theorem pre_step {n : Nat} {d : PyData} (t : Tm n d) : pre n d = d :: ((kids d).map (·.2)).flatMap (pre n) := by
  obtain ⟨m, rfl⟩ := tm_pos t
  show d :: _ = d :: _
  rw [flat_map]
  congr 1
  exact flat_eq fun k hk => (pre_up (kids_tm t k hk) (by omega)).symm
theorem pre_pos {n : Nat} {d : PyData} (t : Tm n d) : 1 ≤ (pre n d).length := by
  rw [pre_step t, List.length_cons]
  omega
theorem flat_ge {n : Nat} : ∀ {ds : List PyData}, (∀ e ∈ ds, Tm n e) → ds.length ≤ (ds.flatMap (pre n)).length
  | [], _ => Nat.le_refl _
  | d :: ds, h => by
    have := flat_ge (ds := ds) fun e he => h e (List.mem_cons_of_mem _ he)
    have := pre_pos (h d (List.mem_cons_self ..))
    rw [List.flatMap_cons, List.length_append, List.length_cons]
    omega
theorem walk_len {n : Nat} {d : PyData} {g : List Str} : (walkD n d g).length = (pre n d).length := by
  rw [← walk_pre n d g, List.length_map]
theorem opAddK {X : Cx} {K : PySem.W.Frag} (h : X.K = K) : OpR X (binaryOp .Add) (rAddAny K) := h ▸ opAdd
theorem outs_no {d : PyData} {g : List Str} {ws : List (PyData × List Str)} (h : tyD d ≠ "str") : outs ((d, g) :: ws) = outs ws := by
  cases d with
  | str x => exact absurd rfl h
  | _ => rfl
theorem outs_str (x : Str) (g : List Str) : outs [(.str x, g)] = if x ∈ g then [] else [x] := rfl
theorem outs_cons (q : PyData × List Str) (ws : List (PyData × List Str)) : outs (q :: ws) = outs [q] ++ outs ws := outs_app [q] ws
theorem dd_one (t : List Str) (x : Str) : dd t [x] = if x ∈ t then t else t ++ [x] := rfl
theorem walk_ge {n : Nat} : ∀ {qs : List (List Str × PyData)}, (∀ q ∈ qs, Tm n q.2) → qs.length ≤ (qs.flatMap fun q => walkD n q.2 q.1).length
  | [], _ => Nat.le_refl _
  | q :: qs, h => by
    have := walk_ge (qs := qs) fun e he => h e (List.mem_cons_of_mem _ he)
    have h1 := pre_pos (h q (List.mem_cons_self ..))
    rw [← walk_len (g := q.1)] at h1
    rw [List.flatMap_cons, List.length_append, List.length_cons]
    omega
theorem FitAll.sub {m : Nat} {es ds : List PyData} (h : es.Sublist ds) : ∀ {n : Nat}, FitAll n m ds → FitAll n m es := by
  induction h with
  | slnil => exact fun f => f
  | cons a h ih =>
    intro n f
    obtain ⟨x, y, l, _, f2⟩ := f.unc
    exact (ih f2).le (by omega) (Nat.le_refl _)
  | cons_cons a h ih =>
    intro n f
    obtain ⟨x, y, l, f1, f2⟩ := f.unc
    exact (FitAll.cons f1 (ih f2)).le l (Nat.le_refl _)
theorem outs_sub : ∀ ws : List (PyData × List Str), ((outs ws).map strD).Sublist (ws.map (·.1))
  | [] => .slnil
  | (d, g) :: ws => by
    have ih := outs_sub ws
    by_cases hs : tyD d = "str"
    · obtain ⟨x, rfl⟩ := ty_str hs
      show ((if x ∈ g then outs ws else x :: outs ws).map strD).Sublist (.str x :: ws.map (·.1))
      by_cases h : x ∈ g
      · rw [if_pos h]
        exact ih.cons _
      · rw [if_neg h]
        exact ih.cons_cons _
    · rw [outs_no hs]
      exact ih.cons _
theorem dd_sub : ∀ (xs acc : List Str), ∃ ys, dd acc xs = acc ++ ys ∧ ys.Sublist xs
  | [], acc => ⟨[], (List.append_nil _).symm, .slnil⟩
  | x :: xs, acc => by
    by_cases h : x ∈ acc
    · obtain ⟨ys, e, l⟩ := dd_sub xs acc
      refine ⟨ys, ?_, l.cons _⟩
      show dd (if x ∈ acc then acc else acc ++ [x]) xs = _
      rw [if_pos h, e]
    · obtain ⟨ys, e, l⟩ := dd_sub xs (acc ++ [x])
      refine ⟨x :: ys, ?_, l.cons_cons _⟩
      show dd (if x ∈ acc then acc else acc ++ [x]) xs = _
      rw [if_neg h, e, List.append_assoc]
      rfl
/-- the names of a term, as a list that is shown -/
theorem free_fit {n w m : Nat} {d : PyData} (t : Tm n d) (f : Fit w m d) : FitAll (n * (w + 2)) m ((dd [] (outs (walkD n d []))).map strD) := by
  obtain ⟨ys, e, l⟩ := dd_sub (outs (walkD n d [])) []
  rw [e, List.nil_append]
  refine FitAll.sub (l.map strD) (FitAll.sub (outs_sub _) ?_)
  rw [walk_pre]
  exact pre_fit t f
abbrev No : Addr → Prop := fun _ => False
theorem da_lst {K : PySem.W.Frag} {H : Hp} {L : Addr} {us : List V} {ds : List PyData} (e : H L = some (.lst us)) (g : DaAll K All H us ds) : Da K No H (.ref L) (.list ds) := .lst e (fun z => z) (g.less fun _ z => z.elim)
theorem da_frees {K : PySem.W.Frag} {H : Hp} {L : Addr} {xs : List Str} (e : H L = some (.lst (xs.map V.str))) : Da K No H (.ref L) (.list (xs.map strD)) := .lst e (fun z => z) (da_names xs)
end Ow

namespace Ow
open PySem PySem.Spec PyProof.Rows L2
def top (i : Nat) : Stmt := PySem.Challenge.pw_oncewire_k05_parts_and_uses.main.body.getD i (.Pass ⟨0, 0, 0, 0⟩)
abbrev s_below : Stmt := top 1
abbrev sl_below : List Str := ["term", "inner", "_", "names"]
theorem sc_below : FnScope sl_below ["term"] (defScope s_below) := ⟨rfl, rfl, rfl, by decide +kernel, rfl, by decide +kernel, by decide +kernel⟩
abbrev s_parts : Stmt := top 2
abbrev sl_parts : List Str := ["term", "told", "rows", "one", "_", "inner"]
theorem sc_parts : FnScope sl_parts ["term"] (defScope s_parts) := ⟨rfl, rfl, rfl, by decide +kernel, rfl, by decide +kernel, by decide +kernel⟩
abbrev s_uses : Stmt := top 3
abbrev sl_uses : List Str := ["term", "told", "rows", "one", "given", "names", "inner"]
theorem sc_uses : FnScope sl_uses ["term"] (defScope s_uses) := ⟨rfl, rfl, rfl, by decide +kernel, rfl, by decide +kernel, by decide +kernel⟩
abbrev s_law_pen : Stmt := top 5
abbrev sl_law_pen : List Str := ["_law_script"]
theorem sc_law_pen : FnScope sl_law_pen ["_law_script"] (defScope s_law_pen) := ⟨rfl, rfl, rfl, by decide +kernel, rfl, by decide +kernel, by decide +kernel⟩
abbrev s_law_fresh : Stmt := top 6
abbrev sl_law_fresh : List Str := ["_law_pen_here", "_law_spot", "_law_cell", "_law_one", "_law_two", "_law_three"]
theorem sc_law_fresh : FnScope sl_law_fresh ["_law_pen_here"] (defScope s_law_fresh) := ⟨rfl, rfl, rfl, by decide +kernel, rfl, by decide +kernel, by decide +kernel⟩
abbrev s_law_draw : Stmt := top 7
abbrev sl_law_draw : List Str := ["_law_pen_here", "_law_below", "_law_found"]
theorem sc_law_draw : FnScope sl_law_draw ["_law_pen_here", "_law_below"] (defScope s_law_draw) := ⟨rfl, rfl, rfl, by decide +kernel, rfl, by decide +kernel, by decide +kernel⟩
abbrev s_law_name : Stmt := top 8
abbrev sl_law_name : List Str := ["_law_pen_here", "_law_gone", "_law_letters", "_law_found", "_law_turn", "_law_front", "_law_k"]
theorem sc_law_name : FnScope sl_law_name ["_law_pen_here", "_law_gone"] (defScope s_law_name) := ⟨rfl, rfl, rfl, by decide +kernel, rfl, by decide +kernel, by decide +kernel⟩
abbrev s_law_rough_kind : Stmt := top 9
abbrev sl_law_rough_kind : List Str := ["_law_pen_here", "_law_deep", "_law_sign"]
theorem sc_law_rough_kind : FnScope sl_law_rough_kind ["_law_pen_here", "_law_deep"] (defScope s_law_rough_kind) := ⟨rfl, rfl, rfl, by decide +kernel, rfl, by decide +kernel, by decide +kernel⟩
abbrev s_law_few : Stmt := top 10
abbrev sl_law_few : List Str := ["_law_pen_here"]
theorem sc_law_few : FnScope sl_law_few ["_law_pen_here"] (defScope s_law_few) := ⟨rfl, rfl, rfl, by decide +kernel, rfl, by decide +kernel, by decide +kernel⟩
abbrev s_law_row : Stmt := top 11
abbrev sl_law_row : List Str := ["_law_pen_here", "_law_often", "_law_found", "_law_turn", "_law_nym"]
theorem sc_law_row : FnScope sl_law_row ["_law_pen_here", "_law_often"] (defScope s_law_row) := ⟨rfl, rfl, rfl, by decide +kernel, rfl, by decide +kernel, by decide +kernel⟩
abbrev s_law_rough : Stmt := top 12
abbrev sl_law_rough : List Str := ["_law_pen_here", "_law_deep", "_law_road", "_law_first_here", "_law_often", "_law_turn", "_law_cases", "_law_some"]
theorem sc_law_rough : FnScope sl_law_rough ["_law_pen_here", "_law_deep"] (defScope s_law_rough) := ⟨rfl, rfl, rfl, by decide +kernel, rfl, by decide +kernel, by decide +kernel⟩
abbrev s_law_inner : Stmt := top 13
abbrev sl_law_inner : List Str := ["_law_term", "_law_one"]
theorem sc_law_inner : FnScope sl_law_inner ["_law_term"] (defScope s_law_inner) := ⟨rfl, rfl, rfl, by decide +kernel, rfl, by decide +kernel, by decide +kernel⟩
abbrev s_law_walk : Stmt := top 14
abbrev sl_law_walk : List Str := ["_law_term", "_law_hidden", "_law_found", "_law_one", "_law_some"]
theorem sc_law_walk : FnScope sl_law_walk ["_law_term", "_law_hidden"] (defScope s_law_walk) := ⟨rfl, rfl, rfl, by decide +kernel, rfl, by decide +kernel, by decide +kernel⟩
abbrev s_law_first : Stmt := top 15
abbrev sl_law_first : List Str := ["_law_some", "_law_found", "_law_one"]
theorem sc_law_first : FnScope sl_law_first ["_law_some"] (defScope s_law_first) := ⟨rfl, rfl, rfl, by decide +kernel, rfl, by decide +kernel, by decide +kernel⟩
abbrev s_law : Stmt := top 16
abbrev sl_law : List Str := ["_law_script", "_law_pen_here", "_law_turn", "_law_term", "_law_seen", "_law_walk_here", "_law_due", "_law_one", "_law_free", "_law_told"]
theorem sc_law : FnScope sl_law ["_law_script"] (defScope s_law) := ⟨rfl, rfl, rfl, by decide +kernel, rfl, by decide +kernel, by decide +kernel⟩
section
variable {P : Program} {w : World} {K : PySem.W.Frag} {mg : Str → Option Value} {base : Heap}
theorem ok_pen (D : DefAt K mg "_law_pen" s_law_pen ["_law_script"]) (T : Bl mg) : CallOk P w K mg base 1 "_law_pen" ["_law_script"] (spPen K) := by
  refine D.ok sc_law_pen (fun vs H Q E h => ?_) (fun f cdv A outer s H vs Q E hr h => ?_)
  · obtain ⟨a, ns, rfl, _⟩ := h
    rfl
  · obtain ⟨a, ns, rfl, hS, hl, k⟩ := h
    refine ⟨_, (pss_one (ps_ret (pe_lst (pa_cons (pe_callTy call_list_of (by rfl) T.list_ (by decide +kernel) (pa_cons (pe_slice sl_list (pv 0) po_none (po_some pe_int)) pa_nil)) (pa_cons pe_int (pa_cons pe_int pa_nil)))))), ?_⟩
    refine ⟨_, rfl, 60, rfl, a, ns.map V.int, rfl, hS, fun q hq => ?_⟩
    refine ⟨q, _, rfl, .inl (SqL.of upd_same), fun r hr2 => ?_⟩
    refine ⟨le_line (by show 3 ≤ 16000000; decide), fun p hp => ?_⟩
    have n1 : r ≠ p := ne_of_none upd_same hp
    have s1 : Same H (upd (upd (upd H q (.lst (cutV (ns.map V.int) none (some 60)))) r (.lst (cutV (ns.map V.int) none (some 60)))) p (.lst [.ref r, .int 0, .int 0])) := Same.lay (Same.lay (same_new hq) hr2) hp
    refine k p r _ ⟨⟨0, 0, upd_same⟩, ns.take (min 60 ns.length), ?_, ?_⟩ s1 ?_ ?_
    · rw [upd_ne n1, upd_same, show ((60 : Int)) = ((60 : Nat) : Int) from rfl, cut_front]
    · rw [List.length_take]
      omega
    · exact (Same.lay (same_new hq) hr2).free hp
    · exact (same_new hq).free hr2
theorem ok_fresh (D : DefAt K mg "_law_fresh" s_law_fresh ["_law_pen_here"]) (T : Bl mg) : CallOk P w K mg base 1 "_law_fresh" ["_law_pen_here"] spFresh := by
  refine D.ok sc_law_fresh (fun vs H Q E h => ?_) (fun f cdv A outer s H vs Q E hr h => ?_)
  · obtain ⟨p, c, rfl, _⟩ := h
    rfl
  · obtain ⟨p, c, rfl, hP, k⟩ := h
    refine ⟨_, (pss_cons (ps_set (i := 1) sc_law_fresh.nd rfl (Or.inl rfl) (pe_ix ix_list (pv 0) pe_int (fun _ _ => rfl)))
        (pss_cons (ps_asg (pe_op opAdd (pv 1) pe_int) (pg_sub (pv 0) pe_int set_list))
        (pss_cons (ps_set (i := 2) sc_law_fresh.nd rfl (Or.inl rfl) (pe_op op_mul (pv 1) pe_int))
        (Evl.pss_cut (ps_if (pt_cmpR (op_neD hr.units) (pe_ix ix_list (pv 0) pe_int (fun _ _ => rfl)) (pe_lst pa_nil) (nomark _)) (pss_one (ps_set (i := 2) sc_law_fresh.nd rfl (Or.inl rfl) (pe_ix ix_list (pe_ix ix_list (pv 0) pe_int (fun _ _ => rfl)) (pe_op op_mod (pv 1) (pe_callB call_len_seq (by rfl) T.len_ (by decide +kernel) (pa_cons (pe_ix ix_list (pv 0) pe_int (fun _ _ => rfl)) pa_nil))) (fun _ _ => rfl)))) pss_nil)
        (pss_cons (ps_if (PW.pt (pw_and (pt_cmpR op_lt (pv 1) (pe_callB call_len_seq (by rfl) T.len_ (by decide +kernel) (pa_cons (pe_ix ix_list (pv 0) pe_int (fun _ _ => rfl)) pa_nil)) (nomark _)) (pw_and1 (pt_cmpR op_ge (pv 2) (pe_op op_pow pe_int pe_int) (nomark _))))) (pss_one (ps_ret (pv 2))) pss_nil)
        (pss_cons (ps_set (i := 3) sc_law_fresh.nd rfl (Or.inl rfl) (pe_op op_mod (pe_op opAdd (pe_op opAdd (pe_op op_mod (pv 2) pe_int) (pe_op op_mul (pv 1) pe_int)) pe_int) pe_int))
        (pss_cons (ps_set (i := 4) sc_law_fresh.nd rfl (Or.inl rfl) (pe_op op_mod (pe_op opAdd (pe_op opAdd (pe_op op_mul (pv 3) (pv 3)) (pe_op op_mul (pv 1) pe_int)) pe_int) pe_int))
        (pss_cons (ps_set (i := 5) sc_law_fresh.nd rfl (Or.inl rfl) (pe_op op_mod (pe_op opAdd (pe_op op_mul (pv 4) (pv 4)) (pe_op op_mul (pv 3) (pe_op opAdd (pv 1) pe_int))) pe_int))
        (pss_one (ps_ret (pe_op opAdd (pe_op op_mul (pe_op opAdd (pe_op op_mul (pv 5) pe_int) (pv 4)) pe_int) (pv 3)))))))))))), ?_⟩
    obtain ⟨⟨z, r, h1⟩, _⟩ := id hP
    -- spot, and the next one's
    refine ⟨_, rfl, p, _, 1, _, rfl, rfl, SqL.of h1, rfl, ?_⟩
    refine ⟨_, rfl, .inl ⟨_, _, rfl, rfl, ?_⟩⟩
    refine ⟨_, rfl, p, _, 1, 1, rfl, rfl, h1, rfl, ?_⟩
    have hP1 : Pen (upd H p (.lst [.ref c, .int (z + 1), .int r])) p c := hP.put
    have k1 : Kp p H (upd H p (.lst [.ref c, .int (z + 1), .int r])) := Kp.self
    show tSeq _ _ _ _ (upd H p (.lst [.ref c, .int (z + 1), .int r]))
    generalize upd H p (.lst [.ref c, .int (z + 1), .int r]) = H1 at hP1 k1
    obtain ⟨⟨z1, r1, h1'⟩, cs, h2, hl⟩ := id hP1
    refine ⟨_, rfl, _, _, rfl, rfl, .inr ⟨by decide, by decide⟩, ?_⟩
    -- the cell, where there are any
    refine ⟨fun σ H2 => ∃ v : Int, σ = [some (.ref p), some (.int z), some (.int v), none, none, none] ∧ Pen H2 p c ∧ Kp p H H2, ?_, ?_⟩
    · refine ⟨_, rfl, p, _, 0, _, rfl, rfl, SqL.of h1', rfl, Nat.zero_le _, fun q hq => ?_⟩
      have h1q : upd H1 q (.lst []) p = some (.lst [.ref c, .int z1, .int r1]) := by
        rw [upd_ne (hP1.neP hq).symm]
        exact h1'
      have h2q : upd H1 q (.lst []) c = some (.lst (cs.map V.int)) := by
        rw [upd_ne (hP1.neC hq).symm]
        exact h2
      have hPq : Pen (upd H1 q (.lst [])) p c := hP1.new hq
      have kq : Kp p H (upd H1 q (.lst [])) := k1.lay hq
      refine ⟨_, _, .lst (SqL.of h2q) (dp_ints _ _ cs), .lst (SqL.of upd_same) .nil, shaped_ints cs, shaped_nil, _, rfl, ?_⟩
      rw [eqv_nil]
      cases he : cs with
      | nil =>
        refine iteF ?_
        exact ⟨_, rfl, hPq, kq⟩
      | cons a t =>
        refine iteT ?_
        obtain ⟨v, hv⟩ := at_mod cs z (by rw [he]; exact Nat.succ_pos _)
        refine ⟨_, rfl, p, _, 0, _, rfl, rfl, SqL.of h1q, rfl, _, rfl, _, rfl, p, _, 0, _, rfl, rfl, SqL.of h1q, rfl, c, _, rfl, .inl (SqL.of h2q), _, _, rfl, rfl, ?_, c, cs.map V.int, _, .int v, rfl, rfl, SqL.of h2q, ?_, ?_⟩
        · show (0 : Int) < ((cs.map V.int).length : Int)
          rw [he, List.length_map, List.length_cons]
          omega
        · rw [List.length_map]
          exact hv
        · exact ⟨v, rfl, hPq, kq⟩
    · rintro σ H2 ⟨v, rfl, hP2, k2⟩
      obtain ⟨⟨z2, r2, h3⟩, cs2, h4, hl2⟩ := id hP2
      -- a great cell
      refine ⟨_, rfl, _, rfl, p, _, 0, _, rfl, rfl, SqL.of h3, rfl, c, _, rfl, .inl (SqL.of h4), _, _, rfl, rfl, _, rfl, ?_⟩
      refine ite2 (fun _ => ?a) (fun _ => iteF ?b)
      case' a =>
        refine ⟨_, rfl, _, _, rfl, rfl, ⟨by decide, by decide, by decide⟩, _, _, rfl, rfl, _, rfl, ?_⟩
        refine ite2 (fun _ => ⟨_, rfl, k _ _ hP2 k2⟩) (fun _ => ?_)
      all_goals
        refine ⟨_, rfl, _, _, rfl, rfl, (by show (0 : Int) < 2147483629; decide), _, rfl, _, _, rfl, rfl, .inr ⟨by decide, by decide⟩, .inl ⟨_, _, rfl, rfl, .inl ⟨_, _, rfl, rfl, _, _, rfl, rfl, (by show (0 : Int) < 2147483629; decide), ?_⟩⟩⟩
        have b1 := Int.emod_nonneg (v % 2147483629 + z * 40503 + 17) (show (2147483629 : Int) ≠ 0 by decide)
        have b2 := Int.emod_lt_of_pos (v % 2147483629 + z * 40503 + 17) (show (0 : Int) < 2147483629 by decide)
        generalize (v % 2147483629 + z * 40503 + 17) % 2147483629 = one at b1 b2 ⊢
        refine ⟨_, rfl, _, rfl, _, _, rfl, rfl, .inl ⟨by omega, by omega⟩, _, rfl, _, _, rfl, rfl, .inr ⟨by decide, by decide⟩, .inl ⟨_, _, rfl, rfl, .inl ⟨_, _, rfl, rfl, _, _, rfl, rfl, (by show (0 : Int) < 2147483587; decide), ?_⟩⟩⟩
        have b3 := Int.emod_nonneg (one * one + z * 69069 + 3) (show (2147483587 : Int) ≠ 0 by decide)
        have b4 := Int.emod_lt_of_pos (one * one + z * 69069 + 3) (show (0 : Int) < 2147483587 by decide)
        generalize (one * one + z * 69069 + 3) % 2147483587 = two at b3 b4 ⊢
        refine ⟨_, rfl, _, rfl, _, _, rfl, rfl, .inl ⟨by omega, by omega⟩, _, rfl, _, rfl, .inl ⟨_, _, rfl, rfl, _, _, rfl, rfl, .inl ⟨by omega, by omega⟩, .inl ⟨_, _, rfl, rfl, _, _, rfl, rfl, (by show (0 : Int) < 2147483579; decide), ?_⟩⟩⟩
        generalize (two * two + one * (z + 5)) % 2147483579 = three
        exact ⟨_, rfl, _, _, rfl, rfl, .inr ⟨by decide, by decide⟩, _, rfl, .inl ⟨_, _, rfl, rfl, _, _, rfl, rfl, .inr ⟨by decide, by decide⟩, _, rfl, .inl ⟨_, _, rfl, rfl, k _ _ hP2 k2⟩⟩⟩
theorem ok_draw (D : DefAt K mg "_law_draw" s_law_draw ["_law_pen_here", "_law_below"]) (T : Bl mg) (C_law_fresh : CallOk P w K mg base 1 "_law_fresh" ["_law_pen_here"] spFresh) :
    CallOk P w K mg base 2 "_law_draw" ["_law_pen_here", "_law_below"] spDraw := by
  refine D.ok sc_law_draw (fun vs H Q E h => ?_) (fun f cdv A outer s H vs Q E hr h => ?_)
  · obtain ⟨p, c, b, rfl, _⟩ := h
    rfl
  · obtain ⟨p, c, b, rfl, hP, hb1, hb2, k⟩ := h
    refine ⟨_, (Evl.pss_cut (ps_if (pt_cmpR op_lt (pe_ix ix_list (pv 0) pe_int (fun _ _ => rfl)) (pv 1) (nomark _)) (pss_one (ps_asg (pe_callOk C_law_fresh hr (by omega) (by rfl) (pa_cons (pv 0) pa_nil)) (pg_sub (pv 0) pe_int set_list))) pss_nil)
        (pss_cons (ps_set (i := 2) sc_law_draw.nd rfl (Or.inl rfl) (pe_op op_mod (pe_ix ix_list (pv 0) pe_int (fun _ _ => rfl)) (pv 1)))
        (pss_cons (ps_asg (pe_op op_fdiv (pe_ix ix_list (pv 0) pe_int (fun _ _ => rfl)) (pv 1)) (pg_sub (pv 0) pe_int set_list))
        (pss_one (ps_ret (pv 2)))))), ?_⟩
    obtain ⟨⟨z, r, h1⟩, _⟩ := id hP
    refine ⟨fun σ H2 => σ = [some (.ref p), some (.int b), none] ∧ Pen H2 p c ∧ Kp p H H2, ?_, ?_⟩
    · refine ⟨_, rfl, p, _, 2, _, rfl, rfl, SqL.of h1, rfl, _, rfl, _, _, rfl, rfl, _, rfl, ?_⟩
      refine ite2 (fun _ => ?_) (fun _ => ⟨rfl, hP, Kp.refl⟩)
      refine ⟨_, rfl, p, c, rfl, hP, fun n H2 hP2 k2 => ?_⟩
      obtain ⟨⟨z2, r2, h2⟩, _⟩ := id hP2
      exact ⟨_, rfl, p, _, 2, 2, rfl, rfl, h2, rfl, rfl, hP2.put, k2.put⟩
    · rintro σ H2 ⟨rfl, hP2, k2⟩
      obtain ⟨⟨z2, r2, h2⟩, _⟩ := id hP2
      refine ⟨_, rfl, p, _, 2, _, rfl, rfl, SqL.of h2, rfl, _, rfl, _, _, rfl, rfl, hb1, ?_⟩
      refine ⟨_, rfl, p, _, 2, _, rfl, rfl, SqL.of h2, rfl, _, rfl, _, _, rfl, rfl, ⟨hb1, hb2⟩, _, rfl, p, _, 2, 2, rfl, rfl, h2, rfl, ?_⟩
      exact ⟨_, rfl, k _ _ (Int.emod_nonneg _ (by omega)) (Int.emod_lt_of_pos _ hb1) hP2.put k2.put⟩
theorem ok_name (D : DefAt K mg "_law_name" s_law_name ["_law_pen_here", "_law_gone"]) (T : Bl mg) (C_law_draw : CallOk P w K mg base 2 "_law_draw" ["_law_pen_here", "_law_below"] spDraw) :
    CallOk P w K mg base 3 "_law_name" ["_law_pen_here", "_law_gone"] spName := by
  refine D.ok sc_law_name (fun vs H Q E h => ?_) (fun f cdv A outer s H vs Q E hr h => ?_)
  · obtain ⟨p, c, g, gs, rfl, _⟩ := h
    rfl
  · obtain ⟨p, c, g, gs, rfl, hP, hG, hgp, hgl, k⟩ := h
    refine ⟨_, (pss_cons (ps_set (i := 2) sc_law_name.nd rfl (Or.inl rfl) pe_str)
        (pss_cons (ps_set (i := 3) sc_law_name.nd rfl (Or.inl rfl) pe_str)
        (pss_cons (ps_for PassesOwn.never rfl (pi_range1 (by rfl) T.range_ (pa_cons (pe_op opAdd pe_int (pe_callOk C_law_draw hr (by omega) (by rfl) (pa_cons (pv 0) (pa_cons (pe_ix ix_list (pe_lst (pa_cons pe_int (pa_cons pe_int (pa_cons pe_int pa_nil)))) (pe_callOk C_law_draw hr (by omega) (by rfl) (pa_cons (pv 0) (pa_cons pe_int pa_nil))) (fun _ _ => rfl)) pa_nil)))) pa_nil)) (pg_name (i := 4) sc_law_name.nd rfl (Or.inl rfl) (by first | exact .inl rfl | exact .inr rfl)) (pss_one (ps_set (i := 3) sc_law_name.nd rfl (Or.inl rfl) (pe_op opAdd (pv 3) (pe_ix ix_str (pv 2) (pe_callOk C_law_draw hr (by omega) (by rfl) (pa_cons (pv 0) (pa_cons pe_int pa_nil))) (fun _ _ => rfl))))))
        (pss_cons (ps_set (i := 5) sc_law_name.nd rfl (Or.inl rfl) (pe_slice sl_str (pv 3) po_none (po_some pe_int)))
        (pss_cons (ps_for PassesOwn.never rfl (pi_range1 (by rfl) T.range_ (pa_cons (pe_op opAdd (pe_callB call_len_seq (by rfl) T.len_ (by decide +kernel) (pa_cons (pv 1) pa_nil)) pe_int) pa_nil)) (pg_name (i := 6) sc_law_name.nd rfl (Or.inl rfl) (by first | exact .inl rfl | exact .inr rfl)) (pss_one (ps_if (pt_cmpR op_in_seq (pv 3) (pv 1) (by rfl)) (pss_one (ps_set (i := 3) sc_law_name.nd rfl (Or.inl rfl) (pe_op opAdd (pe_op opAdd (pv 5) (pe_ix ix_str (pv 2) (pe_op op_mod (pe_op op_fdiv (pv 6) pe_int) pe_int) (fun _ _ => rfl))) (pe_ix ix_str (pv 2) (pe_op op_mod (pv 6) pe_int) (fun _ _ => rfl))))) pss_nil)))
        (pss_one (ps_ret (pv 3)))))))), ?_⟩
    refine ⟨_, rfl, le_line (by show 3 ≤ 16000000; decide), fun q hq => ?_⟩
    have hPq : Pen (upd H q (.lst [.int 1, .int 2, .int 8])) p c := hP.new hq
    have nqp : q ≠ p := hP.neP hq
    refine ⟨_, rfl, p, c, 3, rfl, hPq, by decide, by decide, fun m H1 m0 m1 hP1 k1 => ?_⟩
    have q1 : H1 q = some (.lst [.int 1, .int 2, .int 8]) := k1 _ _ upd_same nqp
    have kq : Kp p H H1 := (Kp.new hq).trans k1
    have hm : ∃ b : Int, atI [V.int 1, .int 2, .int 8] m = some (.int b) ∧ 0 < b ∧ b ≤ 8 := by
      have : m = 0 ∨ m = 1 ∨ m = 2 := by omega
      rcases this with rfl | rfl | rfl
      · exact ⟨1, rfl, by decide, by decide⟩
      · exact ⟨2, rfl, by decide, by decide⟩
      · exact ⟨8, rfl, by decide, by decide⟩
    obtain ⟨b, hb, b0, b8⟩ := hm
    refine ⟨q, _, m, .int b, rfl, rfl, SqL.of q1, hb, p, c, b, rfl, hP1, b0, by omega, fun n H2 n0 n1 hP2 k2 => ?_⟩
    have kp2 : Kp p H H2 := kq.trans k2
    refine .inl ⟨_, _, rfl, rfl, ?_⟩
    refine ⟨1 + n, rfl, by omega, by omega, for_range (lo := 0) (n := (1 + n).toNat) (fun i σ H' => ∃ x v4, σ = [some (.ref p), some (.ref g), some (.str abc), some (.str x), v4, none, none] ∧ Lt x i ∧ Pen H' p c ∧ Kp p H H')
      ⟨_, none, rfl, lt_nil, hP2, kp2⟩ ?_ ?_⟩
    · -- a letter more
      rintro i σ H' hi ⟨x, v4, rfl, hx, hP3, k3⟩
      refine ⟨_, rfl, _, rfl, _, rfl, p, c, 26, rfl, hP3, by decide, by decide, fun l H4 l0 l1 hP4 k4 => ?_⟩
      obtain ⟨ch, hc, c1, c2⟩ := abc_at l0 l1
      refine ⟨abc, l, ch, rfl, rfl, abc_len, hc, .inr (.inl ⟨x, _, rfl, rfl, ?_, ?_⟩)⟩
      · rw [hx.len, (lt_one c1 c2).len]
        exact le_line (by omega)
      · exact ⟨_, _, rfl, hx.app (lt_one c1 c2), hP4, k3.trans k4⟩
    · rintro σ H' ⟨x, v4, rfl, hx, hP3, k3⟩
      have hx8 : (1 + n).toNat ≤ 8 := by omega
      have hx0 : 0 < (1 + n).toNat := by omega
      refine ⟨_, rfl, 6, rfl, x, rfl, ?_, ?_⟩
      · rw [hx.len]
        exact le_line (by omega)
      obtain ⟨m6, h6, hf⟩ := hx.front 6
      generalize cutS x none (some ((6 : Nat) : Int)) = front at hf
      have hG' : SqL K H' g (gs.map V.str) := SqL.of (k3 _ _ hG hgp)
      refine ⟨_, rfl, g, gs.map V.str, rfl, .inl hG', .inl ⟨_, _, rfl, rfl, ?_⟩⟩
      refine ⟨((gs.map V.str).length : Int) + 1, rfl, ?_, ?_, for_range (lo := 0) (n := (((gs.map V.str).length : Int) + 1).toNat) (fun i σ H' => ∃ x v6 m, σ = [some (.ref p), some (.ref g), some (.str abc), some (.str x), v4, some (.str front), v6] ∧ Lt x m ∧ 0 < m ∧ m ≤ 8 ∧ Pen H' p c ∧ Kp p H H')
        ⟨_, none, _, rfl, hx, hx0, hx8, hP3, k3⟩ ?_ ?_⟩
      · omega
      · rw [List.length_map]
        omega
      · rintro i σ H4 hi ⟨y, v6, m, rfl, hy, m0, m8, hP4, k4⟩
        refine ⟨_, rfl, _, rfl, g, gs.map V.str, rfl, .inl (SqL.of (k4 _ _ hG hgp)), rfl, ?_, _, rfl, ?_⟩
        · simp [flatV]
        refine ite2 (fun _ => ?_) (fun _ => ⟨_, _, _, rfl, hy, m0, m8, hP4, k4⟩)
        obtain ⟨ca, ha, a1, a2⟩ := abc_at (n := (0 + (i : Int)) / 26 % 26) (Int.emod_nonneg _ (by decide)) (Int.emod_lt_of_pos _ (by decide))
        obtain ⟨cb, hb, b1, b2⟩ := abc_at (n := (0 + (i : Int)) % 26) (Int.emod_nonneg _ (by decide)) (Int.emod_lt_of_pos _ (by decide))
        refine ⟨_, rfl, _, rfl, _, rfl, _, _, rfl, rfl, ⟨by decide, by decide⟩, _, _, rfl, rfl, (by show (0 : Int) < 26; decide), abc, _, ca, rfl, rfl, abc_len, ha, .inr (.inl ⟨front, _, rfl, rfl, ?_, _, rfl, _, rfl, _, _, rfl, rfl, (by show (0 : Int) < 26; decide), abc, _, cb, rfl, rfl, abc_len, hb, .inr (.inl ⟨_, _, rfl, rfl, ?_, ?_⟩)⟩)⟩
        · rw [hf.len, (lt_one a1 a2).len]
          exact le_line (by omega)
        · rw [(hf.app (lt_one a1 a2)).len, (lt_one b1 b2).len]
          exact le_line (by omega)
        · exact ⟨_, _, _, rfl, (hf.app (lt_one a1 a2)).app (lt_one b1 b2), by omega, by omega, hP4, k4⟩
      · rintro σ H4 ⟨y, v6, m, rfl, hy, m0, m8, hP4, k4⟩
        exact ⟨_, rfl, k y H4 (hy.nm m0 m8) hP4 k4⟩
end

section
variable {P : Program} {w : World} {K : PySem.W.Frag} {mg : Str → Option Value} {base : Heap}
theorem ok_rough_kind (D : DefAt K mg "_law_rough_kind" s_law_rough_kind ["_law_pen_here", "_law_deep"]) (T : Bl mg) (C_law_draw : CallOk P w K mg base 2 "_law_draw" ["_law_pen_here", "_law_below"] spDraw)
    (C_law_name : CallOk P w K mg base 3 "_law_name" ["_law_pen_here", "_law_gone"] spName) : ∀ n : Nat, CallOk P w K mg base (n + 4) "_law_rough_kind" ["_law_pen_here", "_law_deep"] (spRough K n) := by
  have body : ∀ (n : Nat) (sp' : Sp), CallOk P w K mg base (n + 3) "_law_rough_kind" ["_law_pen_here", "_law_deep"] sp' → (∀ m, n = m + 1 → sp' = spRough K m) → CallOk P w K mg base (n + 4) "_law_rough_kind" ["_law_pen_here", "_law_deep"] (spRough K n) := by
    intro n sp' C_law_rough_kind hsp
    refine D.ok sc_law_rough_kind (fun vs H Q E h => ?_) (fun f cdv A outer s H vs Q E hr h => ?_)
    · obtain ⟨p, c, z, rfl, _⟩ := h
      rfl
    · obtain ⟨p, c, z, rfl, hz, hn6, hP, k⟩ := h
      refine ⟨_, (pss_cons (ps_if (PW.pt (pw_or (pt_cmpR op_le (pv 1) pe_int (nomark _)) (pw_or1 (pt_cmpR op_eq (pe_callOk C_law_draw hr (by omega) (by rfl) (pa_cons (pv 0) (pa_cons pe_int pa_nil))) pe_int (nomark _))))) (pss_one (ps_ret (pe_callOk C_law_name hr (by omega) (by rfl) (pa_cons (pv 0) (pa_cons (pe_lst pa_nil) pa_nil))))) pss_nil)
        (pss_cons (ps_set (i := 2) sc_law_rough_kind.nd rfl (Or.inl rfl) (pe_ix ix_list (pe_lst (pa_cons pe_str (pa_cons pe_str pa_nil))) (pe_callOk C_law_draw hr (by omega) (by rfl) (pa_cons (pv 0) (pa_cons pe_int pa_nil))) (fun _ _ => rfl)))
        (pss_one (ps_ret (pe_tup (pa_cons (pv 2) (pa_cons (pe_callOk C_law_rough_kind hr (by omega) (by rfl) (pa_cons (pv 0) (pa_cons (pe_op op_sub (pv 1) pe_int) pa_nil))) (pa_cons (pe_callOk C_law_rough_kind hr (by omega) (by rfl) (pa_cons (pv 0) (pa_cons (pe_op op_sub (pv 1) pe_int) pa_nil))) pa_nil)))))))), ?_⟩
      have named : ∀ H1 : Hp, Pen H1 p c → Kp p H H1 → ∀ q, H1 q = none → spName [.ref p, .ref q] (upd H1 q (.lst [])) Q E0 := fun H1 hP1 k1 q hq =>
        ⟨p, c, q, [], rfl, hP1.new hq, upd_same, hP1.neP hq, by decide, fun x H2 hx hP2 k2 => k (.str x) (.str x) H2 (.str x) ((fit_nm hx).le (bKind_ge n) (Nat.zero_le _)) hP2 ((k1.lay hq).trans k2)⟩
      refine ⟨_, rfl, _, _, rfl, rfl, _, rfl, ?_⟩
      by_cases h0 : z ≤ 0
      · rw [decide_eq_true h0]
        refine iteT (iteT ?_)
        exact ⟨_, rfl, Nat.zero_le _, fun q hq => named H hP Kp.refl q hq⟩
      · obtain ⟨n', rfl⟩ : ∃ n', n = n' + 1 := ⟨n - 1, by omega⟩
        obtain rfl := hsp n' rfl
        rw [decide_eq_false h0]
        refine iteF ?_
        refine ⟨_, rfl, p, c, 2, rfl, hP, by decide, by decide, fun m H1 m0 m1 hP1 k1 => ⟨rfl, _, rfl, ?_⟩⟩
        by_cases e0 : m = 0
        · subst e0
          refine iteT ?_
          exact ⟨_, rfl, Nat.zero_le _, fun q hq => named H1 hP1 k1 q hq⟩
        · rw [decide_eq_false (show ¬ V.int m = V.int 0 from fun e => e0 (by injection e))]
          refine iteF ?_
          refine ⟨le_line (by show 2 ≤ 16000000; decide), fun q hq => ?_⟩
          refine ⟨_, rfl, p, c, 2, rfl, hP1.new hq, by decide, by decide, fun l H2 l0 l1 hP2 k2 => ?_⟩
          obtain ⟨x, hx, fx, _⟩ := sign_at l0 l1
          have kq : Kp p H H2 := (k1.lay hq).trans k2
          refine ⟨q, _, l, .str x, rfl, rfl, SqL.of (k2 _ _ upd_same (hP1.neP hq)), hx, ?_⟩
          refine ⟨_, rfl, _, rfl, _, rfl, _, _, rfl, rfl, p, c, _, rfl, by omega, by omega, hP2, fun va a H3 ha fa hP3 k3 => ?_⟩
          refine ⟨_, rfl, _, rfl, _, _, rfl, rfl, p, c, _, rfl, by omega, by omega, hP3, fun vb b H4 hb fb hP4 k4 => ?_⟩
          refine ⟨le_line (by show 3 ≤ 16000000; decide), fun t ht => ?_⟩
          have k04 : Kp p H H4 := (kq.trans k3).trans k4
          have da : Da K All H4 va a := ha.kp k4 hP3.noTup trivial
          have dt : Da K All (upd H4 t (.tup [.str x, va, vb])) (.ref t) (.tuple [.str x, a, b]) :=
            .tup (SqT.of upd_same) (.cons (.str x) (.cons (da.same (same_new ht)) (.cons (hb.same (same_new ht)) .nil)))
          refine k _ _ _ dt ?_ (hP4.new ht) (k04.lay ht)
          refine (Fit.tup (.cons (fx.le (Nat.le_refl _) (Nat.zero_le _)) (.cons fa (.cons fb (FitAll.nil (n := 0)))))).le ?_ (Nat.le_refl _)
          show _ ≤ 2 * (bKind n' + 2) + 12
          omega
  intro n
  induction n with
  | zero => exact body 0 _ ((D.none sc_law_rough_kind).mono (by decide)) (fun m e => by omega)
  | succ n ih => exact body (n + 1) _ ih (fun m e => by
      obtain rfl : n = m := by omega
      rfl)
end

section
variable {P : Program} {w : World} {K : PySem.W.Frag} {mg : Str → Option Value} {base : Heap}
theorem ok_few (D : DefAt K mg "_law_few" s_law_few ["_law_pen_here"]) (T : Bl mg) (C_law_draw : CallOk P w K mg base 2 "_law_draw" ["_law_pen_here", "_law_below"] spDraw)
    (C_law_name : CallOk P w K mg base 3 "_law_name" ["_law_pen_here", "_law_gone"] spName) : CallOk P w K mg base 4 "_law_few" ["_law_pen_here"] spFew := by
  refine D.ok sc_law_few (fun vs H Q E h => ?_) (fun f cdv A outer s H vs Q E hr h => ?_)
  · obtain ⟨p, c, rfl, _⟩ := h
    rfl
  · obtain ⟨p, c, rfl, hP, k⟩ := h
    refine ⟨_, (pss_one (ps_ret (pe_ix ix_list (pe_lst (pa_cons pe_str (pa_cons pe_str (pa_cons pe_str (pa_cons (pe_callOk C_law_name hr (by omega) (by rfl) (pa_cons (pv 0) (pa_cons (pe_lst pa_nil) pa_nil))) pa_nil))))) (pe_callOk C_law_draw hr (by omega) (by rfl) (pa_cons (pv 0) (pa_cons pe_int pa_nil))) (fun _ _ => rfl)))), ?_⟩
    refine ⟨_, rfl, Nat.zero_le _, fun q hq => ⟨p, c, q, [], rfl, hP.new hq, upd_same, hP.neP hq, by decide, fun y H1 hy hP1 k1 => ?_⟩⟩
    refine ⟨le_line (by show 4 ≤ 16000000; decide), fun l hl => ⟨_, rfl, p, c, 4, rfl, hP1.new hl, by decide, by decide, fun n H2 n0 n1 hP2 k2 => ?_⟩⟩
    obtain ⟨x, hx, nx⟩ := few_at hy n0 n1
    exact ⟨l, _, n, .str x, rfl, rfl, SqL.of (k2 _ _ upd_same (hP1.neP hl)), hx, k x H2 nx hP2 ((((Kp.new hq).trans k1).lay hl).trans k2)⟩
theorem ok_law_row (D : DefAt K mg "_law_row" s_law_row ["_law_pen_here", "_law_often"]) (T : Bl mg) (C_law_few : CallOk P w K mg base 4 "_law_few" ["_law_pen_here"] spFew)
    (C_law_name : CallOk P w K mg base 3 "_law_name" ["_law_pen_here", "_law_gone"] spName) : CallOk P w K mg base 5 "_law_row" ["_law_pen_here", "_law_often"] (spRow K) := by
  refine D.ok sc_law_row (fun vs H Q E h => ?_) (fun f cdv A outer s H vs Q E hr h => ?_)
  · obtain ⟨p, c, z, rfl, _⟩ := h
    rfl
  · obtain ⟨p, c, z, rfl, hz0, hz4, hP, k⟩ := h
    refine ⟨_, (pss_cons (ps_set (i := 2) sc_law_row.nd rfl (Or.inl rfl) (pe_lst pa_nil))
        (pss_cons (ps_for PassesOwn.never rfl (pi_range1 (by rfl) T.range_ (pa_cons (pv 1) pa_nil)) (pg_name (i := 3) sc_law_row.nd rfl (Or.inl rfl) (by first | exact .inl rfl | exact .inr rfl)) (pss_cons (ps_set (i := 4) sc_law_row.nd rfl (Or.inl rfl) (pe_callOk C_law_few hr (by omega) (by rfl) (pa_cons (pv 0) pa_nil)))
        (pss_one (ps_expr (pe_bm PySem.F.plainAttrs_list PySem.F.slot_list_append PySem.F.type_list_append mt_append (pv 2) (pa_cons (pe_ifExp (pt_cmpR op_notIn_seq (pv 4) (pv 2) (by rfl)) (pv 4) (pe_callOk C_law_name hr (by omega) (by rfl) (pa_cons (pv 0) (pa_cons (pv 2) pa_nil)))) pa_nil))))))
        (pss_one (ps_ret (pe_callTy call_tuple_of (by rfl) T.tuple_ (by decide +kernel) (pa_cons (pv 2) pa_nil)))))), ?_⟩
    refine ⟨Nat.zero_le _, fun L hL => ?_⟩
    have nLp : L ≠ p := hP.neP hL
    have nLc : L ≠ c := hP.neC hL
    refine ⟨_, rfl, z, rfl, by omega, by omega, for_range (lo := 0) (n := z.toNat) (fun i σ H' => ∃ xs v3 v4, σ = [some (.ref p), some (.int z), some (.ref L), v3, v4] ∧ H' L = some (.lst (xs.map V.str)) ∧ xs.length = i ∧ (∀ x ∈ xs, Nm x) ∧ Pen H' p c ∧ Kp p H H')
      ⟨[], none, none, rfl, upd_same, rfl, fun _ z => (nomatch z), hP.new hL, Kp.new hL⟩ ?_ ?_⟩
    · rintro i σ H1 hi ⟨xs, v3, v4, rfl, g1, g2, g3, hP1, k1⟩
      refine ⟨_, rfl, p, c, rfl, hP1, fun x H2 hx hP2 k2 => ?_⟩
      have e2 : H2 L = some (.lst (xs.map V.str)) := k2 _ _ g1 nLp
      have last : ∀ (y : Str) (H3 : Hp), Nm y → H3 L = some (.lst (xs.map V.str)) → Pen H3 p c → Kp p H H3 →
          ∃ ys : List Str, (upd H3 L (.lst (xs.map V.str ++ [V.str y]))) L = some (.lst (ys.map V.str)) ∧ ys.length = i + 1 ∧ (∀ x ∈ ys, Nm x) ∧ Pen (upd H3 L (.lst (xs.map V.str ++ [V.str y]))) p c ∧ Kp p H (upd H3 L (.lst (xs.map V.str ++ [V.str y]))) := by
        intro y H3 hy e3 hP3 k3
        refine ⟨xs ++ [y], ?_, ?_, ?_, hP3.keep nLp nLc, k3.mut hL⟩
        · rw [upd_same, List.map_append]
          rfl
        · rw [List.length_append, g2]
          rfl
        · intro x hx
          rcases List.mem_append.mp hx with hx | hx
          · exact g3 x hx
          · rw [List.mem_singleton.mp hx]
            exact hy
      have short : (xs.map V.str).length < sizeLine := by
        rw [List.length_map, g2]
        exact lt_line (by omega)
      have flat : (xs.map V.str).all flatV = true := by simp [flatV]
      refine ⟨_, rfl, .inl ⟨rfl, _, SqL.of e2⟩, _, rfl, _, rfl, L, _, rfl, .inl (SqL.of e2), rfl, flat, _, rfl, ?_⟩
      refine ite2 (fun _ => ?_) (fun _ => ?_)
      · refine ⟨_, rfl, L, _, _, rfl, rfl, e2, short, ?_⟩
        obtain ⟨ys, r1, r2, r3, r4, r5⟩ := last x H2 hx e2 hP2 (k1.trans k2)
        exact ⟨ys, _, _, rfl, r1, r2, r3, r4, r5⟩
      · refine ⟨_, rfl, _, rfl, p, c, L, xs, rfl, hP2, e2, nLp, by omega, fun y H3 hy hP3 k3 => ?_⟩
        have e3 : H3 L = some (.lst (xs.map V.str)) := k3 _ _ e2 nLp
        refine ⟨L, _, _, rfl, rfl, e3, short, ?_⟩
        obtain ⟨ys, r1, r2, r3, r4, r5⟩ := last y H3 hy e3 hP3 ((k1.trans k2).trans k3)
        exact ⟨ys, _, _, rfl, r1, r2, r3, r4, r5⟩
    · rintro σ H1 ⟨xs, v3, v4, rfl, g1, g2, g3, hP1, k1⟩
      refine ⟨_, rfl, L, xs.map V.str, rfl, .inl ⟨SqL.of g1, fun t ht => ?_⟩⟩
      exact k t xs _ (SqT.of upd_same) (by omega) g3 (hP1.new ht) (k1.lay ht)
end

section
variable {P : Program} {w : World} {K : PySem.W.Frag} {mg : Str → Option Value} {base : Heap}
theorem ok_rough (D : DefAt K mg "_law_rough" s_law_rough ["_law_pen_here", "_law_deep"]) (T : Bl mg) (C_law_draw : CallOk P w K mg base 2 "_law_draw" ["_law_pen_here", "_law_below"] spDraw)
    (C_law_few : CallOk P w K mg base 4 "_law_few" ["_law_pen_here"] spFew) (C_law_row : CallOk P w K mg base 5 "_law_row" ["_law_pen_here", "_law_often"] (spRow K))
    (C_law_rough_kind : CallOk P w K mg base 6 "_law_rough_kind" ["_law_pen_here", "_law_deep"] (spRough K 2)) : ∀ n : Nat, CallOk P w K mg base (n + 7) "_law_rough" ["_law_pen_here", "_law_deep"] (spRoughT K n) := by
  have body : ∀ (n : Nat) (sp' : Sp), CallOk P w K mg base (n + 6) "_law_rough" ["_law_pen_here", "_law_deep"] sp' → (∀ m, n = m + 1 → sp' = spRoughT K m) → CallOk P w K mg base (n + 7) "_law_rough" ["_law_pen_here", "_law_deep"] (spRoughT K n) := by
    intro n sp' C_law_rough hsp
    refine D.ok sc_law_rough (fun vs H Q E h => ?_) (fun f cdv A outer s H vs Q E hr h => ?_)
    · obtain ⟨p, c, z, rfl, _⟩ := h
      rfl
    · obtain ⟨p, c, z, rfl, hz, hn6, hP, k⟩ := h
      refine ⟨_, (Evl.pss_cut (ps_set (i := 2) sc_law_rough.nd rfl (Or.inl rfl) (pe_ifExp (pt_cmpR op_gt (pv 1) pe_int (nomark _)) (pe_callOk C_law_draw hr (by omega) (by rfl) (pa_cons (pv 0) (pa_cons pe_int pa_nil))) (pe_callOk C_law_draw hr (by omega) (by rfl) (pa_cons (pv 0) (pa_cons pe_int pa_nil)))))
        (pss_cons (ps_if (pt_cmpR op_eq (pv 2) pe_int (nomark _)) (pss_one (ps_ret (pe_callOk C_law_few hr (by omega) (by rfl) (pa_cons (pv 0) pa_nil)))) pss_nil)
        (pss_cons (ps_if (pt_cmpR op_eq (pv 2) pe_int (nomark _)) (pss_one (ps_ret (pe_tup (pa_cons pe_str (pa_cons (pe_callOk C_law_few hr (by omega) (by rfl) (pa_cons (pv 0) pa_nil)) pa_nil))))) pss_nil)
        (pss_cons (ps_if (pt_cmpR op_eq (pv 2) pe_int (nomark _)) (pss_one (ps_ret (pe_tup (pa_cons pe_str (pa_cons (pe_callOk C_law_few hr (by omega) (by rfl) (pa_cons (pv 0) pa_nil)) (pa_cons (pe_callOk C_law_rough_kind hr (by omega) (by rfl) (pa_cons (pv 0) (pa_cons pe_int pa_nil))) (pa_cons (pe_callOk C_law_rough hr (by omega) (by rfl) (pa_cons (pv 0) (pa_cons (pe_op op_sub (pv 1) pe_int) pa_nil))) pa_nil))))))) pss_nil)
        (pss_cons (ps_if (pt_cmpR op_lt (pv 2) pe_int (nomark _)) (pss_one (ps_ret (pe_tup (pa_cons (pe_ix ix_list (pe_lst (pa_cons pe_str (pa_cons pe_str (pa_cons pe_str pa_nil)))) (pe_op op_sub (pv 2) pe_int) (fun _ _ => rfl)) (pa_cons (pe_callOk C_law_rough hr (by omega) (by rfl) (pa_cons (pv 0) (pa_cons (pe_op op_sub (pv 1) pe_int) pa_nil))) (pa_cons (pe_callOk C_law_rough hr (by omega) (by rfl) (pa_cons (pv 0) (pa_cons (pe_op op_sub (pv 1) pe_int) pa_nil))) pa_nil)))))) pss_nil)
        (pss_cons (ps_if (pt_cmpR op_lt (pv 2) pe_int (nomark _)) (pss_cons (ps_set (i := 3) sc_law_rough.nd rfl (Or.inl rfl) (pe_callOk C_law_rough hr (by omega) (by rfl) (pa_cons (pv 0) (pa_cons (pe_op op_sub (pv 1) pe_int) pa_nil))))
        (pss_one (ps_ret (pe_op opAdd (pe_op opAdd (pe_tup (pa_cons (pe_ix ix_list (pe_lst (pa_cons pe_str (pa_cons pe_str pa_nil))) (pe_op op_sub (pv 2) pe_int) (fun _ _ => rfl)) (pa_cons (pv 3) pa_nil))) (pe_callOk C_law_row hr (by omega) (by rfl) (pa_cons (pv 0) (pa_cons pe_int pa_nil)))) (pe_tup (pa_cons (pe_callOk C_law_rough hr (by omega) (by rfl) (pa_cons (pv 0) (pa_cons (pe_op op_sub (pv 1) pe_int) pa_nil))) pa_nil)))))) pss_nil)
        (pss_cons (ps_if (pt_cmpR op_eq (pv 2) pe_int (nomark _)) (pss_cons (ps_set (i := 4) sc_law_rough.nd rfl (Or.inl rfl) (pe_callOk C_law_draw hr (by omega) (by rfl) (pa_cons (pv 0) (pa_cons pe_int pa_nil))))
        (pss_one (ps_ret (pe_tup (pa_cons pe_str (pa_cons (pe_callOk C_law_few hr (by omega) (by rfl) (pa_cons (pv 0) pa_nil)) (pa_cons (pe_callTy call_tuple_of (by rfl) T.tuple_ (by decide +kernel) (pa_cons (pe_lc (own := [("_law_turn", 5)]) (g := gName 5) (tt := tYes) rfl sc_law_rough.nd (pi_range1 (by rfl) T.range_ (pa_cons (pv 4) pa_nil)) (blkOk_by (N := sl_law_rough) (sc := defScope s_law_rough) (by decide +kernel)) (fun _ _ _ _ _ => pg_name (i := 5) sc_law_rough.nd rfl (Or.inl rfl)) (fun _ _ _ _ _ => pts_nil) (fun _ _ _ _ _ => (pe_callOk C_law_rough hr (by omega) (by rfl) (pa_cons (pv 0) (pa_cons (pe_op op_sub (pv 1) pe_int) pa_nil))))) pa_nil)) pa_nil))))))) pss_nil)
        (pss_cons (ps_set (i := 3) sc_law_rough.nd rfl (Or.inl rfl) (pe_callOk C_law_rough hr (by omega) (by rfl) (pa_cons (pv 0) (pa_cons (pe_op op_sub (pv 1) pe_int) pa_nil))))
        (pss_cons (ps_set (i := 6) sc_law_rough.nd rfl (Or.inl rfl) (pe_lst pa_nil))
        (pss_cons (ps_for PassesOwn.never rfl (pi_range1 (by rfl) T.range_ (pa_cons (pe_op opAdd pe_int (pe_callOk C_law_draw hr (by omega) (by rfl) (pa_cons (pv 0) (pa_cons pe_int pa_nil)))) pa_nil)) (pg_name (i := 5) sc_law_rough.nd rfl (Or.inl rfl) (by first | exact .inl rfl | exact .inr rfl)) (pss_cons (ps_set (i := 7) sc_law_rough.nd rfl (Or.inl rfl) (pe_callOk C_law_row hr (by omega) (by rfl) (pa_cons (pv 0) (pa_cons (pe_callOk C_law_draw hr (by omega) (by rfl) (pa_cons (pv 0) (pa_cons pe_int pa_nil))) pa_nil))))
        (pss_one (ps_expr (pe_bm PySem.F.plainAttrs_list PySem.F.slot_list_append PySem.F.type_list_append mt_append (pv 6) (pa_cons (pe_tup (pa_cons (pe_callOk C_law_few hr (by omega) (by rfl) (pa_cons (pv 0) pa_nil)) (pa_cons (pv 7) (pa_cons (pe_callOk C_law_rough hr (by omega) (by rfl) (pa_cons (pv 0) (pa_cons (pe_op op_sub (pv 1) pe_int) pa_nil))) pa_nil)))) pa_nil))))))
        (pss_one (ps_ret (pe_tup (pa_cons pe_str (pa_cons (pv 3) (pa_cons (pe_callTy call_tuple_of (by rfl) T.tuple_ (by decide +kernel) (pa_cons (pv 6) pa_nil)) pa_nil)))))))))))))))), ?_⟩
      refine ⟨fun σ H1 => ∃ road : Int, σ = [some (.ref p), some (.int z), some (.int road), none, none, none, none, none] ∧ 0 ≤ road ∧ (road < 2 ∨ (0 < z ∧ road < 11)) ∧ Pen H1 p c ∧ Kp p H H1, ?_, ?_⟩
      · refine ⟨_, rfl, _, _, rfl, rfl, _, rfl, ?_⟩
        by_cases hz0 : 0 < z
        · rw [decide_eq_true hz0]
          exact iteT ⟨_, rfl, p, c, 11, rfl, hP, by decide, by decide, fun m H1 m0 m1 hP1 k1 => ⟨m, rfl, m0, .inr ⟨hz0, m1⟩, hP1, k1⟩⟩
        · rw [decide_eq_false hz0]
          exact iteF ⟨_, rfl, p, c, 2, rfl, hP, by decide, by decide, fun m H1 m0 m1 hP1 k1 => ⟨m, rfl, m0, .inl m1, hP1, k1⟩⟩
      rintro σ H1 ⟨road, rfl, r0, r11, hP1, k1⟩
      have bge := bT_ge n
      refine ⟨_, rfl, rfl, _, rfl, ?_⟩
      refine ite2 (fun _ => ?_) (fun e0 => ?_)
      · exact ⟨_, rfl, p, c, rfl, hP1, fun x H2 hx hP2 k2 => k (.str x) (.str x) H2 (.str x) ((fit_nm hx).le (by omega) (by omega)) (.name n x) hP2 (k1.trans k2)⟩
      refine ⟨_, rfl, rfl, _, rfl, ?_⟩
      refine ite2 (fun _ => ?_) (fun e1 => ?_)
      · refine ⟨_, rfl, p, c, rfl, hP1, fun x H2 hx hP2 k2 => ⟨le_line (by show 2 ≤ 16000000; decide), fun t ht => ?_⟩⟩
        refine k _ (.tuple [.str (Str.ofString "@"), .str x]) _ (.tup (SqT.of upd_same) (.cons (.str _) (.cons (.str x) .nil))) ?_ (.at n x) (hP2.new ht) ((k1.trans k2).lay ht)
        exact (Fit.tup (.cons (fit_sign (by decide +kernel)) (.cons (fit_nm hx) (FitAll.nil (n := 0))))).le (by omega) (by omega)
      have h0 : ¬ road = 0 := fun e => e0 (by rw [e]; rfl)
      have h1 : ¬ road = 1 := fun e => e1 (by rw [e]; rfl)
      obtain ⟨hz0, hr11⟩ : 0 < z ∧ road < 11 := r11.resolve_left (by omega)
      obtain ⟨n', rfl⟩ : ∃ n', n = n' + 1 := ⟨n - 1, by omega⟩
      obtain rfl := hsp n' rfl
      have hb : bT (n' + 1) = 4 * bT n' + 1700 := rfl
      have up : ∀ {Ha Hb : Hp} {v : V} {d : PyData}, Da K All Ha v d → Kp p Ha Hb → Pen Ha p c → Da K All Hb v d := fun g kk hp => g.kp kk hp.noTup trivial
      refine ⟨_, rfl, rfl, _, rfl, ?_⟩
      refine ite2 (fun _ => ?_) (fun e2 => ?_)
      · -- a function
        refine ⟨_, rfl, p, c, rfl, hP1, fun x H2 hx hP2 k2 => ?_⟩
        refine ⟨_, rfl, p, c, 2, rfl, rfl, by decide, hP2, fun vk dk H3 hk fk hP3 k3 => ?_⟩
        refine ⟨_, rfl, _, rfl, _, _, rfl, rfl, p, c, _, rfl, by omega, by omega, hP3, fun vt dt H4 ht ft tt hP4 k4 => ?_⟩
        refine ⟨le_line (by show 4 ≤ 16000000; decide), fun t hn => ?_⟩
        have sm := same_new (H := H4) (o := .tup [V.str (Str.ofString "^"), .str x, vk, vt]) hn
        refine k _ (.tuple [.str (Str.ofString "^"), .str x, dk, dt]) _ (.tup (SqT.of upd_same) (.cons (.str _) (.cons (.str x) (.cons ((up hk k4 hP3).same sm) (.cons (ht.same sm) .nil))))) ?_ (.lam x dk tt) (hP4.new hn) ((((k1.trans k2).trans k3).trans k4).lay hn)
        have fk' : Fit 408 2 dk := fk
        exact (Fit.tup (.cons ((fit_sign (by decide +kernel)).le (Nat.le_refl _) (Nat.zero_le _)) (.cons ((fit_nm hx).le (Nat.le_refl _) (Nat.zero_le _)) (.cons (fk'.le (Nat.le_refl _) (by omega)) (.cons ft (FitAll.nil (n := 0))))))).le (by omega) (by omega)
      refine ⟨_, rfl, _, _, rfl, rfl, _, rfl, ?_⟩
      have h2 : ¬ road = 2 := fun e => e2 (by rw [e]; rfl)
      by_cases h6 : road < 6
      · -- two terms
        rw [decide_eq_true h6]
        refine iteT ?_
        refine ⟨le_line (by show 3 ≤ 16000000; decide), fun q hq => ?_⟩
        obtain ⟨sg, hsg, fsg, msg⟩ := tri_at (n := road - 3) (by omega) (by omega)
        refine ⟨_, rfl, _, _, rfl, rfl, q, _, road - 3, .str sg, rfl, rfl, SqL.of upd_same, hsg, ?_⟩
        refine ⟨_, rfl, _, rfl, _, _, rfl, rfl, p, c, _, rfl, by omega, by omega, hP1.new hq, fun va da H2 ha fa ta hP2 k2 => ?_⟩
        refine ⟨_, rfl, _, rfl, _, _, rfl, rfl, p, c, _, rfl, by omega, by omega, hP2, fun vb db H3 hb2 fb tb hP3 k3 => ?_⟩
        refine ⟨le_line (by show 3 ≤ 16000000; decide), fun t hn => ?_⟩
        have sm := same_new (H := H3) (o := .tup [V.str sg, va, vb]) hn
        refine k _ (.tuple [.str sg, da, db]) _ (.tup (SqT.of upd_same) (.cons (.str sg) (.cons ((up ha k3 hP2).same sm) (.cons (hb2.same sm) .nil)))) ?_ (.two sg msg ta tb) (hP3.new hn) ((((k1.lay hq).trans k2).trans k3).lay hn)
        exact (Fit.tup (.cons (fsg.le (Nat.le_refl _) (Nat.zero_le _)) (.cons fa (.cons fb (FitAll.nil (n := 0)))))).le (by omega) (by omega)
      rw [decide_eq_false h6]
      refine iteF ?_
      refine ⟨_, rfl, _, _, rfl, rfl, _, rfl, ?_⟩
      by_cases h8 : road < 8
      · -- a parting, a copy
        rw [decide_eq_true h8]
        refine iteT ?_
        refine ⟨_, rfl, _, rfl, _, _, rfl, rfl, p, c, _, rfl, by omega, by omega, hP1, fun va da H2 ha fa ta hP2 k2 => ?_⟩
        refine ⟨le_line (by show 2 ≤ 16000000; decide), fun q hq => ?_⟩
        obtain ⟨sg, hsg, fsg, msg⟩ := duo_at (n := road - 6) (by omega) (by omega)
        refine ⟨_, rfl, _, _, rfl, rfl, q, _, road - 6, .str sg, rfl, rfl, SqL.of upd_same, hsg, ?_⟩
        refine ⟨_, rfl, le_line (by show 2 ≤ 16000000; decide), fun t1 hn1 => ?_⟩
        have hP3 := (hP2.new (o := .lst duo) hq).new (o := .tup [V.str sg, va]) hn1
        refine ⟨_, rfl, p, c, 2, rfl, by decide, by decide, hP3, fun t2 xs H4 g1 g2 g3 hP4 k4 => ?_⟩
        have hT1 : SqT K H4 t1 [V.str sg, va] := sqT_kp k4 hP3.noTup (SqT.of upd_same)
        match xs, g2 with
        | [x, y], _ =>
          refine .inr (.inr (.inl (cat_any hT1 g1 (le_line (by show 2 + 2 ≤ 16000000; decide)) fun t3 H5 s5 hT5 => ?_)))
          refine ⟨_, rfl, _, rfl, _, _, rfl, rfl, p, c, _, rfl, by omega, by omega, hP4.same s5, fun vb db H6 hb2 fb tb hP6 k6 => ?_⟩
          refine ⟨le_line (by show 1 ≤ 16000000; decide), fun t4 hn4 => ?_⟩
          have s7 := same_new (H := H6) (o := .tup [vb]) hn4
          refine .inr (.inr (.inl (cat_any (sqT_same s7 (sqT_kp k6 (hP4.same s5).noTup hT5)) (SqT.of upd_same) (le_line (by show 4 + 1 ≤ 16000000; decide)) fun t5 H8 s8 hT8 => ?_)))
          have hP7 := hP2.new (o := .lst duo) hq
          have sm : Same H6 H8 := s7.trans s8
          have q1 : Da K All H8 va da := ((((up (((ha.same (same_new hq)).same (same_new hn1))) k4 hP3)).same s5).kp k6 (hP4.same s5).noTup trivial).same sm
          refine k _ (.tuple [.str sg, da, .str x, .str y, db]) H8 (.tup hT8 (.cons (.str sg) (.cons q1 (.cons (.str x) (.cons (.str y) (.cons (hb2.same sm) .nil)))))) ?_ (.five sg x y msg ta tb) (hP6.same sm) ((((((k1.trans k2).lay hq).lay hn1).trans k4).same s5).trans k6 |>.same sm)
          have fx := fit_nm (g3 x (by simp))
          have fy := fit_nm (g3 y (by simp))
          exact (Fit.tup (.cons (fsg.le (Nat.le_refl _) (Nat.zero_le _)) (.cons fa (.cons (fx.le (Nat.le_refl _) (Nat.zero_le _)) (.cons (fy.le (Nat.le_refl _) (Nat.zero_le _)) (.cons fb (FitAll.nil (n := 0)))))))).le (by omega) (by omega)
        | [], e => cases e
        | [_], e => cases e
        | _ :: _ :: _ :: _, e =>
          simp only [List.length_cons] at e
          omega
      rw [decide_eq_false h8]
      refine iteF ?_
      refine ⟨_, rfl, rfl, _, rfl, ?_⟩
      refine ite2 (fun _ => ?_) (fun e8 => ?_)
      · -- a maker
        refine ⟨_, rfl, p, c, 5, rfl, hP1, by decide, by decide, fun many H2 l0 l1 hP2 k2 => ?_⟩
        refine ⟨_, rfl, p, c, rfl, hP2, fun x H3 hx hP3 k3 => ?_⟩
        have k03 : Kp p H H3 := (k1.trans k2).trans k3
        refine ⟨_, rfl, many, rfl, by omega, by omega, fun L hL => ?_⟩
        have nLp : L ≠ p := hP3.neP hL
        have nLc : L ≠ c := hP3.neC hL
        have hL0 : H L = none := k03.none hL nLp
        refine lc_range (lo := 0) (n := many.toNat) (fun i H' => ∃ vs ds, H' L = some (.lst vs) ∧ DaAll K All H' vs ds ∧ ds.length = i ∧ (∀ e ∈ ds, Fit (bT n') (3 * n' + 2) e) ∧ (∀ e ∈ ds, Tm (n' + 1) e) ∧ Pen H' p c ∧ Kp p H H')
          ⟨[], [], upd_same, .nil, rfl, fun _ z => (nomatch z), fun _ z => (nomatch z), hP3.new hL, k03.lay hL⟩ ?_ ?_
        · rintro i H4 hi ⟨vs, ds, g1, g2, g3, g4, g5, g6, g7⟩
          refine ⟨rfl, ?_⟩
          simp only [tYes, if_true]
          refine ⟨_, rfl, _, rfl, _, _, rfl, rfl, p, c, _, rfl, by omega, by omega, g6, fun v d H5 hd hf ht hP5 k5 => ?_⟩
          have e1 : H5 L = some (.lst vs) := k5 _ _ g1 nLp
          have q4 : DaAll K All H5 vs ds := g2.kp k5 g6.noTup trivial
          refine ⟨vs, e1, ?_, vs ++ [v], ds ++ [d], upd_same, ?_, ?_, ?_, ?_, hP5.keep nLp nLc, (g7.trans k5).mut hL0⟩
          · rw [g2.length, g3]
            exact lt_line (by omega)
          · exact (q4.append (.cons hd .nil)).put e1 (fun _ => by simp) (fun _ _ => by simp) trivial
          · rw [List.length_append, g3]
            rfl
          · intro e he
            rcases List.mem_append.mp he with he | he
            · exact g4 e he
            · rw [List.mem_singleton.mp he]
              exact hf
          · intro e he
            rcases List.mem_append.mp he with he | he
            · exact g5 e he
            · rw [List.mem_singleton.mp he]
              exact ht
        · rintro H4 ⟨vs, ds, g1, g2, g3, g4, g5, g6, g7⟩
          have fa : FitAll (4 * (bT n' + 2)) (3 * n' + 2) ds := by
            have r := FitAll.rep (n := bT n') (m := 3 * n' + 2) (d := .none) ⟨by rw [PyData.showable], by rw [Ow.wt]; have := bT_ge n'; omega, by simp only [PyData.depth]; exact Nat.zero_le _⟩ ds.length rfl g4
            exact r.le (Nat.mul_le_mul_right _ (by omega)) (Nat.le_refl _)
          refine ⟨L, vs, rfl, .inl ⟨SqL.of g1, fun t1 hn1 => ?_⟩⟩
          have s1 := same_new (H := H4) (o := .tup vs) hn1
          refine ⟨le_line (by show 3 ≤ 16000000; decide), fun t2 hn2 => ?_⟩
          have s2 := same_new (o := .tup [V.str (Str.ofString "#"), .str x, .ref t1]) hn2
          have dt : Da K All _ (.ref t1) (.tuple ds) := .tup (SqT.of upd_same) (g2.same s1)
          refine k _ (.tuple [.str (Str.ofString "#"), .str x, .tuple ds]) _ (.tup (SqT.of upd_same) (.cons (.str _) (.cons (.str x) (.cons (dt.same s2) .nil)))) ?_ (.mk x ds g5) ((g6.new hn1).new hn2) ((g7.lay hn1).lay hn2)
          exact (Fit.tup (.cons ((fit_sign (by decide +kernel)).le (Nat.le_refl _) (Nat.zero_le _)) (.cons ((fit_nm hx).le (Nat.le_refl _) (Nat.zero_le _)) (.cons (Fit.tup fa) (FitAll.nil (n := 0)))))).le (by omega) (by omega)
      · -- a choice
        refine ⟨_, rfl, _, rfl, _, _, rfl, rfl, p, c, _, rfl, by omega, by omega, hP1, fun va da H2 ha fa ta hP2 k2 => ?_⟩
        have k02 : Kp p H H2 := k1.trans k2
        refine ⟨Nat.zero_le _, fun L hL => ?_⟩
        have nLp : L ≠ p := hP2.neP hL
        have nLc : L ≠ c := hP2.neC hL
        have hL0 : H L = none := k02.none hL nLp
        refine ⟨_, rfl, p, c, 3, rfl, hP2.new hL, by decide, by decide, fun many H3 l0 l1 hP3 k3 => .inl ⟨_, _, rfl, rfl, ?_⟩⟩
        have eL : H3 L = some (.lst []) := k3 _ _ upd_same nLp
        refine ⟨_, rfl, by omega, by omega, for_range (lo := 0) (n := (1 + many).toNat) (fun i σ H' => ∃ (vs : List V) (cs : List (Str × List Str × PyData)) (v5 v7 : Option V), σ = [some (.ref p), some (.int z), some (.int road), some va, none, v5, some (.ref L), v7] ∧ H' L = some (.lst vs) ∧
            DaAll K All H' vs (cs.map fun c => .tuple [.str c.1, .tuple (c.2.1.map strD), c.2.2]) ∧ cs.length = i ∧ FitAll (i * (bT n' + 476)) (3 * n' + 3) (cs.map fun c => .tuple [.str c.1, .tuple (c.2.1.map strD), c.2.2]) ∧ (∀ c ∈ cs, Tm (n' + 1) c.2.2) ∧ Pen H' p c ∧ Kp p H H' ∧ Da K All H' va da)
          ⟨[], [], none, none, rfl, eL, .nil, rfl, .nil, fun _ z => (nomatch z), hP3, (k02.lay hL).trans k3, (ha.same (same_new hL)).kp k3 (hP2.new hL).noTup trivial⟩ ?_ ?_⟩
        · rintro i σ H4 hi ⟨vs, cs, v5, v7, rfl, g1, g2, g3, g4, g5, g6, g7, g8⟩
          refine ⟨_, rfl, _, rfl, p, c, 5, rfl, g6, by decide, by decide, fun m H5 m0 m1 hP5 k5 => ⟨p, c, m, rfl, m0, by omega, hP5, fun t1 xs H6 r1 r2 r3 hP6 k6 => ?_⟩⟩
          refine ⟨_, rfl, .inl ⟨rfl, _, SqL.of (k6 _ _ (k5 _ _ g1 nLp) nLp)⟩, _, rfl, p, c, rfl, hP6, fun x H7 hx hP7 k7 => ?_⟩
          have hT7 : SqT K H7 t1 (xs.map V.str) := sqT_kp k7 hP6.noTup r1
          refine ⟨_, rfl, _, rfl, _, rfl, _, _, rfl, rfl, p, c, _, rfl, by omega, by omega, hP7, fun vu du H8 hu fu tu hP8 k8 => ?_⟩
          refine ⟨le_line (by show 3 ≤ 16000000; decide), fun t2 hn2 => ?_⟩
          have s9 := same_new (H := H8) (o := .tup [V.str x, .ref t1, vu]) hn2
          have kk : Kp p H4 H8 := ((k5.trans k6).trans k7).trans k8
          have e8 : H8 L = some (.lst vs) := kk _ _ g1 nLp
          have n2L : t2 ≠ L := fun e => by
            rw [e, e8] at hn2
            cases hn2
          have e9 : (upd H8 t2 (.tup [V.str x, .ref t1, vu])) L = some (.lst vs) := by
            rw [upd_ne (Ne.symm n2L)]
            exact e8
          have hT8 : SqT K H8 t1 (xs.map V.str) := sqT_kp k8 hP7.noTup hT7
          have dc : Da K All (upd H8 t2 (.tup [V.str x, .ref t1, vu])) (.ref t2) (.tuple [.str x, .tuple (xs.map strD), du]) := .tup (SqT.of upd_same) (.cons (.str x) (.cons (.tup (sqT_same s9 hT8) (da_names xs)) (.cons (hu.same s9) .nil)))
          have q9 : DaAll K All (upd H8 t2 (.tup [V.str x, .ref t1, vu])) (vs ++ [.ref t2]) ((cs ++ [(x, xs, du)]).map fun c => .tuple [.str c.1, .tuple (c.2.1.map strD), c.2.2]) := by
            rw [List.map_append]
            exact ((g2.kp kk g6.noTup trivial).same s9).append (.cons dc .nil)
          refine ⟨L, _, _, rfl, rfl, e9, ?_, vs ++ [.ref t2], cs ++ [(x, xs, du)], _, _, rfl, upd_same, q9.put e9 (fun _ => by simp) (fun _ _ => by simp) trivial, ?_, ?_, ?_, (hP8.new hn2).keep nLp nLc, ((g7.trans kk).lay hn2).mut hL0, (((g8.kp kk g6.noTup trivial).same s9)).put e9 (fun _ => by simp) (fun _ _ => by simp) trivial⟩
          · rw [g2.length, List.length_map, g3]
            exact lt_line (by omega)
          · rw [List.length_append, g3]
            rfl
          · rw [List.map_append]
            have fc : Fit (bT n' + 474) (3 * n' + 3) (.tuple [.str x, .tuple (xs.map strD), du]) := by
              have fn := Fit.tup (fit_names r3)
              have hx4 : xs.length ≤ 4 := by omega
              exact (Fit.tup (.cons ((fit_nm hx).le (Nat.le_refl _) (Nat.zero_le _)) (.cons (fn.le (show 92 * xs.length + 4 ≤ 372 by omega) (by omega)) (.cons fu (FitAll.nil (n := 0)))))).le (by omega) (by omega)
            refine (g4.append (.cons fc (FitAll.nil (n := 0)))).le ?_ (Nat.le_refl _)
            rw [Nat.succ_mul]
            omega
          · intro e he
            rcases List.mem_append.mp he with he | he
            · exact g5 e he
            · rw [List.mem_singleton.mp he]
              exact tu
        · rintro σ H4 ⟨vs, cs, v5, v7, rfl, g1, g2, g3, g4, g5, g6, g7, g8⟩
          refine ⟨_, rfl, _, rfl, L, vs, rfl, .inl ⟨SqL.of g1, fun t1 hn1 => ?_⟩⟩
          have s1 := same_new (H := H4) (o := .tup vs) hn1
          refine ⟨le_line (by show 3 ≤ 16000000; decide), fun t2 hn2 => ?_⟩
          have s2 := same_new (o := .tup [V.str (Str.ofString "?"), va, .ref t1]) hn2
          have dt : Da K All _ (.ref t1) (.tuple _) := .tup (SqT.of upd_same) (g2.same s1)
          refine k _ (.tuple [.str (Str.ofString "?"), da, .tuple _]) _ (.tup (SqT.of upd_same) (.cons (.str _) (.cons ((g8.same s1).same s2) (.cons (dt.same s2) .nil)))) ?_ (.ch cs ta g5) ((g6.new hn1).new hn2) ((g7.lay hn1).lay hn2)
          have hi3 : (1 + many).toNat ≤ 3 := by omega
          have w4 : FitAll (3 * (bT n' + 476)) (3 * n' + 3) _ := g4.le (Nat.mul_le_mul_right _ hi3) (Nat.le_refl _)
          exact (Fit.tup (.cons ((fit_sign (by decide +kernel)).le (Nat.le_refl _) (Nat.zero_le _)) (.cons (fa.le (Nat.le_refl _) (by omega)) (.cons (Fit.tup w4) (FitAll.nil (n := 0)))))).le (by omega) (by omega)
  intro n
  induction n with
  | zero => exact body 0 _ ((D.none sc_law_rough).mono (by decide)) (fun m e => by omega)
  | succ n ih => exact body (n + 1) _ ih (fun m e => by
      obtain rfl : n = m := by omega
      rfl)
end

section
variable {P : Program} {w : World} {K : PySem.W.Frag} {mg : Str → Option Value} {base : Heap}
theorem ok_below (D : DefAt K mg "below" s_below ["term"]) (T : Bl mg) : CallOk P w K mg base 1 "below" ["term"] (spKids K kdA) := by
  refine D.ok sc_below (fun vs H Q E h => ?_) (fun f cdv A outer s H vs Q E hr h => ?_)
  · obtain ⟨v, d, n, w', m, rfl, _⟩ := h
    rfl
  · obtain ⟨v, d, n, w', m, rfl, hd, ht, hf, hw, k⟩ := h
    refine ⟨_, (pss_cons (ps_if (PW.pt (pw_or (pt_val (pe_callB call_isD (by rfl) T.isinstance_ (by decide +kernel) (pa_cons (pv 0) (pa_cons (pe_bltn (v := .ty "str") (by rfl) T.str_ (by decide +kernel) rfl) pa_nil)))) (pw_or1 (pt_cmpR op_eq (pe_ix ix_tup (pv 0) pe_int (fun _ _ => rfl)) pe_str (nomark _))))) (pss_one (ps_ret (pe_lst pa_nil))) pss_nil)
        (pss_cons (ps_if (pt_cmpR op_eq (pe_ix ix_tup (pv 0) pe_int (fun _ _ => rfl)) pe_str (nomark _)) (pss_one (ps_ret (pe_lst (pa_cons (pe_tup (pa_cons (pe_tup (pa_cons (pe_ix ix_tup (pv 0) pe_int (fun _ _ => rfl)) pa_nil)) (pa_cons (pe_ix ix_tup (pv 0) pe_int (fun _ _ => rfl)) pa_nil))) pa_nil)))) pss_nil)
        (pss_cons (ps_if (pt_cmpR op_in_seq (pe_ix ix_tup (pv 0) pe_int (fun _ _ => rfl)) (pe_tup (pa_cons pe_str (pa_cons pe_str pa_nil))) (by rfl)) (pss_one (ps_ret (pe_lst (pa_cons (pe_tup (pa_cons (pe_tup pa_nil) (pa_cons (pe_ix ix_tup (pv 0) pe_int (fun _ _ => rfl)) pa_nil))) (pa_cons (pe_tup (pa_cons (pe_tup (pa_cons (pe_ix ix_tup (pv 0) pe_int (fun _ _ => rfl)) (pa_cons (pe_ix ix_tup (pv 0) pe_int (fun _ _ => rfl)) pa_nil))) (pa_cons (pe_ix ix_tup (pv 0) pe_int (fun _ _ => rfl)) pa_nil))) pa_nil))))) pss_nil)
        (pss_cons (ps_if (pt_cmpR op_eq (pe_ix ix_tup (pv 0) pe_int (fun _ _ => rfl)) pe_str (nomark _)) (pss_one (ps_ret (pe_lc (own := [("inner", 1)]) (g := gName 1) (tt := tYes) rfl sc_below.nd (pi_tup (pe_ix ix_tup (pv 0) pe_int (fun _ _ => rfl))) (blkOk_by (N := sl_below) (sc := defScope s_below) (by decide +kernel)) (fun _ _ _ _ _ => pg_name (i := 1) sc_below.nd rfl (Or.inl rfl)) (fun _ _ _ _ _ => pts_nil) (fun _ _ _ _ _ => (pe_tup (pa_cons (pe_tup pa_nil) (pa_cons (pv 1) pa_nil))))))) pss_nil)
        (pss_cons (ps_if (pt_cmpR op_eq (pe_ix ix_tup (pv 0) pe_int (fun _ _ => rfl)) pe_str (nomark _)) (pss_one (ps_ret (pe_op opAdd (pe_lst (pa_cons (pe_tup (pa_cons (pe_tup pa_nil) (pa_cons (pe_ix ix_tup (pv 0) pe_int (fun _ _ => rfl)) pa_nil))) pa_nil)) (pe_lc (own := [("_", 2), ("names", 3), ("inner", 1)]) (g := (gTup K 3 (gCons (gName 2) (gCons (gName 3) (gCons (gName 1) gNil))))) (tt := tYes) rfl sc_below.nd (pi_tup (pe_ix ix_tup (pv 0) pe_int (fun _ _ => rfl))) (blkOk_by (N := sl_below) (sc := defScope s_below) (by decide +kernel)) (fun _ _ _ _ _ => (pg_tup rfl (pgs_cons (pg_name (i := 2) sc_below.nd rfl (Or.inl rfl) (by first | exact .inl rfl | exact .inr rfl)) (pgs_cons (pg_name (i := 3) sc_below.nd rfl (Or.inl rfl) (by first | exact .inl rfl | exact .inr rfl)) (pgs_cons (pg_name (i := 1) sc_below.nd rfl (Or.inl rfl) (by first | exact .inl rfl | exact .inr rfl)) pgs_nil))))) (fun _ _ _ _ _ => pts_nil) (fun _ _ _ _ _ => (pe_tup (pa_cons (pv 3) (pa_cons (pv 1) pa_nil)))))))) pss_nil)
        (pss_one (ps_ret (pe_lst (pa_cons (pe_tup (pa_cons (pe_tup pa_nil) (pa_cons (pe_ix ix_tup (pv 0) pe_int (fun _ _ => rfl)) pa_nil))) (pa_cons (pe_tup (pa_cons (pe_tup pa_nil) (pa_cons (pe_ix ix_tup (pv 0) pe_int (fun _ _ => rfl)) pa_nil))) pa_nil)))))))))), ?_⟩
    refine ⟨_, rfl, All, v, d, "str", rfl, hd, .inl rfl, _, rfl, ?_⟩
    have hkl : 2 * (kids d).length ≤ w' := kids_len ht hf
    cases ht with
    | name n x =>
      refine iteT (iteT ?_)
      refine ⟨Nat.zero_le _, fun L hL => k L [] _ (same_new hL) hL upd_same .nil⟩
    | «at» n x =>
      refine iteF ?_
      obtain ⟨t, x0, x1, rfl, hT, h0, h1⟩ := hd.tup2
      obtain rfl := h0.strInv
      refine ⟨_, rfl, t, _, 0, _, rfl, rfl, hT, rfl, rfl, _, rfl, ?_⟩
      refine iteST rfl ?_
      refine ⟨Nat.zero_le _, fun L hL => k L [] _ (same_new hL) hL upd_same .nil⟩
    | lam x kk tm =>
      refine iteF ?_
      obtain ⟨t, x0, x1, x2, x3, rfl, hT, h0, h1, h2, h3⟩ := hd.tup4
      obtain rfl := h0.strInv
      obtain rfl := h1.strInv
      refine ⟨_, rfl, t, _, 0, _, rfl, rfl, hT, rfl, rfl, _, rfl, ?_⟩
      refine iteSF (by decide +kernel) ?_
      refine ⟨_, rfl, t, _, 0, _, rfl, rfl, hT, rfl, rfl, _, rfl, ?_⟩
      refine iteST rfl ?_
      refine ⟨_, rfl, t, _, 1, _, rfl, rfl, hT, rfl, le_line (by show 1 ≤ 16000000; decide), fun a ha => ?_⟩
      have s1 : Same _ _ := same_new (o := .tup [V.str x]) ha
      refine ⟨_, rfl, t, _, 3, _, rfl, rfl, sqT_same s1 hT, rfl, le_line (by show 2 ≤ 16000000; decide), fun b hb => ?_⟩
      have s2 : Same _ _ := same_new (o := .tup [V.ref a, x3]) hb
      refine ⟨le_line (by show 1 ≤ 16000000; decide), fun L hL => ?_⟩
      have s3 : Same _ _ := same_new (o := .lst [V.ref b]) hL
      refine k L [.ref b] _ ((s1.trans s2).trans s3) (none_same (s1.trans s2) hL) upd_same (.cons ?_ .nil)
      exact row_a (xs := [x]) (sqT_same s3 (SqT.of upd_same)) (sqT_same (s2.trans s3) (SqT.of upd_same)) (h3.same ((s1.trans s2).trans s3))
    | five sgn x y hs tm um =>
      refine iteF ?_
      obtain ⟨t, x0, x1, x2, x3, x4, rfl, hT, h0, h1, h2, h3, h4⟩ := hd.tup5
      obtain rfl := h0.strInv
      obtain rfl := h2.strInv
      obtain rfl := h3.strInv
      refine ⟨_, rfl, t, _, 0, _, rfl, rfl, hT, rfl, rfl, _, rfl, ?_⟩
      refine iteSF (ne_mem hs (by decide +kernel)) ?_
      refine ⟨_, rfl, t, _, 0, _, rfl, rfl, hT, rfl, rfl, _, rfl, ?_⟩
      refine iteSF (ne_mem hs (by decide +kernel)) ?_
      refine ⟨_, rfl, t, _, 0, _, rfl, rfl, hT, rfl, le_line (by show 2 ≤ 16000000; decide), fun q hq => ⟨q, m2.map V.str, rfl, .inr (SqT.of upd_same), rfl, rfl, _, rfl, ?_⟩⟩
      have sq : Same H (upd H q (.tup (m2.map V.str))) := same_new hq
      have hTq := sqT_same sq hT
      refine iteInT hs ?_
      refine ⟨Nat.zero_le _, fun a ha => ?_⟩
      have s1 := Same.lay (o := .tup []) sq ha
      refine ⟨_, rfl, t, _, 1, _, rfl, rfl, sqT_same s1 hT, rfl, le_line (by show 2 ≤ 16000000; decide), fun b hb => ?_⟩
      have s2 := Same.lay (o := .tup [V.ref a, x1]) s1 hb
      refine ⟨_, rfl, t, _, 2, _, rfl, rfl, sqT_same s2 hT, rfl, _, rfl, t, _, 3, _, rfl, rfl, sqT_same s2 hT, rfl, le_line (by show 2 ≤ 16000000; decide), fun c hc => ?_⟩
      have s3 := Same.lay (o := .tup [V.str x, V.str y]) s2 hc
      refine ⟨_, rfl, t, _, 4, _, rfl, rfl, sqT_same s3 hT, rfl, le_line (by show 2 ≤ 16000000; decide), fun e he => ?_⟩
      have s4 := Same.lay (o := .tup [V.ref c, x4]) s3 he
      refine ⟨le_line (by show 2 ≤ 16000000; decide), fun L hL => ?_⟩
      have s5 := Same.lay (o := .lst [V.ref b, V.ref e]) s4 hL
      have r5 : Same _ _ := same_new (o := .lst [V.ref b, V.ref e]) hL
      have r4 := (same_new (o := .tup [V.ref c, x4]) he).trans r5
      have r3 := (same_new (o := .tup [V.str x, V.str y]) hc).trans r4
      have r2 := (same_new (o := .tup [V.ref a, x1]) hb).trans r3
      rw [kids_five] at k
      refine k L [.ref b, .ref e] _ s5 (none_same s4 hL) upd_same (.cons ?_ (.cons ?_ .nil))
      · exact row_a (xs := []) (sqT_same r3 (SqT.of upd_same)) (sqT_same r2 (SqT.of upd_same)) (h1.same s5)
      · exact row_a (xs := [x, y]) (sqT_same r5 (SqT.of upd_same)) (sqT_same r4 (SqT.of upd_same)) (h4.same s5)
    | mk c ts hts =>
      refine iteF ?_
      obtain ⟨t, x0, x1, x2, rfl, hT, h0, h1, h2⟩ := hd.tup3
      obtain rfl := h0.strInv
      obtain ⟨t2, xs, rfl, hT2, hA⟩ := h2.tupInv
      rw [kids_mk] at k hkl
      rw [List.length_map] at hkl
      have hlx := hA.length
      refine ⟨_, rfl, t, _, 0, _, rfl, rfl, hT, rfl, rfl, _, rfl, ?_⟩
      refine iteSF (by decide +kernel) ?_
      refine ⟨_, rfl, t, _, 0, _, rfl, rfl, hT, rfl, rfl, _, rfl, ?_⟩
      refine iteSF (by decide +kernel) ?_
      refine ⟨_, rfl, t, _, 0, _, rfl, rfl, hT, rfl, le_line (by show 2 ≤ 16000000; decide), fun q hq => ⟨q, m2.map V.str, rfl, .inr (SqT.of upd_same), rfl, rfl, _, rfl, ?_⟩⟩
      have sq : Same H (upd H q (.tup (m2.map V.str))) := same_new hq
      have hTq := sqT_same sq hT
      refine iteInF (by decide +kernel) ?_
      refine ⟨_, rfl, t, _, 0, _, rfl, rfl, hTq, rfl, rfl, _, rfl, ?_⟩
      refine iteST rfl ?_
      refine ⟨_, rfl, t, _, 2, _, rfl, rfl, hTq, rfl, t2, rfl, ⟨_, sqT_same sq hT2⟩, fun L hL => ?_⟩
      have hLn := none_same sq hL
      refine lc_tup (K := K) (xs := xs) (fun i H' => ∃ us, H' L = some (.lst us) ∧ DaAll K All H' us ((ts.take i).map fun t => kdA ([], t)) ∧ Same H H') ⟨[], upd_same, .nil, Same.lay sq hL⟩ (fun i H' _ p => sqT_same p.choose_spec.2.2 hT2) ?_ ?_
      · rintro i x H1 hx ⟨us, e1, g1, s1⟩
        obtain ⟨dx, hdx, hxd⟩ := hA.get hx
        have hi : i < xs.length := (List.getElem?_eq_some_iff.mp hx).1
        refine ⟨rfl, ?_⟩
        simp only [tYes, if_true]
        refine ⟨Nat.zero_le _, fun a ha => ?_⟩
        have s2 : Same _ _ := same_new (o := .tup []) ha
        refine ⟨_, rfl, le_line (by show 2 ≤ 16000000; decide), fun b hb => ?_⟩
        have s3 : Same _ _ := same_new (o := .tup [V.ref a, x]) hb
        have e2 := (s2.trans s3) _ _ e1
        refine ⟨us, e2, ?_, us ++ [.ref b], upd_same, ?_, Same.mut (s1.trans (s2.trans s3)) hLn⟩
        · rw [g1.length, List.length_map, List.length_take]
          exact lt_line (by omega)
        · rw [List.take_add_one, hdx, List.map_append]
          exact acc_da e2 (g1.same (s2.trans s3)) (row_a (xs := []) (SqT.of upd_same) (sqT_same s3 (SqT.of upd_same)) (hxd.same (s1.trans (s2.trans s3))))
      · rintro H1 ⟨us, e1, g1, s1⟩
        rw [List.take_of_length_le (by omega)] at g1
        rw [List.map_map] at k
        exact k L us H1 s1 hLn e1 g1
    | ch cs tm hcs =>
      refine iteF ?_
      obtain ⟨t, x0, x1, x2, rfl, hT, h0, h1, h2⟩ := hd.tup3
      obtain rfl := h0.strInv
      obtain ⟨t2, xs, rfl, hT2, hA⟩ := h2.tupInv
      rw [kids_ch] at k hkl
      rw [List.length_cons, List.length_map] at hkl
      have hlx := hA.length
      rw [List.length_map] at hlx
      refine ⟨_, rfl, t, _, 0, _, rfl, rfl, hT, rfl, rfl, _, rfl, ?_⟩
      refine iteSF (by decide +kernel) ?_
      refine ⟨_, rfl, t, _, 0, _, rfl, rfl, hT, rfl, rfl, _, rfl, ?_⟩
      refine iteSF (by decide +kernel) ?_
      refine ⟨_, rfl, t, _, 0, _, rfl, rfl, hT, rfl, le_line (by show 2 ≤ 16000000; decide), fun q hq => ⟨q, m2.map V.str, rfl, .inr (SqT.of upd_same), rfl, rfl, _, rfl, ?_⟩⟩
      have sq : Same H (upd H q (.tup (m2.map V.str))) := same_new hq
      have hTq := sqT_same sq hT
      refine iteInF (by decide +kernel) ?_
      refine ⟨_, rfl, t, _, 0, _, rfl, rfl, hTq, rfl, rfl, _, rfl, ?_⟩
      refine iteSF (by decide +kernel) ?_
      refine ⟨_, rfl, t, _, 0, _, rfl, rfl, hTq, rfl, rfl, _, rfl, ?_⟩
      refine iteST rfl ?_
      refine ⟨Nat.zero_le _, fun a ha => ?_⟩
      have s1 := Same.lay (o := .tup []) sq ha
      refine ⟨_, rfl, t, _, 1, _, rfl, rfl, sqT_same s1 hT, rfl, le_line (by show 2 ≤ 16000000; decide), fun b hb => ?_⟩
      have s2 := Same.lay (o := .tup [V.ref a, x1]) s1 hb
      have hrow : Da K All _ (.ref b) (kdA ([], _)) := row_a (xs := []) (SqT.of upd_same) (sqT_same (same_new hb) (SqT.of upd_same)) (h1.same s2)
      refine ⟨le_line (by show 1 ≤ 16000000; decide), fun L1 hL1 => ?_⟩
      have s3 := Same.lay (o := .lst [V.ref b]) s2 hL1
      refine ⟨_, rfl, t, _, 2, _, rfl, rfl, sqT_same s3 hT, rfl, t2, rfl, ⟨_, sqT_same s3 hT2⟩, fun L hL => ?_⟩
      have hLn := none_same s3 hL
      have hrow3 := hrow.same (same_new (o := .lst [V.ref b]) hL1)
      refine lc_tup (K := K) (xs := xs) (fun i H' => ∃ us, H' L = some (.lst us) ∧ DaAll K All H' us ((cs.take i).map fun c => kdA c.2) ∧ Same (upd _ L1 (HO.lst [V.ref b])) H') ⟨[], upd_same, .nil, same_new hL⟩ (fun i H' _ p => sqT_same (s3.trans p.choose_spec.2.2) hT2) ?_ ?_
      · rintro i x H1 hx ⟨us, e1, g1, s4⟩
        obtain ⟨dx, hdx, hxd⟩ := hA.get hx
        have hi : i < xs.length := (List.getElem?_eq_some_iff.mp hx).1
        obtain ⟨c, hc, rfl⟩ : ∃ c, cs[i]? = some c ∧ PyData.tuple [.str c.1, .tuple (c.2.1.map strD), c.2.2] = dx := by
          rw [List.getElem?_map] at hdx
          obtain ⟨c, hc, e⟩ := Option.map_eq_some_iff.mp hdx
          exact ⟨c, hc, e⟩
        have hxd := hxd.same (s3.trans s4)
        obtain ⟨tc, y0, y1, y2, rfl, hTc, g0, gn, g2⟩ := hxd.tup3
        obtain ⟨tn, rfl, hTn⟩ := gn.names
        refine ⟨tc, _, rfl, hTc, rfl, y0, _, rfl, V.ref tn, _, rfl, y2, _, rfl, rfl, ?_⟩
        refine ⟨rfl, ?_⟩
        simp only [tYes, if_true]
        refine ⟨_, rfl, _, rfl, le_line (by show 2 ≤ 16000000; decide), fun z hz => ?_⟩
        have s5 : Same _ _ := same_new (o := .tup [V.ref tn, y2]) hz
        have e2 := s5 _ _ e1
        refine ⟨us, e2, ?_, us ++ [.ref z], upd_same, ?_, Same.mut (s4.trans s5) hL⟩
        · rw [g1.length, List.length_map, List.length_take]
          exact lt_line (by omega)
        · rw [List.take_add_one, hc, List.map_append]
          exact acc_da e2 (g1.same s5) (row_a (xs := c.2.1) (SqT.of upd_same) (sqT_same s5 hTn) (g2.same s5))
      · rintro H1 ⟨us, e1, g1, s4⟩
        rw [List.take_of_length_le (by omega)] at g1
        refine .inr (.inr (.inr ⟨L1, L, [.ref b], us, rfl, rfl, s4 _ _ upd_same, e1, ?_, fun F hF => ?_⟩))
        · have := g1.length
          rw [List.length_map] at this
          rw [List.length_cons, List.length_nil]
          exact le_line (by omega)
        · have s6 : Same _ _ := same_new (o := .lst ([V.ref b] ++ us)) hF
          refine k F (.ref b :: us) _ ((s3.trans s4).trans s6) (none_same (s3.trans s4) hF) upd_same ?_
          rw [List.map_cons, List.map_map]
          exact .cons (hrow3.same (s4.trans s6)) (g1.same s6)
    | two sgn hs tm um =>
      refine iteF ?_
      obtain ⟨t, x0, x1, x2, rfl, hT, h0, h1, h2⟩ := hd.tup3
      obtain rfl := h0.strInv
      rw [kids_two _ _ hs] at k
      refine ⟨_, rfl, t, _, 0, _, rfl, rfl, hT, rfl, rfl, _, rfl, ?_⟩
      refine iteSF (ne_mem hs (by decide +kernel)) ?_
      refine ⟨_, rfl, t, _, 0, _, rfl, rfl, hT, rfl, rfl, _, rfl, ?_⟩
      refine iteSF (ne_mem hs (by decide +kernel)) ?_
      refine ⟨_, rfl, t, _, 0, _, rfl, rfl, hT, rfl, le_line (by show 2 ≤ 16000000; decide), fun q hq => ⟨q, m2.map V.str, rfl, .inr (SqT.of upd_same), rfl, rfl, _, rfl, ?_⟩⟩
      have sq : Same H (upd H q (.tup (m2.map V.str))) := same_new hq
      have hTq := sqT_same sq hT
      refine iteInF (fun bad => by have q := ne_mem (z := sgn) hs; revert hs bad; intro hs bad; simp only [List.mem_cons, List.not_mem_nil, or_false] at bad; rcases bad with rfl | rfl <;> exact absurd hs (by decide +kernel)) ?_
      refine ⟨_, rfl, t, _, 0, _, rfl, rfl, hTq, rfl, rfl, _, rfl, ?_⟩
      refine iteSF (ne_mem hs (by decide +kernel)) ?_
      refine ⟨_, rfl, t, _, 0, _, rfl, rfl, hTq, rfl, rfl, _, rfl, ?_⟩
      refine iteSF (ne_mem hs (by decide +kernel)) ?_
      refine ⟨Nat.zero_le _, fun a ha => ?_⟩
      have s1 := Same.lay (o := .tup []) sq ha
      refine ⟨_, rfl, t, _, 1, _, rfl, rfl, sqT_same s1 hT, rfl, le_line (by show 2 ≤ 16000000; decide), fun b hb => ?_⟩
      have s2 := Same.lay (o := .tup [V.ref a, x1]) s1 hb
      refine ⟨Nat.zero_le _, fun c hc => ?_⟩
      have s3 := Same.lay (o := .tup []) s2 hc
      refine ⟨_, rfl, t, _, 2, _, rfl, rfl, sqT_same s3 hT, rfl, le_line (by show 2 ≤ 16000000; decide), fun e he => ?_⟩
      have s4 := Same.lay (o := .tup [V.ref c, x2]) s3 he
      refine ⟨le_line (by show 2 ≤ 16000000; decide), fun L hL => ?_⟩
      have s5 := Same.lay (o := .lst [V.ref b, V.ref e]) s4 hL
      have r5 : Same _ _ := same_new (o := .lst [V.ref b, V.ref e]) hL
      have r4 := (same_new (o := .tup [V.ref c, x2]) he).trans r5
      have r3 := (same_new (o := .tup []) hc).trans r4
      have r2 := (same_new (o := .tup [V.ref a, x1]) hb).trans r3
      refine k L [.ref b, .ref e] _ s5 (none_same s4 hL) upd_same (.cons ?_ (.cons ?_ .nil))
      · exact row_a (xs := []) (sqT_same r3 (SqT.of upd_same)) (sqT_same r2 (SqT.of upd_same)) (h1.same s5)
      · exact row_a (xs := []) (sqT_same r5 (SqT.of upd_same)) (sqT_same r4 (SqT.of upd_same)) (h2.same s5)
end

section
variable {P : Program} {w : World} {K : PySem.W.Frag} {mg : Str → Option Value} {base : Heap}
theorem ok_inner (D : DefAt K mg "_law_inner" s_law_inner ["_law_term"]) (T : Bl mg) : CallOk P w K mg base 1 "_law_inner" ["_law_term"] (spKids K kdB) := by
  refine D.ok sc_law_inner (fun vs H Q E h => ?_) (fun f cdv A outer s H vs Q E hr h => ?_)
  · obtain ⟨v, d, n, w', m, rfl, _⟩ := h
    rfl
  · obtain ⟨v, d, n, w', m, rfl, hd, ht, hf, hw, k⟩ := h
    refine ⟨_, (pss_cons (ps_if (PW.pt (pw_or (pt_val (pe_callB call_isD (by rfl) T.isinstance_ (by decide +kernel) (pa_cons (pv 0) (pa_cons (pe_bltn (v := .ty "str") (by rfl) T.str_ (by decide +kernel) rfl) pa_nil)))) (pw_or1 (pt_cmpR op_eq (pe_ix ix_tup (pv 0) pe_int (fun _ _ => rfl)) pe_str (nomark _))))) (pss_one (ps_ret (pe_lst pa_nil))) pss_nil)
        (pss_cons (ps_if (pt_cmpR op_eq (pe_ix ix_tup (pv 0) pe_int (fun _ _ => rfl)) pe_str (nomark _)) (pss_one (ps_ret (pe_lst (pa_cons (pe_tup (pa_cons (pe_ix ix_tup (pv 0) pe_int (fun _ _ => rfl)) (pa_cons (pe_tup (pa_cons (pe_ix ix_tup (pv 0) pe_int (fun _ _ => rfl)) pa_nil)) pa_nil))) pa_nil)))) pss_nil)
        (pss_cons (ps_if (pt_cmpR op_in_seq (pe_ix ix_tup (pv 0) pe_int (fun _ _ => rfl)) (pe_tup (pa_cons pe_str (pa_cons pe_str pa_nil))) (by rfl)) (pss_one (ps_ret (pe_lst (pa_cons (pe_tup (pa_cons (pe_ix ix_tup (pv 0) pe_int (fun _ _ => rfl)) (pa_cons (pe_tup pa_nil) pa_nil))) (pa_cons (pe_tup (pa_cons (pe_ix ix_tup (pv 0) pe_int (fun _ _ => rfl)) (pa_cons (pe_slice sl_tupA (pv 0) (po_some pe_int) (po_some pe_int)) pa_nil))) pa_nil))))) pss_nil)
        (pss_cons (ps_if (pt_cmpR op_eq (pe_ix ix_tup (pv 0) pe_int (fun _ _ => rfl)) pe_str (nomark _)) (pss_one (ps_ret (pe_lc (own := [("_law_one", 1)]) (g := gName 1) (tt := tYes) rfl sc_law_inner.nd (pi_tup (pe_ix ix_tup (pv 0) pe_int (fun _ _ => rfl))) (blkOk_by (N := sl_law_inner) (sc := defScope s_law_inner) (by decide +kernel)) (fun _ _ _ _ _ => pg_name (i := 1) sc_law_inner.nd rfl (Or.inl rfl)) (fun _ _ _ _ _ => pts_nil) (fun _ _ _ _ _ => (pe_tup (pa_cons (pv 1) (pa_cons (pe_tup pa_nil) pa_nil))))))) pss_nil)
        (pss_cons (ps_if (pt_cmpR op_eq (pe_ix ix_tup (pv 0) pe_int (fun _ _ => rfl)) pe_str (nomark _)) (pss_one (ps_ret (pe_op opAdd (pe_lst (pa_cons (pe_tup (pa_cons (pe_ix ix_tup (pv 0) pe_int (fun _ _ => rfl)) (pa_cons (pe_tup pa_nil) pa_nil))) pa_nil)) (pe_lc (own := [("_law_one", 1)]) (g := gName 1) (tt := tYes) rfl sc_law_inner.nd (pi_tup (pe_ix ix_tup (pv 0) pe_int (fun _ _ => rfl))) (blkOk_by (N := sl_law_inner) (sc := defScope s_law_inner) (by decide +kernel)) (fun _ _ _ _ _ => pg_name (i := 1) sc_law_inner.nd rfl (Or.inl rfl)) (fun _ _ _ _ _ => pts_nil) (fun _ _ _ _ _ => (pe_tup (pa_cons (pe_ix (ix_tupK (K := K) rfl) (pv 1) pe_int (fun _ _ => rfl)) (pa_cons (pe_ix (ix_tupK (K := K) rfl) (pv 1) pe_int (fun _ _ => rfl)) pa_nil)))))))) pss_nil)
        (pss_one (ps_ret (pe_lst (pa_cons (pe_tup (pa_cons (pe_ix ix_tup (pv 0) pe_int (fun _ _ => rfl)) (pa_cons (pe_tup pa_nil) pa_nil))) (pa_cons (pe_tup (pa_cons (pe_ix ix_tup (pv 0) pe_int (fun _ _ => rfl)) (pa_cons (pe_tup pa_nil) pa_nil))) pa_nil)))))))))), ?_⟩
    refine ⟨_, rfl, All, v, d, "str", rfl, hd, .inl rfl, _, rfl, ?_⟩
    have hkl : 2 * (kids d).length ≤ w' := kids_len ht hf
    cases ht with
    | name n x =>
      refine iteT (iteT ?_)
      refine ⟨Nat.zero_le _, fun L hL => k L [] _ (same_new hL) hL upd_same .nil⟩
    | «at» n x =>
      refine iteF ?_
      obtain ⟨t, x0, x1, rfl, hT, h0, h1⟩ := hd.tup2
      obtain rfl := h0.strInv
      refine ⟨_, rfl, t, _, 0, _, rfl, rfl, hT, rfl, rfl, _, rfl, ?_⟩
      refine iteST rfl ?_
      refine ⟨Nat.zero_le _, fun L hL => k L [] _ (same_new hL) hL upd_same .nil⟩
    | lam x kk tm =>
      refine iteF ?_
      obtain ⟨t, x0, x1, x2, x3, rfl, hT, h0, h1, h2, h3⟩ := hd.tup4
      obtain rfl := h0.strInv
      obtain rfl := h1.strInv
      refine ⟨_, rfl, t, _, 0, _, rfl, rfl, hT, rfl, rfl, _, rfl, ?_⟩
      refine iteSF (by decide +kernel) ?_
      refine ⟨_, rfl, t, _, 0, _, rfl, rfl, hT, rfl, rfl, _, rfl, ?_⟩
      refine iteST rfl ?_
      refine ⟨_, rfl, t, _, 3, _, rfl, rfl, hT, rfl, ?_⟩
      refine ⟨_, rfl, t, _, 1, _, rfl, rfl, hT, rfl, le_line (by show 1 ≤ 16000000; decide), fun a ha => ?_⟩
      have s1 : Same _ _ := same_new (o := .tup [V.str x]) ha
      refine ⟨le_line (by show 2 ≤ 16000000; decide), fun b hb => ?_⟩
      have s2 : Same _ _ := same_new (o := .tup [x3, V.ref a]) hb
      refine ⟨le_line (by show 1 ≤ 16000000; decide), fun L hL => ?_⟩
      have s3 : Same _ _ := same_new (o := .lst [V.ref b]) hL
      refine k L [.ref b] _ ((s1.trans s2).trans s3) (none_same (s1.trans s2) hL) upd_same (.cons ?_ .nil)
      exact row_b (xs := [x]) (sqT_same s3 (SqT.of upd_same)) (sqT_same (s2.trans s3) (SqT.of upd_same)) (h3.same ((s1.trans s2).trans s3))
    | five sgn x y hs tm um =>
      refine iteF ?_
      obtain ⟨t, x0, x1, x2, x3, x4, rfl, hT, h0, h1, h2, h3, h4⟩ := hd.tup5
      obtain rfl := h0.strInv
      obtain rfl := h2.strInv
      obtain rfl := h3.strInv
      refine ⟨_, rfl, t, _, 0, _, rfl, rfl, hT, rfl, rfl, _, rfl, ?_⟩
      refine iteSF (ne_mem hs (by decide +kernel)) ?_
      refine ⟨_, rfl, t, _, 0, _, rfl, rfl, hT, rfl, rfl, _, rfl, ?_⟩
      refine iteSF (ne_mem hs (by decide +kernel)) ?_
      refine ⟨_, rfl, t, _, 0, _, rfl, rfl, hT, rfl, le_line (by show 2 ≤ 16000000; decide), fun q hq => ⟨q, m2.map V.str, rfl, .inr (SqT.of upd_same), rfl, rfl, _, rfl, ?_⟩⟩
      have sq : Same H (upd H q (.tup (m2.map V.str))) := same_new hq
      have hTq := sqT_same sq hT
      refine iteInT hs ?_
      refine ⟨_, rfl, t, _, 1, _, rfl, rfl, hTq, rfl, Nat.zero_le _, fun a ha => ?_⟩
      have s1 := Same.lay (o := .tup []) sq ha
      refine ⟨le_line (by show 2 ≤ 16000000; decide), fun b hb => ?_⟩
      have s2 := Same.lay (o := .tup [x1, V.ref a]) s1 hb
      refine ⟨_, rfl, t, _, 4, _, rfl, rfl, sqT_same s2 hT, rfl, ?_⟩
      refine ⟨_, rfl, 2, rfl, 4, rfl, cut_any (sqT_same s2 hT) fun c H3 sc hTc => ?_⟩
      have hTc2 : SqT K H3 c [V.str x, V.str y] := hTc
      have s3 := s2.trans sc
      refine ⟨le_line (by show 2 ≤ 16000000; decide), fun e he => ?_⟩
      have s4 := Same.lay (o := .tup [x4, V.ref c]) s3 he
      refine ⟨le_line (by show 2 ≤ 16000000; decide), fun L hL => ?_⟩
      have s5 := Same.lay (o := .lst [V.ref b, V.ref e]) s4 hL
      have r5 : Same _ _ := same_new (o := .lst [V.ref b, V.ref e]) hL
      have r4 := (same_new (o := .tup [x4, V.ref c]) he).trans r5
      have r3 := sc.trans r4
      have r2 := Same.trans (same_new (o := .tup [x1, V.ref a]) hb) r3
      rw [kids_five] at k
      refine k L [.ref b, .ref e] _ s5 (none_same s4 hL) upd_same (.cons ?_ (.cons ?_ .nil))
      · exact row_b (xs := []) (sqT_same r3 (SqT.of upd_same)) (sqT_same r2 (SqT.of upd_same)) (h1.same s5)
      · exact row_b (xs := [x, y]) (sqT_same r5 (SqT.of upd_same)) (sqT_same r4 hTc2) (h4.same s5)
    | mk c ts hts =>
      refine iteF ?_
      obtain ⟨t, x0, x1, x2, rfl, hT, h0, h1, h2⟩ := hd.tup3
      obtain rfl := h0.strInv
      obtain ⟨t2, xs, rfl, hT2, hA⟩ := h2.tupInv
      rw [kids_mk] at k hkl
      rw [List.length_map] at hkl
      have hlx := hA.length
      refine ⟨_, rfl, t, _, 0, _, rfl, rfl, hT, rfl, rfl, _, rfl, ?_⟩
      refine iteSF (by decide +kernel) ?_
      refine ⟨_, rfl, t, _, 0, _, rfl, rfl, hT, rfl, rfl, _, rfl, ?_⟩
      refine iteSF (by decide +kernel) ?_
      refine ⟨_, rfl, t, _, 0, _, rfl, rfl, hT, rfl, le_line (by show 2 ≤ 16000000; decide), fun q hq => ⟨q, m2.map V.str, rfl, .inr (SqT.of upd_same), rfl, rfl, _, rfl, ?_⟩⟩
      have sq : Same H (upd H q (.tup (m2.map V.str))) := same_new hq
      have hTq := sqT_same sq hT
      refine iteInF (by decide +kernel) ?_
      refine ⟨_, rfl, t, _, 0, _, rfl, rfl, hTq, rfl, rfl, _, rfl, ?_⟩
      refine iteST rfl ?_
      refine ⟨_, rfl, t, _, 2, _, rfl, rfl, hTq, rfl, t2, rfl, ⟨_, sqT_same sq hT2⟩, fun L hL => ?_⟩
      have hLn := none_same sq hL
      refine lc_tup (K := K) (xs := xs) (fun i H' => ∃ us, H' L = some (.lst us) ∧ DaAll K All H' us ((ts.take i).map fun t => kdB ([], t)) ∧ Same H H') ⟨[], upd_same, .nil, Same.lay sq hL⟩ (fun i H' _ p => sqT_same p.choose_spec.2.2 hT2) ?_ ?_
      · rintro i x H1 hx ⟨us, e1, g1, s1⟩
        obtain ⟨dx, hdx, hxd⟩ := hA.get hx
        have hi : i < xs.length := (List.getElem?_eq_some_iff.mp hx).1
        refine ⟨rfl, ?_⟩
        simp only [tYes, if_true]
        refine ⟨_, rfl, Nat.zero_le _, fun a ha => ?_⟩
        have s2 : Same _ _ := same_new (o := .tup []) ha
        refine ⟨le_line (by show 2 ≤ 16000000; decide), fun b hb => ?_⟩
        have s3 : Same _ _ := same_new (o := .tup [x, V.ref a]) hb
        have e2 := (s2.trans s3) _ _ e1
        refine ⟨us, e2, ?_, us ++ [.ref b], upd_same, ?_, Same.mut (s1.trans (s2.trans s3)) hLn⟩
        · rw [g1.length, List.length_map, List.length_take]
          exact lt_line (by omega)
        · rw [List.take_add_one, hdx, List.map_append]
          exact acc_da e2 (g1.same (s2.trans s3)) (row_b (xs := []) (SqT.of upd_same) (sqT_same s3 (SqT.of upd_same)) (hxd.same (s1.trans (s2.trans s3))))
      · rintro H1 ⟨us, e1, g1, s1⟩
        rw [List.take_of_length_le (by omega)] at g1
        rw [List.map_map] at k
        exact k L us H1 s1 hLn e1 g1
    | ch cs tm hcs =>
      refine iteF ?_
      obtain ⟨t, x0, x1, x2, rfl, hT, h0, h1, h2⟩ := hd.tup3
      obtain rfl := h0.strInv
      obtain ⟨t2, xs, rfl, hT2, hA⟩ := h2.tupInv
      rw [kids_ch] at k hkl
      rw [List.length_cons, List.length_map] at hkl
      have hlx := hA.length
      rw [List.length_map] at hlx
      refine ⟨_, rfl, t, _, 0, _, rfl, rfl, hT, rfl, rfl, _, rfl, ?_⟩
      refine iteSF (by decide +kernel) ?_
      refine ⟨_, rfl, t, _, 0, _, rfl, rfl, hT, rfl, rfl, _, rfl, ?_⟩
      refine iteSF (by decide +kernel) ?_
      refine ⟨_, rfl, t, _, 0, _, rfl, rfl, hT, rfl, le_line (by show 2 ≤ 16000000; decide), fun q hq => ⟨q, m2.map V.str, rfl, .inr (SqT.of upd_same), rfl, rfl, _, rfl, ?_⟩⟩
      have sq : Same H (upd H q (.tup (m2.map V.str))) := same_new hq
      have hTq := sqT_same sq hT
      refine iteInF (by decide +kernel) ?_
      refine ⟨_, rfl, t, _, 0, _, rfl, rfl, hTq, rfl, rfl, _, rfl, ?_⟩
      refine iteSF (by decide +kernel) ?_
      refine ⟨_, rfl, t, _, 0, _, rfl, rfl, hTq, rfl, rfl, _, rfl, ?_⟩
      refine iteST rfl ?_
      refine ⟨_, rfl, t, _, 1, _, rfl, rfl, hTq, rfl, Nat.zero_le _, fun a ha => ?_⟩
      have s1 := Same.lay (o := .tup []) sq ha
      refine ⟨le_line (by show 2 ≤ 16000000; decide), fun b hb => ?_⟩
      have s2 := Same.lay (o := .tup [x1, V.ref a]) s1 hb
      have hrow : Da K All _ (.ref b) (kdB ([], _)) := row_b (xs := []) (SqT.of upd_same) (sqT_same (same_new hb) (SqT.of upd_same)) (h1.same s2)
      refine ⟨le_line (by show 1 ≤ 16000000; decide), fun L1 hL1 => ?_⟩
      have s3 := Same.lay (o := .lst [V.ref b]) s2 hL1
      refine ⟨_, rfl, t, _, 2, _, rfl, rfl, sqT_same s3 hT, rfl, t2, rfl, ⟨_, sqT_same s3 hT2⟩, fun L hL => ?_⟩
      have hLn := none_same s3 hL
      have hrow3 := hrow.same (same_new (o := .lst [V.ref b]) hL1)
      refine lc_tup (K := K) (xs := xs) (fun i H' => ∃ us, H' L = some (.lst us) ∧ DaAll K All H' us ((cs.take i).map fun c => kdB c.2) ∧ Same (upd _ L1 (HO.lst [V.ref b])) H') ⟨[], upd_same, .nil, same_new hL⟩ (fun i H' _ p => sqT_same (s3.trans p.choose_spec.2.2) hT2) ?_ ?_
      · rintro i x H1 hx ⟨us, e1, g1, s4⟩
        obtain ⟨dx, hdx, hxd⟩ := hA.get hx
        have hi : i < xs.length := (List.getElem?_eq_some_iff.mp hx).1
        obtain ⟨c, hc, rfl⟩ : ∃ c, cs[i]? = some c ∧ PyData.tuple [.str c.1, .tuple (c.2.1.map strD), c.2.2] = dx := by
          rw [List.getElem?_map] at hdx
          obtain ⟨c, hc, e⟩ := Option.map_eq_some_iff.mp hdx
          exact ⟨c, hc, e⟩
        have hxd := hxd.same (s3.trans s4)
        obtain ⟨tc, y0, y1, y2, rfl, hTc, g0, gn, g2⟩ := hxd.tup3
        obtain ⟨tn, rfl, hTn⟩ := gn.names
        refine ⟨rfl, ?_⟩
        simp only [tYes, if_true]
        refine ⟨_, rfl, tc, _, 2, _, rfl, rfl, hTc, rfl, _, rfl, tc, _, 1, _, rfl, rfl, hTc, rfl, le_line (by show 2 ≤ 16000000; decide), fun z hz => ?_⟩
        have s5 : Same _ _ := same_new (o := .tup [y2, V.ref tn]) hz
        have e2 := s5 _ _ e1
        refine ⟨us, e2, ?_, us ++ [.ref z], upd_same, ?_, Same.mut (s4.trans s5) hL⟩
        · rw [g1.length, List.length_map, List.length_take]
          exact lt_line (by omega)
        · rw [List.take_add_one, hc, List.map_append]
          exact acc_da e2 (g1.same s5) (row_b (xs := c.2.1) (SqT.of upd_same) (sqT_same s5 hTn) (g2.same s5))
      · rintro H1 ⟨us, e1, g1, s4⟩
        rw [List.take_of_length_le (by omega)] at g1
        refine .inr (.inr (.inr ⟨L1, L, [.ref b], us, rfl, rfl, s4 _ _ upd_same, e1, ?_, fun F hF => ?_⟩))
        · have := g1.length
          rw [List.length_map] at this
          rw [List.length_cons, List.length_nil]
          exact le_line (by omega)
        · have s6 : Same _ _ := same_new (o := .lst ([V.ref b] ++ us)) hF
          refine k F (.ref b :: us) _ ((s3.trans s4).trans s6) (none_same (s3.trans s4) hF) upd_same ?_
          rw [List.map_cons, List.map_map]
          exact .cons (hrow3.same (s4.trans s6)) (g1.same s6)
    | two sgn hs tm um =>
      refine iteF ?_
      obtain ⟨t, x0, x1, x2, rfl, hT, h0, h1, h2⟩ := hd.tup3
      obtain rfl := h0.strInv
      rw [kids_two _ _ hs] at k
      refine ⟨_, rfl, t, _, 0, _, rfl, rfl, hT, rfl, rfl, _, rfl, ?_⟩
      refine iteSF (ne_mem hs (by decide +kernel)) ?_
      refine ⟨_, rfl, t, _, 0, _, rfl, rfl, hT, rfl, rfl, _, rfl, ?_⟩
      refine iteSF (ne_mem hs (by decide +kernel)) ?_
      refine ⟨_, rfl, t, _, 0, _, rfl, rfl, hT, rfl, le_line (by show 2 ≤ 16000000; decide), fun q hq => ⟨q, m2.map V.str, rfl, .inr (SqT.of upd_same), rfl, rfl, _, rfl, ?_⟩⟩
      have sq : Same H (upd H q (.tup (m2.map V.str))) := same_new hq
      have hTq := sqT_same sq hT
      refine iteInF (fun bad => by have q := ne_mem (z := sgn) hs; revert hs bad; intro hs bad; simp only [List.mem_cons, List.not_mem_nil, or_false] at bad; rcases bad with rfl | rfl <;> exact absurd hs (by decide +kernel)) ?_
      refine ⟨_, rfl, t, _, 0, _, rfl, rfl, hTq, rfl, rfl, _, rfl, ?_⟩
      refine iteSF (ne_mem hs (by decide +kernel)) ?_
      refine ⟨_, rfl, t, _, 0, _, rfl, rfl, hTq, rfl, rfl, _, rfl, ?_⟩
      refine iteSF (ne_mem hs (by decide +kernel)) ?_
      refine ⟨_, rfl, t, _, 1, _, rfl, rfl, hTq, rfl, Nat.zero_le _, fun a ha => ?_⟩
      have s1 := Same.lay (o := .tup []) sq ha
      refine ⟨le_line (by show 2 ≤ 16000000; decide), fun b hb => ?_⟩
      have s2 := Same.lay (o := .tup [x1, V.ref a]) s1 hb
      refine ⟨_, rfl, t, _, 2, _, rfl, rfl, sqT_same s2 hT, rfl, Nat.zero_le _, fun c hc => ?_⟩
      have s3 := Same.lay (o := .tup []) s2 hc
      refine ⟨le_line (by show 2 ≤ 16000000; decide), fun e he => ?_⟩
      have s4 := Same.lay (o := .tup [x2, V.ref c]) s3 he
      refine ⟨le_line (by show 2 ≤ 16000000; decide), fun L hL => ?_⟩
      have s5 := Same.lay (o := .lst [V.ref b, V.ref e]) s4 hL
      have r5 : Same _ _ := same_new (o := .lst [V.ref b, V.ref e]) hL
      have r4 := (same_new (o := .tup [x2, V.ref c]) he).trans r5
      have r3 := (same_new (o := .tup []) hc).trans r4
      have r2 := (same_new (o := .tup [x1, V.ref a]) hb).trans r3
      refine k L [.ref b, .ref e] _ s5 (none_same s4 hL) upd_same (.cons ?_ (.cons ?_ .nil))
      · exact row_b (xs := []) (sqT_same r3 (SqT.of upd_same)) (sqT_same r2 (SqT.of upd_same)) (h1.same s5)
      · exact row_b (xs := []) (sqT_same r5 (SqT.of upd_same)) (sqT_same r4 (SqT.of upd_same)) (h2.same s5)
end

section
variable {P : Program} {w : World} {K : PySem.W.Frag} {mg : Str → Option Value} {base : Heap}
theorem ok_walk (D : DefAt K mg "_law_walk" s_law_walk ["_law_term", "_law_hidden"]) (T : Bl mg) (C_law_inner : CallOk P w K mg base 1 "_law_inner" ["_law_term"] (spKids K kdB)) :
    ∀ n : Nat, CallOk P w K mg base (n + 1) "_law_walk" ["_law_term", "_law_hidden"] (spWalk K n)
  | 0 => (D.none sc_law_walk).imp fun vs H Q E h => by
    obtain ⟨v, d, h', g, w', m, _, _, ht, _⟩ := h
    cases ht
  | n + 1 => by
    have C_law_walk := ok_walk D T C_law_inner n
    refine D.ok sc_law_walk (fun vs H Q E h => ?_) (fun f cdv A outer s H vs Q E hr h => ?_)
    · obtain ⟨v, d, h', g, w', m, rfl, _⟩ := h
      rfl
    · obtain ⟨v, d, hg, g, w', m, rfl, hd, ht, hf, hw4, eg, hsz, hgs, k⟩ := h
      refine ⟨_, (pss_cons (ps_set (i := 2) sc_law_walk.nd rfl (Or.inl rfl) (pe_lst (pa_cons (pe_tup (pa_cons (pv 0) (pa_cons (pv 1) pa_nil))) pa_nil)))
        (pss_cons (ps_for PassesOwn.never rfl (pi_list (pe_callOk C_law_inner hr (by omega) (by rfl) (pa_cons (pv 0) pa_nil))) (pg_tup rfl (pgs_cons (pg_name (i := 3) sc_law_walk.nd rfl (Or.inl rfl) (by first | exact .inl rfl | exact .inr rfl)) (pgs_cons (pg_name (i := 4) sc_law_walk.nd rfl (Or.inl rfl) (by first | exact .inl rfl | exact .inr rfl)) pgs_nil))) (pss_one (ps_set (i := 2) sc_law_walk.nd rfl (Or.inl rfl) (pe_op opAdd (pv 2) (pe_callOk C_law_walk hr (by omega) (by rfl) (pa_cons (pv 3) (pa_cons (pe_op opAdd (pv 1) (pe_callTy call_list_of (by rfl) T.list_ (by decide +kernel) (pa_cons (pv 4) pa_nil))) pa_nil)))))))
        (pss_one (ps_ret (pv 2))))), ?_⟩
      refine ⟨_, rfl, _, rfl, le_line (by show 2 ≤ 16000000; decide), fun a ha => ⟨le_line (by show 1 ≤ 16000000; decide), fun F hF => ?_⟩⟩
      have s1 : Same H (upd H a (.tup [v, .ref hg])) := same_new ha
      have s2 := Same.trans s1 (same_new (o := .lst [V.ref a]) hF)
      have hmul2 : (n + 1) * (w' + 2) = n * (w' + 2) + (w' + 2) := Nat.succ_mul _ _
      refine ⟨_, rfl, v, d, n + 1, w', m, rfl, hd.same s2, ht, hf, by omega, fun L1 rows H1 s3 hL1 e1 g1 => ?_⟩
      have s13 := s2.trans s3
      have hlr := g1.length
      rw [List.length_map] at hlr
      have tot : ((d, g) :: (kids d).flatMap fun k => walkD n k.2 (g ++ k.1)).length ≤ 16000000 := by
        show (walkD (n + 1) d g).length ≤ _
        have := pre_len ht hf
        rw [← walk_pre (n + 1) d g, List.length_map] at this
        omega
      refine ⟨L1, rfl, ⟨_, SqL.of e1⟩, for_list (xs := rows) (fun i σ H' => ∃ F us v3 v4, σ = [some v, some (.ref hg), some (.ref F), v3, v4] ∧ H' F = some (.lst us) ∧ WkAll K H' us ((d, g) :: ((kids d).take i).flatMap fun k => walkD n k.2 (g ++ k.1)) ∧ Same H1 H' ∧ H F = none)
        ⟨F, [.ref a], none, none, rfl, s3 _ _ upd_same, ?_, Same.refl _, none_same s1 hF⟩ (fun i σ H' _ p => ?_) ?_ ?_⟩
      · refine .cons ⟨a, v, hg, rfl, ?_, hd.same s13, s13 _ _ eg⟩ .nil
        exact sqT_same s3 (sqT_same (same_new hF) (SqT.of upd_same))
      · obtain ⟨F, us, v3, v4, _, _, _, s4, _⟩ := p
        exact SqL.of (s4 _ _ e1)
      · rintro i x σ H2 hx ⟨F, us, v3, v4, rfl, e2, wk, s4, hF0⟩
        obtain ⟨dx, hdx, hxd⟩ := g1.get hx
        rw [List.getElem?_map] at hdx
        obtain ⟨kk, hk, rfl⟩ := Option.map_eq_some_iff.mp hdx
        have hmem := List.mem_of_getElem? hk
        obtain ⟨t, y, z, rfl, hT, hy, hz⟩ := (hxd.same s4).tup2
        obtain ⟨tn, rfl, hTn⟩ := hz.names
        refine ⟨t, _, rfl, hT, rfl, y, _, rfl, .ref tn, _, rfl, rfl, ?_⟩
        have hnm := kids_names ht hf hw4 kk hmem
        have hmul : (n + 1) * w' = n * w' + w' := Nat.succ_mul _ _
        have eg2 : H2 hg = some (.lst (g.map V.str)) := s4 _ _ (s13 _ _ eg)
        refine ⟨_, rfl, _, rfl, _, rfl, _, rfl, tn, _, rfl, .inr hTn, fun l hl => .inr (.inr (.inr ⟨hg, l, _, _, rfl, rfl, same_new hl _ _ eg2, upd_same, ?_, fun G hG => ?_⟩))⟩
        · rw [List.length_map, List.length_map]
          exact le_line (by omega)
        have s5 : Same H2 (upd H2 l (.lst (kk.1.map V.str))) := same_new hl
        have s6 := Same.trans s5 (same_new (o := .lst (g.map V.str ++ kk.1.map V.str)) hG)
        refine ⟨y, kk.2, G, g ++ kk.1, w', m, rfl, hy.same s6, kids_tm ht kk hmem, (kids_fit ht hf).mem (List.mem_map_of_mem hmem), hw4, ?_, by omega, ?_, fun L2 us2 H3 s7 hL2 e3 wk2 => ?_⟩
        · rw [upd_same, List.map_append]
        · rw [List.length_append]
          omega
        have s27 := s6.trans s7
        have part : ((d, g) :: ((kids d).take (i + 1)).flatMap fun k => walkD n k.2 (g ++ k.1)) = ((d, g) :: ((kids d).take i).flatMap fun k => walkD n k.2 (g ++ k.1)) ++ walkD n kk.2 (g ++ kk.1) := by
          rw [List.take_add_one, hk, List.flatMap_append, List.cons_append]
          simp
        have wk3 := (wk.same s27).append wk2
        rw [← part] at wk3
        refine .inr (.inr (.inr ⟨F, L2, _, _, rfl, rfl, s27 _ _ e2, e3, ?_, fun F2 hF2 => ?_⟩))
        · have l3 := wk3.length
          rw [List.length_append] at l3
          rw [l3]
          refine le_line (Nat.le_trans ?_ tot)
          rw [← List.take_append_drop (i + 1) (kids d), List.flatMap_append, List.take_append_drop]
          rw [List.length_cons, List.length_cons, List.length_append]
          omega
        · have s8 := Same.trans s27 (same_new (o := .lst (us ++ us2)) hF2)
          exact ⟨F2, us ++ us2, _, _, rfl, upd_same, wk3.same (same_new hF2), s4.trans s8, none_same (s13.trans (s4.trans s27)) hF2⟩
      · rintro σ H2 ⟨F, us, v3, v4, rfl, e2, wk, s4, hF0⟩
        rw [List.take_of_length_le (by omega)] at wk
        exact ⟨_, rfl, k F us H2 (s13.trans s4) hF0 e2 wk⟩
end

section
variable {P : Program} {w : World} {K : PySem.W.Frag} {mg : Str → Option Value} {base : Heap}
theorem ok_first (D : DefAt K mg "_law_first" s_law_first ["_law_some"]) (T : Bl mg) : CallOk P w K mg base 1 "_law_first" ["_law_some"] spFirst := by
  refine D.ok sc_law_first (fun vs H Q E h => ?_) (fun f cdv A outer s H vs Q E hr h => ?_)
  · obtain ⟨a, xs, rfl, _⟩ := h
    rfl
  · obtain ⟨a, xs, rfl, ha, hl, k⟩ := h
    refine ⟨_, (pss_cons (ps_set (i := 1) sc_law_first.nd rfl (Or.inl rfl) (pe_lst pa_nil))
        (pss_cons (ps_for PassesOwn.never rfl (pi_list (pv 0)) (pg_name (i := 2) sc_law_first.nd rfl (Or.inl rfl) (by first | exact .inl rfl | exact .inr rfl)) (pss_one (ps_if (pt_cmpR op_notIn_seq (pv 2) (pv 1) (by rfl)) (pss_one (ps_expr (pe_bm PySem.F.plainAttrs_list PySem.F.slot_list_append PySem.F.type_list_append mt_append (pv 1) (pa_cons (pv 2) pa_nil)))) pss_nil)))
        (pss_one (ps_ret (pv 1))))), ?_⟩
    refine ⟨Nat.zero_le _, fun L hL => ?_⟩
    refine ⟨_, rfl, a, rfl, ⟨_, SqL.of (same_new hL _ _ ha)⟩, for_list (xs := xs.map V.str) (fun i σ H' => ∃ acc v2, σ = [some (.ref a), some (.ref L), v2] ∧ H' L = some (.lst (acc.map V.str)) ∧ dd acc (xs.drop i) = dd [] xs ∧ acc.length ≤ i ∧ Same H H')
      ⟨[], none, rfl, upd_same, rfl, Nat.zero_le _, same_new hL⟩ (fun i σ H' _ p => ?_) ?_ ?_⟩
    · obtain ⟨acc, v2, _, _, _, _, s1⟩ := p
      exact SqL.of (s1 _ _ ha)
    · rintro i x σ H1 hx ⟨acc, v2, rfl, e1, hdd, hli, s1⟩
      rw [List.getElem?_map] at hx
      obtain ⟨y, hy, rfl⟩ := Option.map_eq_some_iff.mp hx
      obtain ⟨hi, hyi⟩ := List.getElem?_eq_some_iff.mp hy
      rw [List.drop_eq_getElem_cons hi, hyi] at hdd
      refine ⟨_, rfl, _, rfl, L, acc.map V.str, rfl, .inl (SqL.of e1), rfl, flat_strs _, _, rfl, ?_⟩
      rw [if_pos rfl, in_strs]
      by_cases hm : y ∈ acc
      · rw [decide_eq_true hm]
        refine iteF ?_
        refine ⟨acc, _, rfl, e1, ?_, by omega, s1⟩
        rw [← hdd]
        show _ = dd (if y ∈ acc then acc else acc ++ [y]) _
        rw [if_pos hm]
      · rw [decide_eq_false hm]
        refine iteT ?_
        refine ⟨_, rfl, .inl ⟨rfl, _, SqL.of e1⟩, _, rfl, L, _, _, rfl, rfl, e1, ?_, acc ++ [y], _, rfl, ?_, ?_, ?_, Same.mut s1 hL⟩
        · rw [List.length_map]
          exact lt_line (by omega)
        · rw [upd_same, List.map_append]
          rfl
        · rw [← hdd]
          show _ = dd (if y ∈ acc then acc else acc ++ [y]) _
          rw [if_neg hm]
        · rw [List.length_append]
          show acc.length + 1 ≤ _
          omega
    · rintro σ H1 ⟨acc, v2, rfl, e1, hdd, hli, s1⟩
      rw [List.length_map, List.drop_of_length_le (Nat.le_refl _)] at hdd
      refine ⟨_, rfl, k L H1 s1 hL ?_⟩
      rw [← hdd]
      exact e1
end

section
variable {P : Program} {w : World} {K : PySem.W.Frag} {mg : Str → Option Value} {base : Heap}
theorem ok_parts (D : DefAt K mg "parts" s_parts ["term"]) (T : Bl mg) (C_below : CallOk P w K mg base 1 "below" ["term"] (spKids K kdA)) : CallOk P w K mg base 2 "parts" ["term"] (spParts K) := by
  refine D.ok sc_parts (fun vs H Q E h => ?_) (fun f cdv A outer s H vs Q E hr h => ?_)
  · obtain ⟨v, d, n, w', m, rfl, _⟩ := h
    rfl
  · obtain ⟨v, d, n, w', m, rfl, hd, ht, hf, hsz, k⟩ := h
    refine ⟨_, (pss_cons (ps_set (i := 1) sc_parts.nd rfl (Or.inl rfl) (pe_lst pa_nil))
        (pss_cons (ps_set (i := 2) sc_parts.nd rfl (Or.inl rfl) (pe_lst (pa_cons (pv 0) pa_nil)))
        (pss_cons (ps_while PassesOwn.never (pt_truth (pv 2) (by intro _; rfl)) (pss_cons (ps_set (i := 3) sc_parts.nd rfl (Or.inl rfl) (pe_bm0 PySem.F.plainAttrs_list PySem.F.slot_list_pop PySem.F.type_list_pop mt_pop (pv 2)))
        (pss_cons (ps_expr (pe_bm PySem.F.plainAttrs_list PySem.F.slot_list_append PySem.F.type_list_append mt_append (pv 1) (pa_cons (pv 3) pa_nil)))
        (pss_one (ps_expr (pe_bm PySem.F.plainAttrs_list PySem.F.slot_list_extend PySem.F.type_list_extend mt_extend (pv 2) (pa_cons (pe_revL (pe_lc (own := [("_", 4), ("inner", 5)]) (g := (gTup K 2 (gCons (gName 4) (gCons (gName 5) gNil)))) (tt := tYes) rfl sc_parts.nd (pi_list (pe_callOk C_below hr (by omega) (by rfl) (pa_cons (pv 3) pa_nil))) (blkOk_by (N := sl_parts) (sc := defScope s_parts) (by decide +kernel)) (fun _ _ _ _ _ => (pg_tup rfl (pgs_cons (pg_name (i := 4) sc_parts.nd rfl (Or.inl rfl) (by first | exact .inl rfl | exact .inr rfl)) (pgs_cons (pg_name (i := 5) sc_parts.nd rfl (Or.inl rfl) (by first | exact .inl rfl | exact .inr rfl)) pgs_nil)))) (fun _ _ _ _ _ => pts_nil) (fun _ _ _ _ _ => (pv 5)))) pa_nil)))))))
        (pss_one (ps_ret (pv 1)))))), ?_⟩
    have n0 : 1 ≤ n := by
      obtain ⟨_, rfl⟩ := tm_pos ht
      omega
    have hw : w' ≤ 16000000 := by
      have : 1 * (w' + 2) ≤ n * (w' + 2) := Nat.mul_le_mul_right _ n0
      omega
    have tot : (pre n d).length ≤ 8000000 := by
      have := pre_len ht hf
      omega
    refine ⟨Nat.zero_le _, fun L hL => ⟨_, rfl, le_line (by show 1 ≤ 16000000; decide), fun R hR => ?_⟩⟩
    have sL : Same H (upd H L (.lst [])) := same_new hL
    have s0 := Same.trans sL (same_new (o := .lst [v]) hR)
    have hRL : R ≠ L := fun e => by
      rw [e, upd_same] at hR
      cases hR
    have hR0 := none_same sL hR
    refine ⟨fun m' σ H' => ∃ told rows ts ds v3, σ = [some v, some (.ref L), some (.ref R), v3, none, none] ∧ H' L = some (.lst told) ∧ H' R = some (.lst rows) ∧ DaAll K All H' told ts ∧ DaAll K All H' rows ds ∧
      ts ++ ds.reverse.flatMap (pre n) = pre n d ∧ (∀ e ∈ ds, Tm n e ∧ Fit w' m e) ∧ Same H H' ∧ m' = (ds.reverse.flatMap (pre n)).length, ⟨_, [], [v], [], [d], none, rfl, ?_, upd_same, .nil, .cons (hd.same s0) .nil, by simp, ?_, s0, rfl⟩, ?_⟩
    · rw [upd_ne (Ne.symm hRL)]
      exact upd_same
    · intro e he
      rw [List.mem_singleton.mp he]
      exact ⟨ht, hf⟩
    rintro m' σ H1 ⟨told, rows, ts, ds, v3, rfl, eL, eR, gt, gr, hpre, hall, s1, rfl⟩
    refine ⟨_, rfl, !rows.isEmpty, .inl ⟨_, SqL.of eR, rfl⟩, ?_⟩
    rcases List.eq_nil_or_concat ds with rfl | ⟨ds', one, rfl⟩
    · obtain rfl := gr.un0
      refine iteF ?_
      have e : ts = pre n d := by
        rw [← hpre]
        simp
      rw [e] at gt
      exact ⟨_, rfl, k L told H1 s1 hL eL gt⟩
    · rw [List.concat_eq_append] at gr hpre hall ⊢
      obtain ⟨us, y, rfl, gu, gy⟩ := gr.snoc
      rw [show (!(us ++ [y]).isEmpty) = true by simp]
      refine iteT ?_
      obtain ⟨t1, f1⟩ := hall one (by simp)
      have hall' : ∀ e ∈ ds', Tm n e ∧ Fit w' m e := fun e he => hall e (List.mem_append_left _ he)
      have shape : (ds' ++ [one]).reverse.flatMap (pre n) = one :: (((kids one).map (·.2)) ++ ds'.reverse).flatMap (pre n) := by
        rw [List.reverse_append, List.reverse_singleton, List.singleton_append, List.flatMap_cons, pre_step t1, List.cons_append, List.flatMap_append]
      rw [shape] at hpre ⊢
      have ltot : ts.length + (1 + ((((kids one).map (·.2)) ++ ds'.reverse).flatMap (pre n)).length) = (pre n d).length := by
        rw [← hpre, List.length_append, List.length_cons]
        omega
      have hnew : ∀ e ∈ ds' ++ ((kids one).map (·.2)).reverse, Tm n e ∧ Fit w' m e := by
        intro e he
        rcases List.mem_append.mp he with he | he
        · exact hall' e he
        · obtain ⟨kk, hk, rfl⟩ := List.mem_map.mp (List.mem_reverse.mp he)
          exact ⟨kids_tmn t1 kk hk, (kids_fit t1 f1).mem (List.mem_map_of_mem hk)⟩
      have back : (ds' ++ ((kids one).map (·.2)).reverse).reverse = (kids one).map (·.2) ++ ds'.reverse := by
        rw [List.reverse_append, List.reverse_reverse]
      have lnew : (ds' ++ ((kids one).map (·.2)).reverse).length ≤ 8000000 := by
        have := flat_ge (n := n) (ds := (ds' ++ ((kids one).map (·.2)).reverse).reverse) fun e he => (hnew e (List.mem_reverse.mp he)).1
        rw [List.length_reverse, back] at this
        omega
      refine ⟨fun σ' H' => ∃ m'', m'' < _ ∧ ∃ told rows ts ds v3, σ' = [some v, some (.ref L), some (.ref R), v3, none, none] ∧ H' L = some (.lst told) ∧ H' R = some (.lst rows) ∧ DaAll K All H' told ts ∧ DaAll K All H' rows ds ∧
        ts ++ ds.reverse.flatMap (pre n) = pre n d ∧ (∀ e ∈ ds, Tm n e ∧ Fit w' m e) ∧ Same H H' ∧ m'' = (ds.reverse.flatMap (pre n)).length, fun _ _ h => h, ?_⟩
      refine ⟨_, rfl, .inl ⟨rfl, _, SqL.of eR⟩, R, us ++ [y], y, rfl, rfl, eR, by simp, ?_⟩
      rw [List.dropLast_concat]
      have p2 : Ts K H1 (upd H1 R (.lst us)) := Ts.put eR
      have eL2 : (upd H1 R (.lst us)) L = some (.lst told) := by
        rw [upd_ne (Ne.symm hRL)]
        exact eL
      have s2 : Same H (upd H1 R (.lst us)) := Same.mut s1 hR0
      refine ⟨_, rfl, .inl ⟨rfl, _, SqL.of eL2⟩, _, rfl, L, told, y, rfl, rfl, eL2, ?_, ?_⟩
      · rw [gt.length]
        exact lt_line (by omega)
      have p3 : Ts K (upd H1 R (.lst us)) (upd (upd H1 R (.lst us)) L (.lst (told ++ [y]))) := Ts.put eL2
      have eR3 : (upd (upd H1 R (.lst us)) L (.lst (told ++ [y]))) R = some (.lst us) := by
        rw [upd_ne hRL]
        exact upd_same
      have eL3 : (upd (upd H1 R (.lst us)) L (.lst (told ++ [y]))) L = some (.lst (told ++ [y])) := upd_same
      have s3 := Same.mut (o := .lst (told ++ [y])) s2 hL
      have q3 := p2.trans p3
      generalize (upd (upd H1 R (.lst us)) L (.lst (told ++ [y]))) = H3 at eR3 eL3 s3 q3 p3 ⊢
      have gu3 := gu.ts q3
      have gy3 := gy.ts q3
      have gt3 : DaAll K All H3 (told ++ [y]) (ts ++ [one]) := (gt.ts q3).append (.cons gy3 .nil)
      refine ⟨_, rfl, .inl ⟨rfl, _, SqL.of eR3⟩, _, rfl, y, one, n, w', m, rfl, gy3, t1, f1, hw, fun B bs H4 s4 hB eB gb => ?_⟩
      refine ⟨B, rfl, ⟨_, SqL.of eB⟩, fun C hC => ?_⟩
      have hlb := gb.length
      rw [List.length_map] at hlb
      have hkl := kids_len t1 f1
      refine lc_list (K := K) (xs := bs) (fun i H' => ∃ cs, H' C = some (.lst cs) ∧ DaAll K All H' cs (((kids one).take i).map (·.2)) ∧ Same H4 H') ⟨[], upd_same, .nil, same_new hC⟩ (fun i H' _ p => SqL.of (p.choose_spec.2.2 _ _ eB)) ?_ ?_
      · rintro i x H5 hx ⟨cs, e5, g5, s5⟩
        obtain ⟨dx, hdx, hxd⟩ := gb.get hx
        rw [List.getElem?_map] at hdx
        obtain ⟨kk, hk, rfl⟩ := Option.map_eq_some_iff.mp hdx
        have hi : i < bs.length := (List.getElem?_eq_some_iff.mp hx).1
        obtain ⟨t, a, b, rfl, hT, ha, hb⟩ := (hxd.same s5).tup2
        refine ⟨t, _, rfl, hT, rfl, a, _, rfl, b, _, rfl, rfl, rfl, ?_⟩
        simp only [tYes, if_true]
        refine ⟨_, rfl, cs, e5, ?_, cs ++ [b], upd_same, ?_, Same.mut s5 hC⟩
        · rw [g5.length, List.length_map, List.length_take]
          exact lt_line (by omega)
        · rw [List.take_add_one, hk, List.map_append]
          exact acc_da e5 g5 hb
      · rintro H5 ⟨cs, e5, g5, s5⟩
        rw [List.take_of_length_le (by omega)] at g5
        refine ⟨C, cs, rfl, SqL.of e5, fun G hG => ?_⟩
        have s6 : Same H5 (upd H5 G (.lst cs.reverse)) := same_new hG
        have s36 := (s4.trans s5).trans s6
        have eR6 := s36 _ _ eR3
        refine ⟨R, G, us, cs.reverse, rfl, rfl, eR6, upd_same, ?_, ?_⟩
        · rw [gu.length, List.length_reverse, g5.length]
          rw [List.length_append, List.length_reverse] at lnew
          exact le_line (by omega)
        have p7 : Ts K (upd H5 G (.lst cs.reverse)) (upd (upd H5 G (.lst cs.reverse)) R (.lst (us ++ cs.reverse))) := Ts.put eR6
        refine ⟨_, ?_, told ++ [y], us ++ cs.reverse, ts ++ [one], ds' ++ ((kids one).map (·.2)).reverse, _, rfl, ?_, upd_same, ?_, ?_, ?_, hnew, Same.mut (s3.trans s36) hR0, rfl⟩
        · rw [back, List.length_cons]
          omega
        · rw [upd_ne (Ne.symm hRL)]
          exact s36 _ _ eL3
        · exact (gt3.same s36).ts p7
        · exact ((gu3.same s36).append (g5.rev.same s6)).ts p7
        · rw [back, ← hpre, List.append_assoc]
          rfl
end

section
variable {P : Program} {w : World} {K : PySem.W.Frag} {mg : Str → Option Value} {base : Heap}
def OkQ (n w m : Nat) (q : List Str × PyData) : Prop := ∃ j, Tm j q.2 ∧ j ≤ n ∧ Fit w m q.2 ∧ q.1.length + j * w ≤ n * w
theorem OkQ.tm {n w m : Nat} {q : List Str × PyData} (h : OkQ n w m q) : Tm n q.2 := by
  obtain ⟨j, t, l, _⟩ := h
  exact t.up l
theorem OkQ.kid {n w m : Nat} {q k : List Str × PyData} (h : OkQ n w m q) (hw : 4 ≤ w) (hk : k ∈ kids q.2) : OkQ n w m (q.1 ++ k.1, k.2) := by
  obtain ⟨j, t, l, f, b⟩ := h
  obtain ⟨i, rfl⟩ := tm_pos t
  have e := kids_names t f hw k hk
  refine ⟨i, kids_tm t k hk, by omega, (kids_fit t f).mem (List.mem_map_of_mem (f := (·.2)) hk), ?_⟩
  rw [Nat.succ_mul] at b
  rw [List.length_append]
  omega
abbrev fl (n : Nat) (qs : List (List Str × PyData)) : List (PyData × List Str) := qs.flatMap fun q => walkD n q.2 q.1
/-- the loop's word -/
def WU (K : PySem.W.Frag) (H : Hp) (v : V) (L R : Addr) (n w m : Nat) (d : PyData) (m' : Nat) (σ : L2.St) (H' : Hp) : Prop :=
  ∃ (told : List Str) (rows : List V) (qs : List (List Str × PyData)) (v3 v4 : Option V), σ = [some v, some (.ref L), some (.ref R), v3, v4, none, none] ∧ H' L = some (.lst (told.map V.str)) ∧ H' R = some (.lst rows) ∧ DaAll K All H' rows (qs.map kdB) ∧
    dd told (outs (fl n qs.reverse)) = dd [] (outs (walkD n d [])) ∧ (∀ q ∈ qs, OkQ n w m q) ∧ Same H H' ∧ m' = (fl n qs.reverse).length ∧ told.length + m' ≤ 8000000
theorem ok_uses (D : DefAt K mg "uses" s_uses ["term"]) (T : Bl mg) (C_below : CallOk P w K mg base 1 "below" ["term"] (spKids K kdA)) : CallOk P w K mg base 2 "uses" ["term"] (spUses K) := by
  refine D.ok sc_uses (fun vs H Q E h => ?_) (fun f cdv A outer s H vs Q E hr h => ?_)
  · obtain ⟨v, d, n, w', m, rfl, _⟩ := h
    rfl
  · obtain ⟨v, d, n, w', m, rfl, hd, ht, hf, hw4, hsz, k⟩ := h
    refine ⟨_, (pss_cons (ps_set (i := 1) sc_uses.nd rfl (Or.inl rfl) (pe_lst pa_nil))
        (pss_cons (ps_set (i := 2) sc_uses.nd rfl (Or.inl rfl) (pe_lst (pa_cons (pe_tup (pa_cons (pv 0) (pa_cons (pe_tup pa_nil) pa_nil))) pa_nil)))
        (pss_cons (ps_while PassesOwn.never (pt_truth (pv 2) (by intro _; rfl)) (pss_cons (ps_asg (pe_bm0 PySem.F.plainAttrs_list PySem.F.slot_list_pop PySem.F.type_list_pop mt_pop (pv 2)) (pg_tup rfl (pgs_cons (pg_name (i := 3) sc_uses.nd rfl (Or.inl rfl) (by first | exact .inl rfl | exact .inr rfl)) (pgs_cons (pg_name (i := 4) sc_uses.nd rfl (Or.inr rfl) (by first | exact .inl rfl | exact .inr rfl)) pgs_nil))))
        (Evl.pss_cut (ps_if (PW.pt (pw_and (pt_val (pe_callB call_isD (by rfl) T.isinstance_ (by decide +kernel) (pa_cons (pv 3) (pa_cons (pe_bltn (v := .ty "str") (by rfl) T.str_ (by decide +kernel) rfl) pa_nil)))) (pw_and (pt_cmpR op_notIn_seq (pv 3) (pv 4) (by rfl)) (pw_and1 (pt_cmpR op_notIn_seq (pv 3) (pv 1) (by rfl)))))) (pss_one (ps_expr (pe_bm PySem.F.plainAttrs_list PySem.F.slot_list_append PySem.F.type_list_append mt_append (pv 1) (pa_cons (pv 3) pa_nil)))) pss_nil)
        (pss_one (ps_expr (pe_bm PySem.F.plainAttrs_list PySem.F.slot_list_extend PySem.F.type_list_extend mt_extend (pv 2) (pa_cons (pe_revL (pe_lc (own := [("names", 5), ("inner", 6)]) (g := (gTup K 2 (gCons (gName 5) (gCons (gName 6) gNil)))) (tt := tYes) rfl sc_uses.nd (pi_list (pe_callOk C_below hr (by omega) (by rfl) (pa_cons (pv 3) pa_nil))) (blkOk_by (N := sl_uses) (sc := defScope s_uses) (by decide +kernel)) (fun _ _ _ _ _ => (pg_tup rfl (pgs_cons (pg_name (i := 5) sc_uses.nd rfl (Or.inl rfl) (by first | exact .inl rfl | exact .inr rfl)) (pgs_cons (pg_name (i := 6) sc_uses.nd rfl (Or.inl rfl) (by first | exact .inl rfl | exact .inr rfl)) pgs_nil)))) (fun _ _ _ _ _ => pts_nil) (fun _ _ _ _ _ => (pe_tup (pa_cons (pv 6) (pa_cons (pe_op (opAddK (K := K) rfl) (pv 4) (pv 5)) pa_nil)))))) pa_nil)))))))
        (pss_one (ps_ret (pv 1)))))), ?_⟩
    have n0 : 1 ≤ n := by
      obtain ⟨_, rfl⟩ := tm_pos ht
      omega
    have hw : w' ≤ 16000000 := by
      have : 1 * (w' + 2) ≤ n * (w' + 2) := Nat.mul_le_mul_right _ n0
      omega
    have tot : (walkD n d []).length ≤ 8000000 := by
      have := pre_len ht hf
      rw [walk_len]
      omega
    have hnw : n * w' ≤ 16000000 := Nat.le_trans (Nat.mul_le_mul_left _ (by omega)) hsz
    refine ⟨Nat.zero_le _, fun L hL => ⟨_, rfl, Nat.zero_le _, fun a ha => ⟨le_line (by show 2 ≤ 16000000; decide), fun b hb => ⟨le_line (by show 1 ≤ 16000000; decide), fun R hR => ?_⟩⟩⟩⟩
    have sL : Same H (upd H L (.lst [])) := same_new hL
    have sa := Same.trans sL (same_new (o := .tup []) ha)
    have sb := Same.trans sa (same_new (o := .tup [v, V.ref a]) hb)
    have rL : Same (upd H L (.lst [])) _ := (Same.trans (same_new (o := .tup []) ha) (same_new (o := .tup [v, V.ref a]) hb)).trans (same_new (o := .lst [V.ref b]) hR)
    have s0 := Same.trans sb (same_new (o := .lst [V.ref b]) hR)
    have eL0 := rL L (.lst []) upd_same
    have hRL : R ≠ L := fun e => by
      have := Same.trans (same_new (o := .tup []) ha) (same_new (o := .tup [v, V.ref a]) hb) L (.lst []) upd_same
      rw [e, this] at hR
      cases hR
    have hR0 := none_same sb hR
    refine ⟨WU K H v L R n w' m d, ⟨_, [], [.ref b], [([], d)], none, none, rfl, eL0, upd_same, .cons ?_ .nil, ?_, ?_, s0, rfl, ?_⟩, ?_⟩
    · exact row_b (xs := []) (sqT_same (same_new hR) (SqT.of upd_same)) (sqT_same (Same.trans (same_new hb) (same_new hR)) (SqT.of upd_same)) (hd.same s0)
    · show dd [] (outs (walkD n d [] ++ [])) = _
      rw [List.append_nil]
    · intro q hq
      rw [List.mem_singleton.mp hq]
      exact ⟨n, ht, Nat.le_refl _, hf, by show 0 + _ ≤ _; omega⟩
    · show 0 + (walkD n d [] ++ []).length ≤ _
      rw [List.append_nil]
      omega
    rintro m' σ H1 ⟨told, rows, qs, v3, v4, rfl, eL, eR, gr, hdd, hall, s1, rfl, hlen⟩
    refine ⟨_, rfl, !rows.isEmpty, .inl ⟨_, SqL.of eR, rfl⟩, ?_⟩
    rcases List.eq_nil_or_concat qs with rfl | ⟨qs', q, rfl⟩
    · obtain rfl := gr.un0
      refine iteF ?_
      refine ⟨_, rfl, k L H1 s1 hL ?_⟩
      rw [← hdd]
      exact eL
    · rw [List.concat_eq_append] at gr hdd hall hlen ⊢
      rw [List.map_append] at gr
      obtain ⟨us, y, rfl, gu, gy⟩ := DaAll.snoc (d := kdB q) gr
      rw [show (!(us ++ [y]).isEmpty) = true by simp]
      refine iteT ?_
      have hq := hall q (by simp)
      have t1 := hq.tm
      have f1 : Fit w' m q.2 := by
        obtain ⟨_, _, _, f, _⟩ := hq
        exact f
      have hgl : q.1.length + w' ≤ 16000000 := by
        obtain ⟨j, t, _, _, b⟩ := hq
        obtain ⟨i, rfl⟩ := tm_pos t
        rw [Nat.succ_mul] at b
        omega
      have hall' : ∀ e ∈ qs', OkQ n w' m e := fun e he => hall e (List.mem_append_left _ he)
      let ks : List (List Str × PyData) := (kids q.2).map fun k => (q.1 ++ k.1, k.2)
      have shape : fl n (qs' ++ [q]).reverse = (q.2, q.1) :: fl n (ks ++ qs'.reverse) := by
        rw [List.reverse_append, List.reverse_singleton, List.singleton_append]
        show walkD n q.2 q.1 ++ _ = _
        rw [walk_step t1]
        show _ = (q.2, q.1) :: (ks ++ qs'.reverse).flatMap _
        rw [List.flatMap_append, flat_map, List.cons_append]
        rfl
      rw [shape] at hdd hlen ⊢
      rw [List.length_cons] at hlen
      have hnew : ∀ e ∈ qs' ++ ks.reverse, OkQ n w' m e := by
        intro e he
        rcases List.mem_append.mp he with he | he
        · exact hall' e he
        · obtain ⟨kk, hk, rfl⟩ := List.mem_map.mp (List.mem_reverse.mp he)
          exact hq.kid hw4 hk
      have back : (qs' ++ ks.reverse).reverse = ks ++ qs'.reverse := by
        rw [List.reverse_append, List.reverse_reverse]
      have lnew : (qs' ++ ks.reverse).length ≤ 8000000 := by
        have := walk_ge (n := n) (qs := (qs' ++ ks.reverse).reverse) fun e he => (hnew e (List.mem_reverse.mp he)).tm
        rw [List.length_reverse, back] at this
        have e : (fl n (ks ++ qs'.reverse)).length = ((ks ++ qs'.reverse).flatMap fun q => walkD n q.2 q.1).length := rfl
        omega
      refine ⟨fun σ' H' => ∃ m'', m'' < _ ∧ WU K H v L R n w' m d m'' σ' H', fun _ _ h => h, ?_⟩
      refine ⟨_, rfl, .inl ⟨rfl, _, SqL.of eR⟩, R, us ++ [y], y, rfl, rfl, eR, by simp, ?_⟩
      rw [List.dropLast_concat]
      have p2 : Ts K H1 (upd H1 R (.lst us)) := Ts.put eR
      have eL2 : (upd H1 R (.lst us)) L = some (.lst (told.map V.str)) := by
        rw [upd_ne (Ne.symm hRL)]
        exact eL
      have eR2 : (upd H1 R (.lst us)) R = some (.lst us) := upd_same
      have s2 : Same H (upd H1 R (.lst us)) := Same.mut s1 hR0
      have gu2 := gu.ts p2
      obtain ⟨t, a1, b1, rfl, hT, ga, hb1⟩ := (gy.ts p2).tup2
      obtain ⟨tg, rfl, hTg⟩ := hb1.names
      refine ⟨t, _, rfl, hT, rfl, a1, _, rfl, .ref tg, _, rfl, rfl, ?_⟩
      generalize (upd H1 R (.lst us)) = H2 at eL2 eR2 s2 gu2 hT ga hTg ⊢
      refine ⟨fun σ' H' => ∃ told', σ' = [some v, some (.ref L), some (.ref R), some a1, some (.ref tg), none, none] ∧ H' L = some (.lst (told'.map V.str)) ∧ told' = dd told (outs [(q.2, q.1)]) ∧ H' R = some (.lst us) ∧ Ts K H2 H' ∧ Same H H' ∧ told'.length ≤ told.length + 1, ?_, ?_⟩
      · refine ⟨_, rfl, All, a1, q.2, "str", rfl, ga, .inl rfl, _, rfl, ?_⟩
        by_cases hs : tyD q.2 = "str"
        · obtain ⟨x, hx⟩ := ty_str hs
          rw [decide_eq_true hs]
          refine iteT ?_
          rw [hx] at ga
          obtain rfl := ga.strInv
          refine ⟨_, rfl, _, rfl, tg, q.1.map V.str, rfl, .inr hTg, rfl, flat_strs _, _, rfl, ?_⟩
          rw [if_pos rfl, in_strs]
          by_cases h1 : x ∈ q.1
          · rw [decide_eq_true h1]
            refine iteF (iteF ⟨told, rfl, eL2, ?_, eR2, Ts.refl, s2, by omega⟩)
            rw [hx, outs_str, if_pos h1]
            rfl
          · rw [decide_eq_false h1]
            refine iteT ?_
            refine ⟨_, rfl, _, rfl, L, told.map V.str, rfl, .inl (SqL.of eL2), rfl, flat_strs _, _, rfl, ?_⟩
            rw [if_pos rfl, in_strs]
            by_cases h2 : x ∈ told
            · rw [decide_eq_true h2]
              refine iteF ⟨told, rfl, eL2, ?_, eR2, Ts.refl, s2, by omega⟩
              rw [hx, outs_str, if_neg h1, dd_one, if_pos h2]
            · rw [decide_eq_false h2]
              refine iteT ?_
              refine ⟨_, rfl, .inl ⟨rfl, _, SqL.of eL2⟩, _, rfl, L, _, _, rfl, rfl, eL2, ?_, told ++ [x], rfl, ?_, ?_, ?_, Ts.put eL2, Same.mut s2 hL, ?_⟩
              · rw [List.length_map]
                exact lt_line (by omega)
              · rw [upd_same, List.map_append]
                rfl
              · rw [hx, outs_str, if_neg h1, dd_one, if_neg h2]
              · rw [upd_ne hRL]
                exact eR2
              · rw [List.length_append]
                exact Nat.le_refl _
        · rw [decide_eq_false hs]
          refine iteF (iteF ⟨told, rfl, eL2, ?_, eR2, Ts.refl, s2, by omega⟩)
          rw [outs_no hs]
          rfl
      rintro σ H3 ⟨told', rfl, eL3, htold, eR3, p3, s3, hl3⟩
      have gu3 := gu2.ts p3
      have ga3 := ga.ts p3
      have hTg3 := p3 _ _ hTg
      refine ⟨_, rfl, .inl ⟨rfl, _, SqL.of eR3⟩, _, rfl, a1, q.2, n, w', m, rfl, ga3, t1, f1, hw, fun B bs H4 s4 hB eB gb => ?_⟩
      refine ⟨B, rfl, ⟨_, SqL.of eB⟩, fun C hC => ?_⟩
      have hlb := gb.length
      rw [List.length_map] at hlb
      have hkl := kids_len t1 f1
      refine lc_list (K := K) (xs := bs) (fun i H' => ∃ cs, H' C = some (.lst cs) ∧ DaAll K All H' cs (((kids q.2).take i).map fun k => kdB (q.1 ++ k.1, k.2)) ∧ Same H4 H') ⟨[], upd_same, .nil, same_new hC⟩ (fun i H' _ p => SqL.of (p.choose_spec.2.2 _ _ eB)) ?_ ?_
      · rintro i x H5 hx ⟨cs, e5, g5, s5⟩
        obtain ⟨dx, hdx, hxd⟩ := gb.get hx
        rw [List.getElem?_map] at hdx
        obtain ⟨kk, hk, rfl⟩ := Option.map_eq_some_iff.mp hdx
        have hi : i < bs.length := (List.getElem?_eq_some_iff.mp hx).1
        obtain ⟨t', a2, b2, rfl, hT', ha2, hb2⟩ := (hxd.same s5).tup2
        obtain ⟨tn, rfl, hTn⟩ := ha2.names
        have hTg5 := sqT_same (s4.trans s5) hTg3
        refine ⟨t', _, rfl, hT', rfl, .ref tn, _, rfl, b2, _, rfl, rfl, rfl, ?_⟩
        simp only [tYes, if_true]
        have hnm := kids_names t1 f1 hw4 kk (List.mem_of_getElem? hk)
        refine ⟨_, rfl, _, rfl, _, rfl, .inr (.inr (.inl (cat_any hTg5 hTn ?_ fun t3 H6 s6 hT6 => ?_)))⟩
        · rw [List.length_map, List.length_map]
          exact le_line (by omega)
        refine ⟨le_line (by show 2 ≤ 16000000; decide), fun z hz => ?_⟩
        have s7 := Same.trans s6 (same_new (o := .tup [b2, V.ref t3]) hz)
        have e7 := s7 _ _ e5
        rw [← List.map_append] at hT6
        refine ⟨cs, e7, ?_, cs ++ [.ref z], upd_same, ?_, Same.mut (s5.trans s7) hC⟩
        · rw [g5.length, List.length_map, List.length_take]
          exact lt_line (by omega)
        · rw [List.take_add_one, hk, List.map_append]
          exact acc_da e7 (g5.same s7) (row_b (xs := q.1 ++ kk.1) (SqT.of upd_same) (sqT_same (same_new hz) hT6) (hb2.same s7))
      · rintro H5 ⟨cs, e5, g5, s5⟩
        rw [List.take_of_length_le (by omega)] at g5
        have g5 : DaAll K All H5 cs (ks.map kdB) := by
          rw [List.map_map]
          exact g5
        refine ⟨C, cs, rfl, SqL.of e5, fun G hG => ?_⟩
        have s6 : Same H5 (upd H5 G (.lst cs.reverse)) := same_new hG
        have s36 := (s4.trans s5).trans s6
        have eR6 := s36 _ _ eR3
        refine ⟨R, G, us, cs.reverse, rfl, rfl, eR6, upd_same, ?_, ?_⟩
        · rw [gu.length, List.length_reverse, g5.length, List.length_map, List.length_map]
          rw [List.length_append, List.length_reverse] at lnew
          exact le_line (by omega)
        have p7 : Ts K (upd H5 G (.lst cs.reverse)) (upd (upd H5 G (.lst cs.reverse)) R (.lst (us ++ cs.reverse))) := Ts.put eR6
        have gall : DaAll K All (upd (upd H5 G (.lst cs.reverse)) R (.lst (us ++ cs.reverse))) (us ++ cs.reverse) ((qs' ++ ks.reverse).map kdB) := by
          rw [List.map_append, List.map_reverse]
          exact ((gu3.same s36).append (g5.rev.same s6)).ts p7
        refine ⟨_, ?_, told', us ++ cs.reverse, qs' ++ ks.reverse, _, _, rfl, ?_, upd_same, gall, ?_, hnew, Same.mut (s3.trans s36) hR0, rfl, ?_⟩
        · rw [back, List.length_cons]
          omega
        · rw [upd_ne (Ne.symm hRL)]
          exact s36 _ _ eL3
        · rw [back, htold, ← dd_app, ← outs_cons, hdd]
        · rw [back]
          omega
end

section
variable {P : Program} {w : World} {K : PySem.W.Frag} {mg : Str → Option Value} {base : Heap}
theorem ok_law {fL : Addr} {fdL : FuncData} (F : Fun K "law" "law" s_law fL fdL) (T : Bl mg) (C_law_pen : CallOk P w K mg base 1 "_law_pen" ["_law_script"] (spPen K)) (C_law_rough : CallOk P w K mg base 10 "_law_rough" ["_law_pen_here", "_law_deep"] (spRoughT K 3))
    (C_law_walk : CallOk P w K mg base 5 "_law_walk" ["_law_term", "_law_hidden"] (spWalk K 4)) (C_law_first : CallOk P w K mg base 1 "_law_first" ["_law_some"] spFirst) (C_parts : CallOk P w K mg base 2 "parts" ["term"] (spParts K)) (C_uses : CallOk P w K mg base 2 "uses" ["term"] (spUses K)) :
    FnG P w K mg base 11 fL fdL ["_law_script"] (spLaw K) := by
  refine Fun.okG F sc_law (fun vs H Q E h => ?_) (fun cdv A outer s H vs Q E hg hr h => ?_)
  · obtain ⟨a, ns, rfl, _⟩ := h
    rfl
  · obtain ⟨a, ns, rfl, hS, hl, k⟩ := h
    refine ⟨_, (pss_cons (ps_set (i := 1) sc_law.nd rfl (Or.inl rfl) (pe_callOk C_law_pen hr (by omega) (by rfl) (pa_cons (pv 0) pa_nil)))
        (pss_cons (ps_for PassesOwn.never rfl (pi_range1 (by rfl) T.range_ (pa_cons pe_int pa_nil)) (pg_name (i := 2) sc_law.nd rfl (Or.inl rfl) (by first | exact .inl rfl | exact .inr rfl)) (pss_cons (ps_set (i := 3) sc_law.nd rfl (Or.inl rfl) (pe_callOk C_law_rough hr (by omega) (by rfl) (pa_cons (pv 1) (pa_cons pe_int pa_nil))))
        (pss_cons (ps_set (i := 4) sc_law.nd rfl (Or.inl rfl) (pe_callB (call_reprD hg) (by rfl) T.repr_ (by decide +kernel) (pa_cons (pv 3) pa_nil)))
        (pss_cons (ps_set (i := 5) sc_law.nd rfl (Or.inl rfl) (pe_callOk C_law_walk hr (by omega) (by rfl) (pa_cons (pv 3) (pa_cons (pe_lst pa_nil) pa_nil))))
        (pss_cons (ps_setLc (i := 6) (own := [("_law_one", 7)]) (g := gName 7) (tt := tYes) rfl sc_law.nd rfl rfl (sw_true rfl rfl rfl (by decide +kernel)) (pi_list (pv 5)) (blkOk_by (N := sl_law) (sc := defScope s_law) (by decide +kernel)) (fun _ _ _ _ _ => pg_name (i := 7) sc_law.nd rfl (Or.inl rfl)) (fun _ _ _ _ _ => pts_nil) (fun _ _ _ _ _ => (pe_ix (ix_tupK (K := K) rfl) (pv 7) pe_int (fun _ _ => rfl))))
        (pss_cons (ps_set (i := 8) sc_law.nd rfl (Or.inl rfl) (pe_callOk C_law_first hr (by omega) (by rfl) (pa_cons (pe_lc (own := [("_law_one", 7)]) (g := gName 7) rfl sc_law.nd (pi_list (pv 5)) (blkOk_by (N := sl_law) (sc := defScope s_law) (by decide +kernel)) (fun _ _ _ _ _ => pg_name (i := 7) sc_law.nd rfl (Or.inl rfl)) (fun _ _ _ _ _ => pts_one (PW.pt (pw_and (pt_val (pe_callB (isDK (K := K) rfl) (by rfl) T.isinstance_ (by decide +kernel) (pa_cons (pe_ix (ix_tupK (K := K) rfl) (pv 7) pe_int (fun _ _ => rfl)) (pa_cons (pe_bltn (v := .ty "str") (by rfl) T.str_ (by decide +kernel) rfl) pa_nil)))) (pw_and1 (pt_cmpR (notIn_seqK (K := K) rfl) (pe_ix (ix_tupK (K := K) rfl) (pv 7) pe_int (fun _ _ => rfl)) (pe_ix (ix_tupK (K := K) rfl) (pv 7) pe_int (fun _ _ => rfl)) (by rfl)))))) (fun _ _ _ _ _ => (pe_ix (ix_tupK (K := K) rfl) (pv 7) pe_int (fun _ _ => rfl)))) pa_nil)))
        (pss_cons (ps_set (i := 9) sc_law.nd rfl (Or.inl rfl) (pe_callOk C_parts hr (by omega) (by rfl) (pa_cons (pv 3) pa_nil)))
        (pss_cons (ps_if (PW.pt (pw_or (pt_cmpR op_ne (pe_callB (call_reprD hg) (by rfl) T.repr_ (by decide +kernel) (pa_cons (pv 9) pa_nil)) (pe_callB (call_reprD hg) (by rfl) T.repr_ (by decide +kernel) (pa_cons (pv 6) pa_nil)) (nomark _)) (pw_or1 (pt_cmpR op_ne (pe_callB (call_reprD hg) (by rfl) T.repr_ (by decide +kernel) (pa_cons (pe_callOk C_uses hr (by omega) (by rfl) (pa_cons (pv 3) pa_nil)) pa_nil)) (pe_callB (call_reprD hg) (by rfl) T.repr_ (by decide +kernel) (pa_cons (pv 8) pa_nil)) (nomark _))))) (pss_one (ps_ret pe_bl)) pss_nil)
        (pss_cons (ps_expr (pe_bm PySem.F.plainAttrs_list PySem.F.slot_list_append PySem.F.type_list_append mt_append (pv 9) (pa_cons pe_non pa_nil)))
        (pss_cons (ps_expr (pe_bm PySem.F.plainAttrs_list PySem.F.slot_list_append PySem.F.type_list_append mt_append (pe_callOk C_uses hr (by omega) (by rfl) (pa_cons (pv 3) pa_nil)) (pa_cons pe_non pa_nil)))
        (pss_one (ps_if (PW.pt (pw_or (pt_cmpR op_ne (pe_callB (call_reprD hg) (by rfl) T.repr_ (by decide +kernel) (pa_cons (pe_callOk C_parts hr (by omega) (by rfl) (pa_cons (pv 3) pa_nil)) pa_nil)) (pe_callB (call_reprD hg) (by rfl) T.repr_ (by decide +kernel) (pa_cons (pv 6) pa_nil)) (nomark _)) (pw_or (pt_cmpR op_ne (pe_callB (call_reprD hg) (by rfl) T.repr_ (by decide +kernel) (pa_cons (pe_callOk C_uses hr (by omega) (by rfl) (pa_cons (pv 3) pa_nil)) pa_nil)) (pe_callB (call_reprD hg) (by rfl) T.repr_ (by decide +kernel) (pa_cons (pv 8) pa_nil)) (nomark _)) (pw_or1 (pt_cmpR op_ne (pe_callB (call_reprD hg) (by rfl) T.repr_ (by decide +kernel) (pa_cons (pv 3) pa_nil)) (pv 4) (nomark _)))))) (pss_one (ps_ret pe_bl)) pss_nil))))))))))))
        (pss_one (ps_ret pe_bl)))), ?_⟩
    refine ⟨_, rfl, a, ns, rfl, hS, hl, fun p c H0 hP0 s0 _ _ => ?_⟩
    refine ⟨6, rfl, by decide, by decide, for_range (lo := 0) (n := 6) (fun i σ H' => ∃ v2 v3 v4 v5 v6 v7 v8 v9, σ = [some (.ref a), some (.ref p), v2, v3, v4, v5, v6, v7, v8, v9] ∧ Pen H' p c) ⟨none, none, none, none, none, none, none, none, rfl, hP0⟩ ?_ ?_⟩
    · rintro i σ H1 hi ⟨v2, v3, v4, v5, v6, v7, v8, v9, rfl, hP1⟩
      have hb : bT 3 = 42740 := rfl
      refine ⟨_, rfl, p, c, 3, rfl, by decide, by decide, hP1, fun v d H2 hd hf ht hP2 k2 => ?_⟩
      have hf1 : Fit (bT 3) 150 d := hf.le (Nat.le_refl _) (by decide)
      have ht : Tm 4 d := ht
      have fpre : Fit 170972 150 (.list (pre 4 d)) := (Fit.lst (pre_fit ht hf)).le (by rw [hb]; decide) (by decide)
      have ffree : Fit 170972 150 (.list ((dd [] (outs (walkD 4 d []))).map strD)) := (Fit.lst (free_fit ht hf)).le (by rw [hb]; decide) (by decide)
      have lpre : (pre 4 d).length ≤ 100000 := by
        have := pre_len ht hf
        omega
      have lw : (walkD 4 d []).length ≤ 100000 := by
        rw [walk_len]
        exact lpre
      refine ⟨_, rfl, All, v, d, bT 3, rfl, hd, hf1, le_line (by rw [hb]; decide), room_un (k := 10) hr.un, ?_⟩
      refine ⟨_, rfl, Nat.zero_le _, fun q hq => ⟨v, d, q, [], bT 3, 11, rfl, hd.same (same_new hq), ht, hf, by decide, upd_same, by rw [hb]; decide, by rw [hb]; decide, fun WL ws H3 s3 hWL eW wk => ?_⟩⟩
      have s23 : Same H2 H3 := Same.trans (same_new hq) s3
      have hlw := wk.length
      refine ⟨_, rfl, WL, rfl, ⟨_, SqL.of eW⟩, fun D hD => ?_⟩
      refine lc_list (K := K) (xs := ws) (fun i H' => ∃ cs, H' D = some (.lst cs) ∧ DaAll K All H' cs (((walkD 4 d []).take i).map (·.1)) ∧ Same H3 H') ⟨[], upd_same, .nil, same_new hD⟩ (fun i H' _ p => SqL.of (p.choose_spec.2.2 _ _ eW)) ?_ ?_
      · rintro i x H5 hx ⟨cs, e5, g5, s5⟩
        obtain ⟨qq, hq1, hwq⟩ := wk.get hx
        have hi : i < ws.length := (List.getElem?_eq_some_iff.mp hx).1
        obtain ⟨t, v1, h1, rfl, hT, ha, _⟩ := hwq.same s5
        refine ⟨rfl, ?_⟩
        simp only [tYes, if_true]
        refine ⟨_, rfl, t, _, 0, _, rfl, rfl, hT, rfl, cs, e5, ?_, cs ++ [v1], upd_same, ?_, Same.mut s5 hD⟩
        · rw [g5.length, List.length_map, List.length_take]
          exact lt_line (by omega)
        · rw [List.take_add_one, hq1, List.map_append]
          exact acc_da e5 g5 ha
      rintro H4 ⟨dv, eD, gD, s4⟩
      rw [List.take_of_length_le (by omega), walk_pre] at gD
      refine ⟨_, rfl, WL, rfl, ⟨_, SqL.of (s4 _ _ eW)⟩, fun D2 hD2 => ?_⟩
      refine lc_list (K := K) (xs := ws) (fun i H' => H' D2 = some (.lst ((outs ((walkD 4 d []).take i)).map V.str)) ∧ Same H4 H') ⟨upd_same, same_new hD2⟩ (fun i H' _ p => SqL.of (p.2 _ _ (s4 _ _ eW))) ?_ ?_
      · rintro i x H5 hx ⟨e5, s5⟩
        obtain ⟨qq, hq1, hwq⟩ := wk.get hx
        have hi : i < ws.length := (List.getElem?_eq_some_iff.mp hx).1
        obtain ⟨t, v1, h1, rfl, hT, ha, eh⟩ := (hwq.same s4).same s5
        obtain ⟨dq, gq⟩ := qq
        have nx : outs ((walkD 4 d []).take (i + 1)) = outs ((walkD 4 d []).take i) ++ outs [(dq, gq)] := by
          rw [List.take_add_one, hq1, outs_app]
          rfl
        refine ⟨rfl, ?_⟩
        refine ⟨_, rfl, t, _, 0, _, rfl, rfl, hT, rfl, All, v1, dq, "str", rfl, ha, .inl rfl, _, rfl, ?_⟩
        by_cases hs : tyD dq = "str"
        · obtain ⟨x, rfl⟩ := ty_str hs
          obtain rfl := ha.strInv
          rw [decide_eq_true hs]
          refine iteT ?_
          refine ⟨_, rfl, t, _, 0, _, rfl, rfl, hT, rfl, _, rfl, t, _, 1, _, rfl, rfl, hT, rfl, h1, gq.map V.str, rfl, .inl (SqL.of eh), rfl, flat_strs _, _, rfl, ?_⟩
          rw [if_pos rfl, in_strs]
          by_cases hm : x ∈ gq
          · rw [decide_eq_true hm]
            refine iteF ⟨?_, s5⟩
            rw [nx, outs_str, if_pos hm, List.append_nil]
            exact e5
          · rw [decide_eq_false hm]
            refine iteT ?_
            refine ⟨_, rfl, t, _, 0, _, rfl, rfl, hT, rfl, _, e5, ?_, ?_, Same.mut s5 hD2⟩
            · rw [List.length_map]
              have := outs_len ((walkD 4 d []).take i)
              rw [List.length_take] at this
              exact lt_line (by omega)
            · rw [upd_same, nx, outs_str, if_neg hm, List.map_append]
              rfl
        · rw [decide_eq_false hs]
          refine iteF (iteF ⟨?_, s5⟩)
          rw [nx, outs_no hs]
          show _ = some (HO.lst ((outs ((walkD 4 d []).take i) ++ []).map V.str))
          rw [List.append_nil]
          exact e5
      rintro H5 ⟨e5, s5⟩
      rw [List.take_of_length_le (by omega)] at e5
      refine ⟨D2, _, rfl, e5, ?_, fun FL H6 s6 hFL eF => ?_⟩
      · have := outs_len (walkD 4 d [])
        omega
      have s36 := (s4.trans s5).trans s6
      have s26 := s23.trans s36
      have hd6 := hd.same s26
      have eD6 := (s5.trans s6) _ _ eD
      have gD6 := gD.same (s5.trans s6)
      refine ⟨_, rfl, v, d, 4, bT 3, 11, rfl, hd6, ht, hf, by rw [hb]; decide, fun PL us H7 s7 hPL eP gp => ?_⟩
      refine ⟨_, rfl, No, .ref PL, .list (pre 4 d), 170972, rfl, da_lst eP gp, fpre, le_line (by decide), room_un (k := 10) hr.un, _, rfl, No, .ref D, .list (pre 4 d), 170972, rfl, da_lst (s7 _ _ eD6) (gD6.same s7), fpre, le_line (by decide), room_un (k := 10) hr.un, rfl, _, rfl, iteNS rfl ?_⟩
      refine ⟨_, rfl, v, d, 4, bT 3, 11, rfl, hd6.same s7, ht, hf, by decide, by rw [hb]; decide, fun UL H8 s8 hUL eU => ?_⟩
      refine ⟨No, .ref UL, _, 170972, rfl, da_frees eU, ffree, le_line (by decide), room_un (k := 10) hr.un, _, rfl, No, .ref FL, _, 170972, rfl, da_frees ((s7.trans s8) _ _ eF), ffree, le_line (by decide), room_un (k := 10) hr.un, rfl, _, rfl, iteNS rfl ?_⟩
      have s68 := s7.trans s8
      have eP8 := s8 _ _ eP
      refine ⟨_, rfl, .inl ⟨rfl, _, SqL.of eP8⟩, PL, us, .non, rfl, rfl, eP8, ?_, ?_⟩
      · rw [gp.length]
        exact lt_line (by omega)
      have hP6 := hP2.same s26
      have nD : D ≠ PL := fun e => by
        rw [e, hPL] at eD6
        cases eD6
      have nF : FL ≠ PL := fun e => by
        rw [e, hPL] at eF
        cases eF
      have hP9 : Pen (upd H8 PL (.lst (us ++ [V.non]))) p c := (hP6.same s68).keep (hP6.neP hPL) (hP6.neC hPL)
      have t9 : Ts K H8 (upd H8 PL (.lst (us ++ [V.non]))) := Ts.put eP8
      have hd9 : Da K All (upd H8 PL (.lst (us ++ [V.non]))) v d := (hd6.same s68).ts t9
      have gD9 : DaAll K All (upd H8 PL (.lst (us ++ [V.non]))) dv (pre 4 d) := (gD6.same s68).ts t9
      have eD9 : (upd H8 PL (.lst (us ++ [V.non]))) D = some (.lst dv) := by
        rw [upd_ne nD]
        exact s68 _ _ eD6
      have eF9 : (upd H8 PL (.lst (us ++ [V.non]))) FL = some (.lst ((dd [] (outs (walkD 4 d []))).map V.str)) := by
        rw [upd_ne nF]
        exact s68 _ _ eF
      generalize (upd H8 PL (.lst (us ++ [V.non]))) = H9 at hP9 hd9 gD9 eD9 eF9 ⊢
      refine ⟨_, rfl, v, d, 4, bT 3, 11, rfl, hd9, ht, hf, by decide, by rw [hb]; decide, fun UM H10 s10 hUM eUM => ?_⟩
      refine ⟨.inl ⟨rfl, _, SqL.of eUM⟩, UM, _, .non, rfl, rfl, eUM, ?_, ?_⟩
      · rw [List.length_map]
        have l1 := dd_len (outs (walkD 4 d [])) []
        have l2 := outs_len (walkD 4 d [])
        have l3 : ([] : List Str).length = 0 := rfl
        exact lt_line (by omega)
      have s11 : Same H9 (upd H10 UM (.lst ((dd [] (outs (walkD 4 d []))).map V.str ++ [V.non]))) := Same.mut s10 hUM
      generalize (upd H10 UM (.lst ((dd [] (outs (walkD 4 d []))).map V.str ++ [V.non]))) = H11 at s11 ⊢
      refine ⟨_, rfl, v, d, 4, bT 3, 11, rfl, hd9.same s11, ht, hf, by rw [hb]; decide, fun PM um H12 s12 hPM ePM gm => ?_⟩
      have s912 := s11.trans s12
      refine ⟨No, .ref PM, .list (pre 4 d), 170972, rfl, da_lst ePM gm, fpre, le_line (by decide), room_un (k := 10) hr.un, _, rfl, No, .ref D, .list (pre 4 d), 170972, rfl, da_lst (s912 _ _ eD9) (gD9.same s912), fpre, le_line (by decide), room_un (k := 10) hr.un, rfl, _, rfl, iteNS rfl ?_⟩
      refine ⟨_, rfl, v, d, 4, bT 3, 11, rfl, hd9.same s912, ht, hf, by decide, by rw [hb]; decide, fun UN H13 s13 hUN eUN => ?_⟩
      have s913 := s912.trans s13
      refine ⟨No, .ref UN, _, 170972, rfl, da_frees eUN, ffree, le_line (by decide), room_un (k := 10) hr.un, _, rfl, No, .ref FL, _, 170972, rfl, da_frees (s913 _ _ eF9), ffree, le_line (by decide), room_un (k := 10) hr.un, rfl, _, rfl, iteNS rfl ?_⟩
      refine ⟨_, rfl, All, v, d, bT 3, rfl, hd9.same s913, hf1, le_line (by rw [hb]; decide), room_un (k := 10) hr.un, _, rfl, rfl, _, rfl, iteNS rfl ?_⟩
      exact ⟨_, _, _, _, _, _, _, _, rfl, hP9.same s913⟩
    · rintro σ H1 ⟨v2, v3, v4, v5, v6, v7, v8, v9, rfl, hP1⟩
      exact k H1
end

end Ow
open PySem PySem.W PyProof.Rows
set_option maxRecDepth 100000 in
set_option maxHeartbeats 0 in
theorem PySem.Challenge.cw_oncewire_k05_parts_and_uses_holds : PySem.Challenge.rw_oncewire_k05_parts_and_uses.Holds := by
  w_on; o_law; k_head; (case hw => w_witness2)
  k_fill
  refine Ow.walkG (l := PySem.Challenge.rw_oncewire_k05_parts_and_uses) (n := 63) (k := 11) (x := Str.ofString "_law_script") (sp := Ow.spLaw) rfl (by decide) rfl ⟨rfl, by decide, by decide⟩ (fun w h Y => PySem.W.kIn_of Y) ?F (fun K H a ns hl _ hS => ⟨a, ns, rfl, hS, hl, fun _ => rfl⟩)
  case F =>
    intro w mg fa h KX G hmg
    have D_below : Ow.DefAt (L2.KOf KX) mg (Str.ofString "below") Ow.s_below [Str.ofString "term"] := by
      dsimp only [L2.KOf]
      refine' Ow.defAt_mk KX G ?a ?l ?c ?k (fun _ _ _ _ _ _ us hl => match us, hl with | [_], _ => rfl)
      (case a => k_is); (case l => k_is); (case c => k_is); (case k => k_is)
    have D_parts : Ow.DefAt (L2.KOf KX) mg (Str.ofString "parts") Ow.s_parts [Str.ofString "term"] := by
      dsimp only [L2.KOf]
      refine' Ow.defAt_mk KX G ?a ?l ?c ?k (fun _ _ _ _ _ _ us hl => match us, hl with | [_], _ => rfl)
      (case a => k_is); (case l => k_is); (case c => k_is); (case k => k_is)
    have D_uses : Ow.DefAt (L2.KOf KX) mg (Str.ofString "uses") Ow.s_uses [Str.ofString "term"] := by
      dsimp only [L2.KOf]
      refine' Ow.defAt_mk KX G ?a ?l ?c ?k (fun _ _ _ _ _ _ us hl => match us, hl with | [_], _ => rfl)
      (case a => k_is); (case l => k_is); (case c => k_is); (case k => k_is)
    have D_law_pen : Ow.DefAt (L2.KOf KX) mg (Str.ofString "_law_pen") Ow.s_law_pen [Str.ofString "_law_script"] := by
      dsimp only [L2.KOf]
      refine' Ow.defAt_mk KX G ?a ?l ?c ?k (fun _ _ _ _ _ _ us hl => match us, hl with | [_], _ => rfl)
      (case a => k_is); (case l => k_is); (case c => k_is); (case k => k_is)
    have D_law_fresh : Ow.DefAt (L2.KOf KX) mg (Str.ofString "_law_fresh") Ow.s_law_fresh [Str.ofString "_law_pen_here"] := by
      dsimp only [L2.KOf]
      refine' Ow.defAt_mk KX G ?a ?l ?c ?k (fun _ _ _ _ _ _ us hl => match us, hl with | [_], _ => rfl)
      (case a => k_is); (case l => k_is); (case c => k_is); (case k => k_is)
    have D_law_draw : Ow.DefAt (L2.KOf KX) mg (Str.ofString "_law_draw") Ow.s_law_draw [Str.ofString "_law_pen_here", Str.ofString "_law_below"] := by
      dsimp only [L2.KOf]
      refine' Ow.defAt_mk KX G ?a ?l ?c ?k (fun _ _ _ _ _ _ us hl => match us, hl with | [_, _], _ => rfl)
      (case a => k_is); (case l => k_is); (case c => k_is); (case k => k_is)
    have D_law_name : Ow.DefAt (L2.KOf KX) mg (Str.ofString "_law_name") Ow.s_law_name [Str.ofString "_law_pen_here", Str.ofString "_law_gone"] := by
      dsimp only [L2.KOf]
      refine' Ow.defAt_mk KX G ?a ?l ?c ?k (fun _ _ _ _ _ _ us hl => match us, hl with | [_, _], _ => rfl)
      (case a => k_is); (case l => k_is); (case c => k_is); (case k => k_is)
    have D_law_rough_kind : Ow.DefAt (L2.KOf KX) mg (Str.ofString "_law_rough_kind") Ow.s_law_rough_kind [Str.ofString "_law_pen_here", Str.ofString "_law_deep"] := by
      dsimp only [L2.KOf]
      refine' Ow.defAt_mk KX G ?a ?l ?c ?k (fun _ _ _ _ _ _ us hl => match us, hl with | [_, _], _ => rfl)
      (case a => k_is); (case l => k_is); (case c => k_is); (case k => k_is)
    have D_law_few : Ow.DefAt (L2.KOf KX) mg (Str.ofString "_law_few") Ow.s_law_few [Str.ofString "_law_pen_here"] := by
      dsimp only [L2.KOf]
      refine' Ow.defAt_mk KX G ?a ?l ?c ?k (fun _ _ _ _ _ _ us hl => match us, hl with | [_], _ => rfl)
      (case a => k_is); (case l => k_is); (case c => k_is); (case k => k_is)
    have D_law_row : Ow.DefAt (L2.KOf KX) mg (Str.ofString "_law_row") Ow.s_law_row [Str.ofString "_law_pen_here", Str.ofString "_law_often"] := by
      dsimp only [L2.KOf]
      refine' Ow.defAt_mk KX G ?a ?l ?c ?k (fun _ _ _ _ _ _ us hl => match us, hl with | [_, _], _ => rfl)
      (case a => k_is); (case l => k_is); (case c => k_is); (case k => k_is)
    have D_law_rough : Ow.DefAt (L2.KOf KX) mg (Str.ofString "_law_rough") Ow.s_law_rough [Str.ofString "_law_pen_here", Str.ofString "_law_deep"] := by
      dsimp only [L2.KOf]
      refine' Ow.defAt_mk KX G ?a ?l ?c ?k (fun _ _ _ _ _ _ us hl => match us, hl with | [_, _], _ => rfl)
      (case a => k_is); (case l => k_is); (case c => k_is); (case k => k_is)
    have D_law_inner : Ow.DefAt (L2.KOf KX) mg (Str.ofString "_law_inner") Ow.s_law_inner [Str.ofString "_law_term"] := by
      dsimp only [L2.KOf]
      refine' Ow.defAt_mk KX G ?a ?l ?c ?k (fun _ _ _ _ _ _ us hl => match us, hl with | [_], _ => rfl)
      (case a => k_is); (case l => k_is); (case c => k_is); (case k => k_is)
    have D_law_walk : Ow.DefAt (L2.KOf KX) mg (Str.ofString "_law_walk") Ow.s_law_walk [Str.ofString "_law_term", Str.ofString "_law_hidden"] := by
      dsimp only [L2.KOf]
      refine' Ow.defAt_mk KX G ?a ?l ?c ?k (fun _ _ _ _ _ _ us hl => match us, hl with | [_, _], _ => rfl)
      (case a => k_is); (case l => k_is); (case c => k_is); (case k => k_is)
    have D_law_first : Ow.DefAt (L2.KOf KX) mg (Str.ofString "_law_first") Ow.s_law_first [Str.ofString "_law_some"] := by
      dsimp only [L2.KOf]
      refine' Ow.defAt_mk KX G ?a ?l ?c ?k (fun _ _ _ _ _ _ us hl => match us, hl with | [_], _ => rfl)
      (case a => k_is); (case l => k_is); (case c => k_is); (case k => k_is)
    have T : Ow.Bl mg := by
      refine' ⟨PySem.W.mg_none_of KX G ?z0, PySem.W.mg_none_of KX G ?z1, PySem.W.mg_none_of KX G ?z2, PySem.W.mg_none_of KX G ?z3, PySem.W.mg_none_of KX G ?z4, PySem.W.mg_none_of KX G ?z5, PySem.W.mg_none_of KX G ?z6, PySem.W.mg_none_of KX G ?z7, PySem.W.mg_none_of KX G ?z8, PySem.W.mg_none_of KX G ?z9, PySem.W.mg_none_of KX G ?z10, PySem.W.mg_none_of KX G ?z11, PySem.W.mg_none_of KX G ?z12, PySem.W.mg_none_of KX G ?z13, PySem.W.mg_none_of KX G ?z14, PySem.W.mg_none_of KX G ?z15, PySem.W.mg_none_of KX G ?z16, PySem.W.mg_none_of KX G ?z17, PySem.W.mg_none_of KX G ?z18⟩
      (case z0 => k_is); (case z1 => k_is); (case z2 => k_is); (case z3 => k_is); (case z4 => k_is); (case z5 => k_is); (case z6 => k_is); (case z7 => k_is); (case z8 => k_is); (case z9 => k_is); (case z10 => k_is); (case z11 => k_is); (case z12 => k_is); (case z13 => k_is); (case z14 => k_is); (case z15 => k_is); (case z16 => k_is); (case z17 => k_is); (case z18 => k_is)
    obtain ⟨fd, FL, hb⟩ : ∃ fd, L2.Fun (L2.KOf KX) (Str.ofString "law") (Str.ofString "law") Ow.s_law fa fd ∧ ∀ (s : Shared) (u : Value), BindsTo s fd ⟨[u], []⟩ [(Str.ofString "_law_script", u)] := by
      dsimp only [L2.KOf]
      refine' Ow.lawAt_mk KX G hmg ?a ?l ?c ?k ?hb
      (case a => k_is); (case l => k_is); (case c => k_is); (case k => k_is); (case hb => exact fun s u => .of_eq rfl)
    refine ⟨fd, hb, fun base _ _ => ?_⟩
    have c_pen := Ow.ok_pen (P := PySem.Challenge.rw_oncewire_k05_parts_and_uses.prog) (w := w) (base := base) D_law_pen T
    have c_fresh := Ow.ok_fresh (P := PySem.Challenge.rw_oncewire_k05_parts_and_uses.prog) (w := w) (base := base) D_law_fresh T
    have c_draw := Ow.ok_draw D_law_draw T c_fresh
    have c_name := Ow.ok_name D_law_name T c_draw
    have c_kind := Ow.ok_rough_kind D_law_rough_kind T c_draw c_name 2
    have c_few := Ow.ok_few D_law_few T c_draw c_name
    have c_row := Ow.ok_law_row D_law_row T c_few c_name
    have c_rough := Ow.ok_rough D_law_rough T c_draw c_few c_row c_kind 3
    have c_below := Ow.ok_below (P := PySem.Challenge.rw_oncewire_k05_parts_and_uses.prog) (w := w) (base := base) D_below T
    have c_inner := Ow.ok_inner (P := PySem.Challenge.rw_oncewire_k05_parts_and_uses.prog) (w := w) (base := base) D_law_inner T
    have c_walk := Ow.ok_walk D_law_walk T c_inner 4
    have c_first := Ow.ok_first (P := PySem.Challenge.rw_oncewire_k05_parts_and_uses.prog) (w := w) (base := base) D_law_first T
    have c_parts := Ow.ok_parts D_parts T c_below
    have c_uses := Ow.ok_uses D_uses T c_below
    exact Ow.ok_law FL T c_pen c_rough c_walk c_first c_parts c_uses
#print axioms PySem.Challenge.cw_oncewire_k05_parts_and_uses_holds
