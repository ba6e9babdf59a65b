import PyProof.Rows.All
import Wide.All
import OpenK.AllK
import Wide.FinOn
import HandS.ForMost
import HandS.IsInst
import HandS.Codes
import HandS.More
import HandS.Walk
import HandS.ForExc
import HandS.ExcCtx
import HandS.FStr
import HandS.HotCalls
import HandS.ExcIs
import HandS.SortInts
import HandS.Conv
import HandS.Zip
import HandS.List
import HandS.Style
import HandS.TupSets
import HandS.SortKw
import KE.DataMinMax
import HandS.WordsDict
import PySem.Challenge.RW_clearday_k11_whole_days_cleared
set_option Elab.async false
set_option linter.all false
set_option maxRecDepth 100000
set_option maxHeartbeats 4000000
/-! Clearday: words of our own over the hand layer, for every law. -/
namespace Cd
open PySem PySem.Spec PyProof.Rows L2

/-! ### a def that is called by its name -/
structure Cal (P : Program) (w : World) (K : PySem.W.Frag) (mg : Str → Option Value) (base : Heap) (CX : CXT) (k : Nat) (x : Str) (ps : List Str) (sp : Sp) : Prop where
  ex : ∃ f fd, FnOk P w K mg base CX k f fd ps sp ∧ mg x = some (.ref f) ∧ PySem.W.keepIn K (.ref f) = true ∧ Binds K fd ps [] ∧ ∃ oc od osl, K.lookup f = some ⟨oc, od, .func fd, osl⟩
/-- where a def of the text stands -/
def DefAt (K : PySem.W.Frag) (mg : Str → Option Value) (x : Str) (st : Stmt) : Prop := ∃ f fd, Fun K x x st f fd ∧ mg x = some (.ref f)
abbrev BindsBy (x : Str) (st : Stmt) (ps : List Str) : Prop := ∀ (kV doc pm : Value) (an : Option Addr) (cdv ct : Value) (us : List Value), us.length = ps.length → bindArgs (PySem.W.fnOf x x (defArgs st) (defBody st) (defScope st) .none kV doc pm an cdv ct) ⟨us, []⟩ = pure (ps.zip us)
section
variable {P : Program} {w : World} {K : PySem.W.Frag} {mg : Str → Option Value} {base : Heap}
theorem DefAt.ok {x : Str} {st : Stmt} {N ps : List Str} {k : Nat} {sp : Sp} (D : DefAt K mg x st) (S : FnScope N ps (defScope st)) (hb : BindsBy x st ps) (len : ∀ vs H Q E, sp vs H Q E → vs.length = ps.length)
    (hbody : ∀ (f : Addr) (cdv : Value) (A : Around) (outer : List Env) (s : Shared) (H : Hp) (vs : List V) (Q : VK) (E : XK), Room k (A.deeper (envOfC x (defScope st) s.heap.objs.size f cdv)) → sp vs H Q E →
      ∃ t, PSs (cxOf CX0 P w K mg base N x (defScope st) f cdv A outer s H E).nox (defBody st) t ∧ t { nx := fun _ H' => Q .non H', rt := Q } (start N vs) H) : Cal P w K mg base CX0 (k + 1) x ps sp := by
  obtain ⟨f, fd, F, m⟩ := D
  obtain ⟨oc, od, kV, doc, pm, an, cdv, ct, osl, e, lk, hcd⟩ := F.ex
  exact ⟨f, fd, F.ok S len (hbody f), m, F.kp, F.binds hb, oc, od, osl, lk⟩
theorem Cal.mono {CX : CXT} {x : Str} {ps : List Str} {sp : Sp} {j k : Nat} (c : Cal P w K mg base CX j x ps sp) (h : j ≤ k) : Cal P w K mg base CX k x ps sp := by
  obtain ⟨f, fd, F, m, kp, b, lk⟩ := c.ex
  exact ⟨f, fd, F.mono h, m, kp, b, lk⟩
theorem defAt_mk {h : Heap} {x : Str} {st : Stmt} {f : Addr} {oc : Value} {od an : Option Addr} {osl : Array (Option Value)} {kV doc pm cdv ct : Value} (X : K.In h) (G : h.Ns mainGlobals mg) (a : PySem.W.nsIn K mainGlobals x = some (some (.ref f)))
    (l : K.lookup f = some ⟨oc, od, .func (PySem.W.fnOf x x (defArgs st) (defBody st) (defScope st) .none kV doc pm an cdv ct), osl⟩) (c : PySem.W.codeIn K cdv x = true) (k : PySem.W.keepIn K (.ref f) = true) : DefAt K mg x st := ⟨f, _, fun_mk l c k, PySem.W.mg_of X G a⟩
/-- the law's own def, as walk_of asks for it -/
theorem law_end {k : Nat} {x p : Str} {st : Stmt} {fa : Addr} {sp : Sp} (D : DefAt K mg x st) (hfa : mg x = some (.ref fa))
    (hb : ∀ (kV doc pm : Value) (an : Option Addr) (cdv ct : Value) (s : Shared) (v : Value), BindsTo s (PySem.W.fnOf x x (defArgs st) (defBody st) (defScope st) .none kV doc pm an cdv ct) ⟨[v], []⟩ [(p, v)])
    (hc : ∀ base : Heap, K.In base → base.Ns mainGlobals mg → Cal P w K mg base CX0 k x [p] sp) :
    ∃ fd : FuncData, (∀ (s : Shared) (v : Value), BindsTo s fd ⟨[v], []⟩ [(p, v)]) ∧ ∀ base : Heap, K.In base → base.Ns mainGlobals mg → FnOk P w K mg base CX0 k fa fd [p] sp := by
  obtain ⟨f, fd, F, m⟩ := D
  obtain ⟨oc, od, kV, doc, pm, an, cdv, ct, osl, rfl, lk, hcd⟩ := F.ex
  rw [hfa] at m
  cases m
  refine ⟨_, hb kV doc pm an cdv ct, fun base hK hG => ?_⟩
  obtain ⟨f', fd', F', m', _, _, oc', od', osl', lk'⟩ := (hc base hK hG).ex
  rw [hfa] at m'
  cases m'
  rw [lk] at lk'
  cases lk'
  exact F'
end
section
variable {X : Cx} {CX : CXT} {k : Nat} {ps : List Str} {sp : Sp} {E : XK} {x : Str} {p pos : Pos} {e : Expr} {es : List Expr} {t : TA}
theorem pe_cal (c : Cal X.prog X.w X.K X.mg X.base CX k x ps sp) (hr : Room k X.A) (hg : Gl X x) (hx : Passes CX X E) (ha : PA X (e :: es) t) (hdb : (x == ("__debug__" : Str)) = false := by decide)
    (he : starEach (e :: es) X.env = (false, eval e X.env) :: starEach es X.env := by rfl) (hpl : (backTo pos (starEach es X.env)).any (·.1) = false := by rfl) : PE X (.Call (.Name x p) (e :: es) [] pos) (tCall sp [] E t) := by
  obtain ⟨f, fd, F, m, kp, b, _⟩ := c.ex
  exact pe_call F hr hg m kp b .nil hx ha hdb he hpl
/-- xs[i] read for xs[i] op= e, i not below nought -/
theorem get_list : PGet X (rIxL X.K) := by
  intro pins s σ H o i ov iv Q I ro ri h
  obtain ⟨a, xs, n, z, rfl, rfl, hq, he, q⟩ := h
  cases ro
  obtain ⟨tk, rfl⟩ := ri
  obtain ⟨its, r, pl, hz⟩ := I.list hq
  obtain ⟨j, h1, h2, h3, h4, h5⟩ := atI_get he
  obtain ⟨w, ew, rw'⟩ := r.get h2
  have hl := r.length
  have hn := line63
  have done_ : EP X pins σ Q w s := ⟨z, H, I, rw', q⟩
  by_cases h0 : 0 ≤ n
  · have hj : n.toNat = j := by
      rw [seqIndex_of h0 h5] at h1
      exact Option.some.inj h1
    exact wpAny_getItem_list pl.isList h0 (by omega) (by rw [hj]; simpa using ew) done_
  · have hj : (n + (its.toArray.size : Int)).toNat = j := by
      rw [seqIndex_neg (by omega) h4] at h1
      rw [List.size_toArray, ← hl]
      exact Option.some.inj h1
    exact wpAny_getItem_list_neg pl.isList (by omega) (by rw [List.size_toArray] <;> omega) (by omega) (by rw [hj]; simpa using ew) done_
end
/-- the built-in names that stay what they are -/
structure Blt (mg : Str → Option Value) : Prop where
  len : mg "len" = none
  range : mg "range" = none
  isinstance : mg "isinstance" = none
  list : mg "list" = none
  int : mg "int" = none
  bool : mg "bool" = none
  tuple : mg "tuple" = none
  sum : mg "sum" = none
  min : mg "min" = none
  max : mg "max" = none
  enumerate : mg "enumerate" = none
  zip : mg "zip" = none
  any : mg "any" = none
  all : mg "all" = none
  abs : mg "abs" = none
  sorted : mg "sorted" = none
  reversed : mg "reversed" = none
  ValueError : mg "ValueError" = none
  set : mg "set" = none

/-! ### data in a heap -/
section
variable {K : PySem.W.Frag} {H H' H1 : Hp} {a p : Addr} {xs : List V}
theorem same_new {o : HO} (h : H p = none) : Same H (upd H p o) := fun b x e => by
  rw [upd_ne (ne_of_none e h)]
  exact e
/-- what the start did not know may change -/
theorem same_mut {o : HO} (e : Same H H') (h : H p = none) : Same H (upd H' p o) := fun b x q => by
  rw [upd_ne (ne_of_none q h)]
  exact e _ _ q
theorem same_tup (e : Same H H') (h : SqT K H a xs) : SqT K H' a xs := by
  rcases h with (h | ⟨o, h⟩) | h
  · exact .inl (.inl (e _ _ h))
  · exact .inl (.inr ⟨o, e _ _ h⟩)
  · exact .inr h
theorem same_none (e : Same H H') (h : H' a = none) : H a = none := e.free h
mutual
theorem dp_same (e : Same H H') : ∀ (d : PyData) (v : V), Dp K H v d → Dp K H' v d
  | .none, _, h => by cases h; exact .non
  | .bool b, _, h => by cases h; exact .bl b
  | .int i, _, h => by cases h; exact .int i
  | .str x, _, h => by cases h; exact .str x
  | .list ds, _, h => by
    cases h with
    | lst hs ha => exact .lst (e.seq hs) (dpA_same e ds _ ha)
  | .tuple ds, _, h => by
    cases h with
    | tup hs ha => exact .tup (same_tup e hs) (dpA_same e ds _ ha)
  | .dict kvs, _, h => by cases h
theorem dpA_same (e : Same H H') : ∀ (ds : List PyData) (vs : List V), DpAll K H vs ds → DpAll K H' vs ds
  | [], _, h => by cases h; exact .nil
  | d :: ds, _, h => by
    cases h with
    | cons h1 h2 => exact .cons (dp_same e d _ h1) (dpA_same e ds _ h2)
end
theorem _root_.L2.Same.dp {v : V} {d : PyData} (e : Same H H') (h : Dp K H v d) : Dp K H' v d := dp_same e d v h
theorem _root_.L2.Same.dpA {vs : List V} {ds : List PyData} (e : Same H H') (h : DpAll K H vs ds) : DpAll K H' vs ds := dpA_same e ds vs h
theorem _root_.L2.Same.tup (e : Same H H') (h : SqT K H a xs) : SqT K H' a xs := same_tup e h
theorem dpA_len : ∀ {vs : List V} {ds : List PyData}, DpAll K H vs ds → vs.length = ds.length
  | _, _, .nil => rfl
  | _, _, .cons _ t => by
    rw [List.length_cons, List.length_cons, dpA_len t]
theorem dpA_get : ∀ {vs : List V} {ds : List PyData} {i : Nat} {v : V}, DpAll K H vs ds → vs[i]? = some v → ∃ d, ds[i]? = some d ∧ Dp K H v d
  | _, _, _, _, .nil, e => by simp at e
  | _, _, 0, _, .cons h _, e => by
    cases (Option.some.inj e : _ = _)
    exact ⟨_, rfl, h⟩
  | _, _, i + 1, v, .cons _ t, e => by
    obtain ⟨d, e1, h1⟩ := dpA_get (i := i) (v := v) t e
    exact ⟨d, e1, h1⟩
theorem dpA_get' {vs : List V} {ds : List PyData} {i : Nat} {d : PyData} (h : DpAll K H vs ds) (e : ds[i]? = some d) : ∃ v, vs[i]? = some v ∧ Dp K H v d := by
  have hl := dpA_len h
  have hi := (List.getElem?_eq_some_iff.mp e).1
  have e1 : vs[i]? = some (vs[i]'(by omega)) := List.getElem?_eq_getElem (by omega)
  obtain ⟨d', e2, h2⟩ := dpA_get h e1
  rw [e] at e2
  cases e2
  exact ⟨_, e1, h2⟩
theorem dpA_app : ∀ {vs ws : List V} {ds es : List PyData}, DpAll K H vs ds → DpAll K H ws es → DpAll K H (vs ++ ws) (ds ++ es)
  | _, _, _, _, .nil, h => h
  | _, _, _, _, .cons h t, h' => .cons h (dpA_app t h')
theorem dpA_take : ∀ {vs : List V} {ds : List PyData} (n : Nat), DpAll K H vs ds → DpAll K H (vs.take n) (ds.take n)
  | _, _, 0, _ => .nil
  | _, _, _ + 1, .nil => .nil
  | _, _, n + 1, .cons h t => .cons h (dpA_take n t)
theorem dpA_drop : ∀ {vs : List V} {ds : List PyData} (n : Nat), DpAll K H vs ds → DpAll K H (vs.drop n) (ds.drop n)
  | _, _, 0, h => h
  | _, _, _ + 1, .nil => .nil
  | _, _, n + 1, .cons _ t => dpA_drop n t
theorem dpA_ints : ∀ ns : List Int, DpAll K H (ns.map V.int) (ns.map PyData.int)
  | [] => .nil
  | n :: r => .cons (.int n) (dpA_ints r)
theorem dpA_ints_inv : ∀ {ns : List Int} {vs : List V}, DpAll K H vs (ns.map PyData.int) → vs = ns.map V.int
  | [], _, h => by cases h; rfl
  | n :: r, _, h => by
    cases h with
    | cons h1 h2 =>
      cases h1
      rw [dpA_ints_inv h2]
      rfl
/-- a list of ours may change: tuples of flat data don't lean on it -/
theorem tup_mut {l : Addr} {vs : List V} {o : HO} (hl : H l = some (.lst vs)) (h : SqT K H a xs) : SqT K (upd H l o) a xs := by
  rcases h with (h | ⟨ob, h⟩) | h
  · have ne : a ≠ l := fun q => by
      rw [q, hl] at h
      cases h
    exact .inl (.inl (by rw [upd_ne ne]; exact h))
  · have ne : a ≠ l := fun q => by
      rw [q, hl] at h
      cases h
    exact .inl (.inr ⟨ob, by rw [upd_ne ne]; exact h⟩)
  · exact .inr h
end

/-! ### debts -/
abbrev Debt := Int × Int × Int
def encT (d : Debt) : List PyData := [.int d.1, .int d.2.1, .int d.2.2]
def enc (d : Debt) : PyData := .tuple (encT d)
def encs (ds : List Debt) : List PyData := ds.map enc
/-- the values that a debt's tuple holds -/
def tV (d : Debt) : List V := [.int d.1, .int d.2.1, .int d.2.2]
/-- v is a tuple with d's parts -/
def DV (K : PySem.W.Frag) (H : Hp) (v : V) (d : Debt) : Prop := ∃ p, v = .ref p ∧ SqT K H p (tV d)
def DVs (K : PySem.W.Frag) (H : Hp) : List V → List Debt → Prop := Paired (DV K H)
section
variable {K : PySem.W.Frag} {H H' : Hp}
theorem _root_.L2.Same.dv {v : V} {d : Debt} (e : Same H H') (h : DV K H v d) : DV K H' v d := by
  obtain ⟨p, r, h⟩ := h
  exact ⟨p, r, e.tup h⟩
theorem dvs_same : ∀ {vs : List V} {ds : List Debt}, Same H H' → DVs K H vs ds → DVs K H' vs ds
  | _, _, _, .nil => .nil
  | _, _, e, .cons h t => .cons (e.dv h) (dvs_same e t)
theorem _root_.L2.Same.dvs {vs : List V} {ds : List Debt} (e : Same H H') (h : DVs K H vs ds) : DVs K H' vs ds := dvs_same e h
theorem dv_mut {l : Addr} {vs : List V} {o : HO} {v : V} {d : Debt} (hl : H l = some (.lst vs)) (h : DV K H v d) : DV K (upd H l o) v d := by
  obtain ⟨p, r, h⟩ := h
  exact ⟨p, r, tup_mut hl h⟩
theorem dvs_mut {l : Addr} {ws : List V} {o : HO} (hl : H l = some (.lst ws)) : ∀ {vs : List V} {ds : List Debt}, DVs K H vs ds → DVs K (upd H l o) vs ds
  | _, _, .nil => .nil
  | _, _, .cons h t => .cons (dv_mut hl h) (dvs_mut hl t)
theorem dvs_len {vs : List V} {ds : List Debt} (h : DVs K H vs ds) : vs.length = ds.length := Paired.length h
theorem dvs_get : ∀ {vs : List V} {ds : List Debt} {i : Nat} {v : V}, DVs K H vs ds → vs[i]? = some v → ∃ d, ds[i]? = some d ∧ DV K H v d
  | _, _, _, _, .nil, e => by simp at e
  | _, _, 0, _, .cons h _, e => by
    cases (Option.some.inj e : _ = _)
    exact ⟨_, rfl, h⟩
  | _, _, i + 1, v, .cons _ t, e => by
    obtain ⟨d, e1, h1⟩ := dvs_get (i := i) (v := v) t e
    exact ⟨d, e1, h1⟩
theorem dvs_get' {vs : List V} {ds : List Debt} {i : Nat} {d : Debt} (h : DVs K H vs ds) (e : ds[i]? = some d) : ∃ v, vs[i]? = some v ∧ DV K H v d := by
  have hl := dvs_len h
  have hi := (List.getElem?_eq_some_iff.mp e).1
  have e1 : vs[i]? = some (vs[i]'(by omega)) := List.getElem?_eq_getElem (by omega)
  obtain ⟨d', e2, h2⟩ := dvs_get h e1
  rw [e] at e2
  cases e2
  exact ⟨_, e1, h2⟩
theorem dvs_app : ∀ {vs ws : List V} {ds es : List Debt}, DVs K H vs ds → DVs K H ws es → DVs K H (vs ++ ws) (ds ++ es)
  | _, _, _, _, .nil, h => h
  | _, _, _, _, .cons h t, h' => .cons h (dvs_app t h')
theorem dvs_take : ∀ {vs : List V} {ds : List Debt} (n : Nat), DVs K H vs ds → DVs K H (vs.take n) (ds.take n)
  | _, _, 0, _ => .nil
  | _, _, _ + 1, .nil => .nil
  | _, _, n + 1, .cons h t => .cons h (dvs_take n t)
theorem dvs_drop : ∀ {vs : List V} {ds : List Debt} (n : Nat), DVs K H vs ds → DVs K H (vs.drop n) (ds.drop n)
  | _, _, 0, h => h
  | _, _, _ + 1, .nil => .nil
  | _, _, n + 1, .cons _ t => dvs_drop n t
theorem dv_dp {v : V} {d : Debt} (h : DV K H v d) : Dp K H v (enc d) := by
  obtain ⟨p, rfl, h⟩ := h
  exact .tup h (.cons (.int _) (.cons (.int _) (.cons (.int _) .nil)))
theorem dp_dv {v : V} {d : Debt} (h : Dp K H v (enc d)) : DV K H v d := by
  cases h with
  | tup hs ha =>
    cases ha with
    | cons h1 ha =>
      cases ha with
      | cons h2 ha =>
        cases ha with
        | cons h3 ha =>
          cases ha
          cases h1
          cases h2
          cases h3
          exact ⟨_, rfl, hs⟩
theorem dvs_dp : ∀ {vs : List V} {ds : List Debt}, DVs K H vs ds → DpAll K H vs (encs ds)
  | _, _, .nil => .nil
  | _, _, .cons h t => .cons (dv_dp h) (dvs_dp t)
/-- a list of debts that may be read at a; one that is ours at a -/
def DL (K : PySem.W.Frag) (H : Hp) (a : Addr) (ds : List Debt) : Prop := ∃ vs, SqL K H a vs ∧ DVs K H vs ds
def DM (K : PySem.W.Frag) (H : Hp) (a : Addr) (ds : List Debt) : Prop := ∃ vs, H a = some (.lst vs) ∧ DVs K H vs ds
theorem DM.dl {a : Addr} {ds : List Debt} (h : DM K H a ds) : DL K H a ds := by
  obtain ⟨vs, h1, h2⟩ := h
  exact ⟨vs, SqL.of h1, h2⟩
theorem DL.dp {a : Addr} {ds : List Debt} (h : DL K H a ds) : Dp K H (.ref a) (.list (encs ds)) := by
  obtain ⟨vs, h1, h2⟩ := h
  exact .lst h1 (dvs_dp h2)
theorem _root_.L2.Same.dl {a : Addr} {ds : List Debt} (e : Same H H') (h : DL K H a ds) : DL K H' a ds := by
  obtain ⟨vs, h1, h2⟩ := h
  exact ⟨vs, e.seq h1, e.dvs h2⟩
theorem _root_.L2.Same.dm {a : Addr} {ds : List Debt} (e : Same H H') (h : DM K H a ds) : DM K H' a ds := by
  obtain ⟨vs, h1, h2⟩ := h
  exact ⟨vs, e _ _ h1, e.dvs h2⟩
end
/-- a debt of a book of n houses -/
structure Good (n : Int) (d : Debt) : Prop where
  a0 : 0 ≤ d.1
  an : d.1 < n
  b0 : 0 ≤ d.2.1
  bn : d.2.1 < n
  ne : d.1 ≠ d.2.1
  m1 : 1 ≤ d.2.2
  mM : d.2.2 ≤ 1000000000
def Goods (n : Int) (ds : List Debt) : Prop := ∀ d ∈ ds, Good n d
/-- the cell of a script -/
def cell (ns : List Int) (k : Int) : Int := if k < (ns.length : Int) then ns.getD k.toNat 0 else 0
theorem szn {n : Nat} (h : n ≤ 100000) : n ≤ sizeLine := Nat.le_trans h (by decide)
theorem szl {n : Nat} (h : n < 100000) : n < sizeLine := Nat.lt_of_lt_of_le h (by decide)

/-! ### kinds, numbers -/
def isInt : PyData → Bool
  | .int _ => true
  | _ => false
def isNum (d : PyData) (lo hi : Int) : Bool := match d with
  | .int i => decide (lo ≤ i) && decide (i ≤ hi)
  | _ => false
/-- the built-in class of data -/
def tyD : PyData → String
  | .none => "NoneType"
  | .bool _ => "bool"
  | .int _ => "int"
  | .str _ => "str"
  | .list _ => "list"
  | .tuple _ => "tuple"
  | .dict _ => "dict"
theorem tyx_of {K : PySem.W.Frag} {H : Hp} {v : V} {d : PyData} (h : Dp K H v d) : TyX K H v (.type (tyD d)) := by
  cases h with
  | non => exact .base .non
  | bl b => exact .base (.bl b)
  | int i => exact .base (.int i)
  | str x => exact .base (.str x)
  | lst hs _ =>
    rcases hs with (h | ⟨o, h⟩) | ⟨o, its, n, l, c, _⟩
    · exact .base (.lst h)
    · exact .base (.frz h)
    · exact .kList l c
  | tup hs _ =>
    rcases hs with (h | ⟨o, h⟩) | ⟨o, its, n, l, c, _⟩
    · exact .base (.tup h)
    · exact .fTuple h
    · exact .kTuple l c
def isI : PyData → Bool
  | .int _ => true
  | .bool _ => true
  | _ => false
def isB : PyData → Bool
  | .bool _ => true
  | _ => false
def isL : PyData → Bool
  | .list _ => true
  | _ => false
def isT : PyData → Bool
  | .tuple _ => true
  | _ => false
section
variable {K : PySem.W.Frag}
theorem kit_int : ∀ d : PyData, PySem.W.kitOne K (.type (tyD d)) (.type "int") = some (isI d)
  | .none => kit_ty (show kitB "NoneType" "int" = some false by decide +kernel)
  | .bool _ => kit_ty (show kitB "bool" "int" = some true by decide +kernel)
  | .int _ => kit_ty (show kitB "int" "int" = some true by decide +kernel)
  | .str _ => kit_ty (show kitB "str" "int" = some false by decide +kernel)
  | .list _ => kit_ty (show kitB "list" "int" = some false by decide +kernel)
  | .tuple _ => kit_ty (show kitB "tuple" "int" = some false by decide +kernel)
  | .dict _ => kit_ty (show kitB "dict" "int" = some false by decide +kernel)
theorem kit_bool : ∀ d : PyData, PySem.W.kitOne K (.type (tyD d)) (.type "bool") = some (isB d)
  | .none => kit_ty (show kitB "NoneType" "bool" = some false by decide +kernel)
  | .bool _ => kit_ty (show kitB "bool" "bool" = some true by decide +kernel)
  | .int _ => kit_ty (show kitB "int" "bool" = some false by decide +kernel)
  | .str _ => kit_ty (show kitB "str" "bool" = some false by decide +kernel)
  | .list _ => kit_ty (show kitB "list" "bool" = some false by decide +kernel)
  | .tuple _ => kit_ty (show kitB "tuple" "bool" = some false by decide +kernel)
  | .dict _ => kit_ty (show kitB "dict" "bool" = some false by decide +kernel)
theorem kit_list : ∀ d : PyData, PySem.W.kitOne K (.type (tyD d)) (.type "list") = some (isL d)
  | .none => kit_ty (show kitB "NoneType" "list" = some false by decide +kernel)
  | .bool _ => kit_ty (show kitB "bool" "list" = some false by decide +kernel)
  | .int _ => kit_ty (show kitB "int" "list" = some false by decide +kernel)
  | .str _ => kit_ty (show kitB "str" "list" = some false by decide +kernel)
  | .list _ => kit_ty (show kitB "list" "list" = some true by decide +kernel)
  | .tuple _ => kit_ty (show kitB "tuple" "list" = some false by decide +kernel)
  | .dict _ => kit_ty (show kitB "dict" "list" = some false by decide +kernel)
theorem kit_tuple : ∀ d : PyData, PySem.W.kitOne K (.type (tyD d)) (.type "tuple") = some (isT d)
  | .none => kit_ty (show kitB "NoneType" "tuple" = some false by decide +kernel)
  | .bool _ => kit_ty (show kitB "bool" "tuple" = some false by decide +kernel)
  | .int _ => kit_ty (show kitB "int" "tuple" = some false by decide +kernel)
  | .str _ => kit_ty (show kitB "str" "tuple" = some false by decide +kernel)
  | .list _ => kit_ty (show kitB "list" "tuple" = some false by decide +kernel)
  | .tuple _ => kit_ty (show kitB "tuple" "tuple" = some true by decide +kernel)
  | .dict _ => kit_ty (show kitB "dict" "tuple" = some false by decide +kernel)
/-- data, or an empty dict, which Dp does not tell -/
def Kd (K : PySem.W.Frag) (H : Hp) (v : V) (d : PyData) : Prop := TyX K H v (.type (tyD d)) ∧ ((∀ e, d ≠ .dict e) → Dp K H v d)
theorem kd_of {H : Hp} {v : V} {d : PyData} (h : Dp K H v d) : Kd K H v d := ⟨tyx_of h, fun _ => h⟩
theorem kd_dict {H : Hp} {a : Addr} {kvs : List (Key × V)} (h : H a = some (.dK kvs)) : Kd K H (.ref a) (.dict []) := ⟨.base (.dK h), fun z => absurd rfl (z [])⟩
end
/-! ### numbers -/
theorem emod_b {x n : Int} (h : 0 < n) : 0 ≤ x % n ∧ x % n < n := ⟨Int.emod_nonneg _ (by omega), Int.emod_lt_of_pos _ h⟩
theorem wrap_ne {a n u : Int} (ha : 0 ≤ a) (hn : a < n) (hu : 0 ≤ u) (hu' : u < n - 1) : a ≠ (a + 1 + u) % n := by
  intro e
  by_cases h : a + 1 + u < n
  · rw [Int.emod_eq_of_lt (by omega) h] at e
    omega
  · have e2 : (a + 1 + u) % n = a + 1 + u - n := by
      rw [← Int.sub_emod_right, Int.emod_eq_of_lt (by omega) (by omega)]
    omega
/-! ### lists of debts that grow -/
section
variable {K : PySem.W.Frag} {H : Hp}
theorem dm_set {l : Addr} {vs ws : List V} {ds : List Debt} (h : H l = some (.lst vs)) (hw : DVs K H ws ds) : DM K (upd H l (.lst ws)) l ds := ⟨ws, upd_same, dvs_mut h hw⟩
theorem dv_new {p : Addr} {d : Debt} (h : H p = some (.tup (tV d))) : DV K H (.ref p) d := ⟨p, rfl, SqT.of h⟩
theorem dvs_one {v : V} {d : Debt} (h : DV K H v d) : DVs K H [v] [d] := .cons h .nil
end
theorem goods_app {n : Int} {ds es : List Debt} (h : Goods n ds) (h' : Goods n es) : Goods n (ds ++ es) := fun d hd => (List.mem_append.mp hd).elim (h d) (h' d)
theorem goods_one {n : Int} {d : Debt} (h : Good n d) : Goods n [d] := fun e he => by
  rw [List.mem_singleton.mp he]
  exact h
theorem goods_nil {n : Int} : Goods n [] := fun _ h => nomatch h
theorem goods_take {n : Int} {ds : List Debt} (k : Nat) (h : Goods n ds) : Goods n (ds.take k) := fun d hd => h d (List.mem_of_mem_take hd)
theorem goods_drop {n : Int} {ds : List Debt} (k : Nat) (h : Goods n ds) : Goods n (ds.drop k) := fun d hd => h d (List.mem_of_mem_drop hd)
theorem dpA_3 {K : PySem.W.Frag} {H : Hp} {vs : List V} {d1 d2 d3 : PyData} (h : DpAll K H vs [d1, d2, d3]) : ∃ v1 v2 v3, vs = [v1, v2, v3] ∧ Dp K H v1 d1 ∧ Dp K H v2 d2 ∧ Dp K H v3 d3 := by
  cases h with
  | cons h1 h =>
    cases h with
    | cons h2 h =>
      cases h with
      | cons h3 h =>
        cases h
        exact ⟨_, _, _, rfl, h1, h2, h3⟩
end Cd

/-! Clearday: errors. -/
namespace Cd
open PySem PySem.Spec PyProof.Rows L2

/-- an error class of the text, without a body, somewhere under ValueError -/
structure ExcOf (K : PySem.W.Frag) (mg : Str → Option Value) (x : Str) (C : Addr) : Prop where
  g : mg x = some (.ref C)
  e : PySem.W.excIn K C [.type "ValueError", .type "Exception", .type "BaseException", .type "object"] "ValueError.__new__" = true
  k : PySem.W.keepIn K (.ref C) = true
  b : PySem.W.subIn K (.ref C) (.type "BaseException") = some true
  t : PySem.W.typeIn K (.ref C) = some (.type "type")
theorem excOf_mk {K : PySem.W.Frag} {mg : Str → Option Value} {h : Heap} {x : Str} {C : Addr} (X : K.In h) (G : h.Ns mainGlobals mg) (a : PySem.W.nsIn K mainGlobals x = some (some (.ref C)))
    (e : PySem.W.excIn K C [.type "ValueError", .type "Exception", .type "BaseException", .type "object"] "ValueError.__new__" = true) (k : PySem.W.keepIn K (.ref C) = true) (b : PySem.W.subIn K (.ref C) (.type "BaseException") = some true) (t : PySem.W.typeIn K (.ref C) = some (.type "type")) : ExcOf K mg x C :=
  ⟨PySem.W.mg_of X G a, e, k, b, t⟩
section
variable {X : Cx} {C : Addr} {x : Str} {p pos : Pos} {e : Expr} {es : List Expr} {t : TA}
/-- X(e, ..) raised -/
theorem pmk_x (F : ExcOf X.K X.mg x C) (ha : PA X (e :: es) t) (hg : Gl X x) (hdb : (x == ("__debug__" : Str)) = false := by decide)
    (he : starEach (e :: es) X.env = (false, eval e X.env) :: starEach es X.env := by rfl) (hpl : (backTo pos (starEach es X.env)).any (·.1) = false := by rfl) :
    L2N.PMk X (.Call (.Name x p) (e :: es) [] pos) (fun σ H Q => t σ H fun vs H1 => vs.length ≤ 100 ∧ Q (.ref C) none H1) := by
  intro pins s σ H Q I h
  refine wpAny_Call_Name_kw (ld_glob I hg F.g ?_ hdb)
  refine PySem.W.callWith_K (h₀ := X.base) I.ok.mod.kin F.k (thn (ha.run pos pins s σ H _ I h) fun us s1 hv => ?_) he hpl
  obtain ⟨vs, H1, I1, r1, hz, q1⟩ := hv
  refine ⟨I1.kIn, ?_⟩
  obtain ⟨bm, N, nm, qn, bs, hdct, sn, sub, ab, col, dd, k0, k1, k2, k3, k5, mN, hC, hN, hni, T⟩ := exc_obj I1.kIn F.e
  show wpAny _ _ (call (.ref C) us) _ _ _
  have hus : us.length ≤ sizeLine := by
    rw [← r1.length]
    exact szn (by omega)
  exact wpAny_call_exc_subT PySem.F.excBase_ValueError T hC hN hni (fun h' a hm => L2N.mk_of I1 hm (raises_own F.b F.t) q1 (I1.hok.gone hm.new)) hus
theorem passN : Passes (L2N.CX X.prog X.w) X E0 := fun _ _ _ _ _ _ _ h => by
  obtain ⟨_, _, _, _, _, _, _, _, _, _, _, _, z⟩ := h
  exact z.elim
end
section
variable {P : Program} {w : World} {K : PySem.W.Frag} {mg : Str → Option Value} {base : Heap}
/-- as DefAt.ok, for a def that errors leave -/
theorem DefAt.okN {x : Str} {st : Stmt} {N ps : List Str} {k : Nat} {sp : Sp} (D : DefAt K mg x st) (S : FnScope N ps (defScope st)) (hb : BindsBy x st ps) (len : ∀ vs H Q E, sp vs H Q E → vs.length = ps.length)
    (hbody : ∀ (f : Addr) (cdv : Value) (A : Around) (outer : List Env) (s : Shared) (H : Hp) (vs : List V) (Q : VK) (E : XK), Room k (A.deeper (envOfC x (defScope st) s.heap.objs.size f cdv)) → sp vs H Q E →
      ∃ t, PSs (cxOf (L2N.CX P w) P w K mg base N x (defScope st) f cdv A outer s H E) (defBody st) t ∧ t { nx := fun _ H' => Q .non H', rt := Q } (start N vs) H) : Cal P w K mg base (L2N.CX P w) (k + 1) x ps sp := by
  obtain ⟨f, fd, F, m⟩ := D
  obtain ⟨oc, od, kV, doc, pm, an, cdv, ct, osl, rfl, lk, hcd⟩ := F.ex
  refine ⟨f, _, ?_, m, F.kp, F.binds hb, oc, od, osl, lk⟩
  exact fn_of lk hcd S len fun A outer s H vs Q E hr hsp => hbody f cdv A outer s H vs Q E hr hsp
end
/-! ### a message's length -/
theorem msg_add {a b : Str} {m n : Nat} (h1 : a.length ≤ m) (h2 : b.length ≤ n) : (a ++ b).length ≤ m + n := by
  have e : (a ++ b).length = a.length + b.length := by
    show (a.cps ++ b.cps).size = _
    rw [Array.size_append]
    rfl
  omega
theorem msg_int {i : Int} (h : i.natAbs < 2 ^ 1900) : i.natAbs.log2 < 1920 := by
  by_cases h0 : i.natAbs = 0
  · rw [h0]
    decide
  · rw [Nat.log2_lt h0]
    exact Nat.lt_trans h (Nat.pow_lt_pow_right (by decide) (by decide))
section
variable {σ : L2.St} {H : Hp} {Q : Str → Hp → Prop} {acc s : Str} {ts : List TE} {m n : Nat} {i : Int} {k : Nat}
theorem js_end (h : Q acc H) : tJs [] acc σ H Q := h
theorem js_c (ha : acc.length ≤ m) (hs : s.length ≤ n) (hm : m + n ≤ 100000) (h : ∀ a : Str, a.length ≤ m + n → tJs ts a σ H Q) : tJs (tC (.str s) :: ts) acc σ H Q :=
  ⟨s, rfl, szn (Nat.le_trans (msg_add ha hs) hm), h _ (msg_add ha hs)⟩
theorem js_k (ha : acc.length ≤ m) (hi : i.natAbs < 2 ^ 1900) (hm : m + 1921 ≤ 100000) (h : ∀ a : Str, a.length ≤ m + 1921 → tJs ts a σ H Q) : tJs (tFmt (tC (.int i)) :: ts) acc σ H Q :=
  .inr ⟨i, rfl, msg_int hi, _, rfl, szn (Nat.le_trans (msg_add ha (int_text_len_1921 (msg_int hi))) hm), h _ (msg_add ha (int_text_len_1921 (msg_int hi)))⟩
theorem js_v (ha : acc.length ≤ m) (hx : σ[k]? = some (some (.int i))) (hi : i.natAbs < 2 ^ 1900) (hm : m + 1921 ≤ 100000) (h : ∀ a : Str, a.length ≤ m + 1921 → tJs ts a σ H Q) : tJs (tFmt (tVar k) :: ts) acc σ H Q :=
  ⟨_, hx, .inr ⟨i, rfl, msg_int hi, _, rfl, szn (Nat.le_trans (msg_add ha (int_text_len_1921 (msg_int hi))) hm), h _ (msg_add ha (int_text_len_1921 (msg_int hi)))⟩⟩
theorem small_pow {i : Int} (h : i.natAbs < 2 ^ 64) : i.natAbs < 2 ^ 1900 := Nat.lt_of_lt_of_le h (Nat.pow_le_pow_right (by decide) (by decide))
end
end Cd

/-! Clearday: data compared; sums. -/
namespace Cd
open PySem PySem.Spec PyProof.Rows L2

/-- data of depth k at most, without dicts -/
def Sh (k : Nat) (d : PyData) : Prop := d.canLay0 = true ∧ d.depth ≤ k
theorem Sh.shaped {k : Nat} {d : PyData} (h : Sh k d) (hk : k ≤ 64) : SeqAt.shaped d = true := by
  unfold SeqAt.shaped
  rw [h.1, decide_eq_true (Nat.le_trans h.2 hk)]
  rfl
theorem sh_int (i : Int) : Sh 0 (.int i) := ⟨by unfold PyData.canLay0; rfl, by unfold PyData.depth; exact Nat.le_refl _⟩
theorem sh_bool (b : Bool) : Sh 0 (.bool b) := ⟨by unfold PyData.canLay0; rfl, by unfold PyData.depth; exact Nat.le_refl _⟩
theorem sh_all {k : Nat} : ∀ {ds : List PyData}, (∀ d ∈ ds, Sh k d) → PyData.canLayAll0 ds = true ∧ PyData.depthAll ds ≤ k
  | [], _ => ⟨by unfold PyData.canLayAll0; rfl, by unfold PyData.depthAll; exact Nat.zero_le _⟩
  | d :: ds, h => by
    have h1 := h d List.mem_cons_self
    have h2 := sh_all (ds := ds) fun e he => h e (List.mem_cons_of_mem _ he)
    refine ⟨?_, ?_⟩
    · unfold PyData.canLayAll0
      rw [h1.1, h2.1]
      rfl
    · unfold PyData.depthAll
      exact Nat.max_le.mpr ⟨h1.2, h2.2⟩
theorem sh_list {k : Nat} {ds : List PyData} (h : ∀ d ∈ ds, Sh k d) : Sh (k + 1) (.list ds) := by
  have z := sh_all h
  refine ⟨?_, ?_⟩
  · unfold PyData.canLay0
    exact z.1
  · unfold PyData.depth
    have := z.2
    omega
theorem sh_tuple {k : Nat} {ds : List PyData} (h : ∀ d ∈ ds, Sh k d) : Sh (k + 1) (.tuple ds) := by
  have z := sh_all h
  refine ⟨?_, ?_⟩
  · unfold PyData.canLay0
    exact z.1
  · unfold PyData.depth
    have := z.2
    omega
theorem Sh.mono {j k : Nat} {d : PyData} (h : Sh j d) (e : j ≤ k) : Sh k d := ⟨h.1, Nat.le_trans h.2 e⟩
theorem sh_ints (ns : List Int) : Sh 1 (.list (ns.map PyData.int)) := sh_list fun d hd => by
  obtain ⟨i, _, rfl⟩ := List.mem_map.mp hd
  exact sh_int i
theorem sh_enc (d : Debt) : Sh 1 (enc d) := sh_tuple fun e he => by
  simp only [encT, List.mem_cons, List.not_mem_nil, or_false] at he
  rcases he with rfl | rfl | rfl <;> exact sh_int _
theorem sh_encs (ds : List Debt) : Sh 2 (.list (encs ds)) := sh_list fun d hd => by
  obtain ⟨e, _, rfl⟩ := List.mem_map.mp hd
  exact sh_enc e
theorem eqv_self {d : PyData} {k : Nat} (h : Sh k d) : PyData.eqv d d = true := SeqAt.eqv_refl d h.1
theorem eqvAll_ints : ∀ ns ms : List Int, PyData.eqvAll (ns.map PyData.int) (ms.map PyData.int) = decide (ns = ms)
  | [], [] => by simp [PyData.eqvAll]
  | [], _ :: _ => by simp [PyData.eqvAll]
  | _ :: _, [] => by simp [PyData.eqvAll]
  | n :: ns, m :: ms => by
    have ih := eqvAll_ints ns ms
    simp only [List.map_cons]
    unfold PyData.eqvAll
    rw [ih]
    unfold PyData.eqv
    by_cases h1 : n = m
    · by_cases h2 : ns = ms
      · simp [h1, h2]
      · simp [h1, h2]
    · simp [h1]
theorem eqv_ints (ns ms : List Int) : PyData.eqv (.list (ns.map PyData.int)) (.list (ms.map PyData.int)) = decide (ns = ms) := by
  unfold PyData.eqv
  exact eqvAll_ints ns ms
theorem eqv_intsL {K : PySem.W.Frag} {H : Hp} {a : Addr} {ns : List Int} (h : SqL K H a (ns.map V.int)) : Dp K H (.ref a) (.list (ns.map PyData.int)) := .lst h (dpA_ints ns)

/-! ### balances -/
def addAt (l : List Int) (i x : Int) : List Int := l.set i.toNat (l.getD i.toNat 0 + x)
def balStep (l : List Int) (d : Debt) : List Int := addAt (addAt l d.1 (-d.2.2)) d.2.1 d.2.2
def bal (n : Int) (ds : List Debt) : List Int := ds.foldl balStep (List.replicate n.toNat 0)
theorem addAt_len (l : List Int) (i x : Int) : (addAt l i x).length = l.length := List.length_set
theorem balStep_len (l : List Int) (d : Debt) : (balStep l d).length = l.length := by
  unfold balStep
  rw [addAt_len, addAt_len]
theorem balFold_len : ∀ (ds : List Debt) (l : List Int), (ds.foldl balStep l).length = l.length
  | [], _ => rfl
  | d :: ds, l => by
    rw [List.foldl_cons, balFold_len ds, balStep_len]
theorem bal_len (n : Int) (ds : List Debt) : (bal n ds).length = n.toNat := by
  unfold bal
  rw [balFold_len, List.length_replicate]
theorem bal_take {n : Int} {ds : List Debt} {i : Nat} {d : Debt} (h : ds[i]? = some d) : bal n (ds.take (i + 1)) = balStep (bal n (ds.take i)) d := by
  unfold bal
  rw [List.take_add_one, h, List.foldl_append]
  rfl
/-- the houses of a debt are houses -/
structure InB (n : Int) (d : Debt) : Prop where
  a0 : 0 ≤ d.1
  an : d.1 < n
  b0 : 0 ≤ d.2.1
  bn : d.2.1 < n
theorem Good.inb {n : Int} {d : Debt} (h : Good n d) : InB n d := ⟨h.a0, h.an, h.b0, h.bn⟩
/-- reading and storing an item of a list of ints -/
theorem at_int {l : List Int} {i : Int} (h0 : 0 ≤ i) (h1 : i < (l.length : Int)) : atI (l.map V.int) i = some (.int (l.getD i.toNat 0)) := by
  refine at_of (j := i.toNat) (by omega) ?_
  rw [List.getElem?_map, List.getD_eq_getElem?_getD, List.getElem?_eq_getElem (by omega)]
  rfl
theorem ix_int {l : List Int} {i : Int} (h0 : 0 ≤ i) (h1 : i < (l.length : Int)) : ixN (l.map V.int).length i = some i.toNat := by
  rw [List.length_map]
  unfold ixN
  rw [if_pos h0, if_pos h1]
theorem set_int {l : List Int} {j : Nat} {x : Int} : (l.map V.int).set j (.int x) = (l.set j x).map V.int := by
  rw [List.map_set]
/-! ### relations by name -/
def rLenQ (K : PySem.W.Frag) : List V → Hp → VK → Prop := fun xs H Q => ∃ p ys, xs = [.ref p] ∧ (SqL K H p ys ∨ SqT K H p ys) ∧ Q (.int ys.length) H
def rListQ (K : PySem.W.Frag) : List V → Hp → VK → Prop := fun xs H Q => ∃ p ys, xs = [.ref p] ∧ (SqL K H p ys ∨ SqT K H p ys) ∧ ∀ l, H l = none → Q (.ref l) (upd H l (.lst ys))
def rTupQ (K : PySem.W.Frag) : List V → Hp → VK → Prop := fun xs H Q => ∃ p ys, xs = [.ref p] ∧ ((SqL K H p ys ∧ ∀ l, H l = none → Q (.ref l) (upd H l (.tup ys))) ∨ (SqT K H p ys ∧ Q (.ref p) H))
end Cd

/-! Clearday: a def of the law that is handed the error which is handled. -/
namespace Cd
open PySem PySem.Spec PyProof.Rows L2

/-- as Cal, for a def that is called within an except suite; its promise knows the object of the handled error -/
structure CalE (P : Program) (w : World) (K : PySem.W.Frag) (mg : Str → Option Value) (base : Heap) (k : Nat) (x : Str) (ps : List Str) (sp : Addr × Obj → Sp) : Prop where
  ex : ∃ f fd, mg x = some (.ref f) ∧ PySem.W.keepIn K (.ref f) = true ∧ Binds K fd ps [] ∧ (∀ p vs H Q E, sp p vs H Q E → vs.length = ps.length) ∧
    ∀ (A : Around) (outer : List Env) (s : Shared) (H : Hp) (args : Args) (us : List Value) (vs : List V) (Q : VK) (E : XK) (p : Addr × Obj), L2H.RoomH k A → L2H.Hot1 A p → L2H.PinOk outer H s p →
      Env0 P w K mg base A outer s H → BindsTo s fd args (ps.zip us) → Vals vs us → sp p vs H Q E → codeAny (model P w) A (.call (.ref f) args) (CR CX0 outer P w H s Q E) s
section
variable {P : Program} {w : World} {K : PySem.W.Frag} {mg : Str → Option Value} {base : Heap}
theorem DefAt.okE {x : Str} {st : Stmt} {N ps : List Str} {k : Nat} {sp : Addr × Obj → Sp} (D : DefAt K mg x st) (S : FnScope N ps (defScope st)) (hb : BindsBy x st ps) (len : ∀ p vs H Q E, sp p vs H Q E → vs.length = ps.length)
    (hbody : ∀ (f : Addr) (cdv : Value) (A : Around) (outer : List Env) (s : Shared) (H : Hp) (vs : List V) (Q : VK) (E : XK) (p : Addr × Obj), L2H.Hot1 A p → L2H.RoomH k (A.deeper (envOfC x (defScope st) s.heap.objs.size f cdv)) → sp p vs H Q E →
      ∃ t, PSs (L2H.cxH CX0 P w K mg base N x (defScope st) f cdv A outer s H E p).nox (defBody st) t ∧ t { nx := fun _ H' => Q .non H', rt := Q } (L2.start N vs) H) : CalE P w K mg base (k + 1) x ps sp := by
  obtain ⟨f, fd, F, m⟩ := D
  obtain ⟨oc, od, kV, doc, pm, an, cdv, ct, osl, rfl, lk, hcd⟩ := F.ex
  refine ⟨f, _, m, F.kp, F.binds hb, len, fun A outer s H args us vs Q E p room hot pin e0 bt rel hsp => ?_⟩
  have kin : K.In s.heap := e0.mod.kin.keeps fun b o e => (e0.bs b o e).1
  have nolim : s.heap.NoLimit := e0.mod.nolimit.keeps fun b o e => (e0.bs b o e).1
  have kinds : ∀ y ∈ ps.zip us, (defScope st).names.lookup y.1 = some .local ∨ ((defScope st).names.lookup y.1 = some .cell ∧ ((cellsFrom (s.heap.objs.size + 1) (defScope st).names []).lookup y.1).isSome = true) := by
    rintro ⟨n, v⟩ hy
    rcases S.par n (List.of_mem_zip hy).1 with q | q
    · exact Or.inl q
    · exact Or.inr ⟨q, PySem.W.cellsFrom_some _ _ _ (Or.inl q)⟩
  refine codeAny_call_function room.depth (kin _ _ lk) rfl S.co S.gen rfl (PySem.W.codeRec_of kin hcd) (bt _ _ _ _ ?_)
  refine wpAny_newFunctionEnv_cells S.kind kinds fun env he s1 inc => ?_
  subst he
  refine ⟨nolim.keeps inc.toInCall.keep, codeAny_func ?_⟩
  obtain ⟨t, ht, hq⟩ := hbody f cdv A outer s H vs Q E p hot (room.deeper _) hsp
  have I0 : Inv (L2H.cxH CX0 P w K mg base N x (defScope st) f cdv A outer s H E p) [] (L2.start N vs) H s1 := L2H.inv_startH S pin e0 (len _ _ _ _ _ hsp) rel inc
  refine wpAny_mono (ht.nox.run [] s1 (L2.start N vs) H _ I0 hq) (fun fl s2 hs => ?_) fun e s2 hs => hs
  cases fl with
  | ret u =>
    obtain ⟨v, σ2, H2, J, rv, q⟩ := hs
    exact ⟨v, H2, J.os, J.bare, J.base, J.hok, rv, q⟩
  | next =>
    obtain ⟨σ2, H2, J, q⟩ := hs
    exact ⟨V.non, H2, J.os, J.bare, J.base, J.hok, rfl, q⟩
  | brk =>
    obtain ⟨_, _, _, q⟩ := hs
    exact q.elim
  | cont =>
    obtain ⟨_, _, _, q⟩ := hs
    exact q.elim
end
section
variable {X : Cx} {k : Nat} {ps : List Str} {sp : Addr × Obj → Sp} {x : Str} {q pos : Pos} {e : Expr} {es : List Expr} {t : TA} {p : Addr × Obj}
theorem pe_calE (c : CalE X.prog X.w X.K X.mg X.base k x ps sp) (hr : L2H.RoomH k X.A) (hot : L2H.Hot1 X.A p) (hp : p ∈ X.pn) (hg : Gl X x) (ha : PA X (e :: es) t) (hdb : (x == ("__debug__" : Str)) = false := by decide)
    (he : starEach (e :: es) X.env = (false, eval e X.env) :: starEach es X.env := by rfl) (hpl : (backTo pos (starEach es X.env)).any (·.1) = false := by rfl) :
    PE X (.Call (.Name x q) (e :: es) [] pos) (fun σ H Q => t σ H fun vs H1 => sp p vs H1 Q E0) := by
  obtain ⟨f, fd, m, kp, hb, len, run⟩ := c.ex
  refine ⟨fun pins s σ H Q I h => ?_⟩
  refine wpAny_Call_Name_kw (ld_glob I hg m ?_ hdb)
  refine PySem.W.callWith_K (h₀ := X.base) I.ok.mod.kin kp (thn (ha.run pos pins s σ H _ I h) fun us s1 hv => ?_) he hpl
  obtain ⟨vs, H1, I1, r, hsp⟩ := hv
  refine ⟨I1.kIn, ?_⟩
  have hl : us.length = ps.length := by
    rw [← r.length]
    exact len _ _ _ _ _ hsp
  have bt := hb s1 us I1.kIn (by rw [List.append_nil]; exact hl)
  rw [List.append_nil] at bt
  have pin1 := I1.pin p (List.mem_append_left _ hp)
  have pin : L2H.PinOk X.stack H1 s1 p := ⟨pin1.1, pin1.2.1, fun hm => (List.mem_cons.mp (I1.stkSub p.1 hm)).elim pin1.2.2.1 pin1.2.2.2.1, pin1.2.2.2.2⟩
  show wpAny _ _ (call (.ref f) us) _ _ _
  refine wpAny_call (codeAny_mono (run X.A X.stack s1 H1 ⟨us, []⟩ us vs Q E0 p hr hot pin I1.env0 bt r hsp) fun r2 s2 hq => ?_)
  cases r2 with
  | error e2 => exact False.elim hq
  | ok fl =>
    cases fl with
    | ret u => exact I1.after hq
    | next => exact False.elim hq
    | brk => exact False.elim hq
    | cont => exact False.elim hq
/-- isinstance(e, c), e the handled error, kept by a pin of the context -/
theorem call_isP {D : Addr} (C : ExcC X.K D) (hp : p ∈ X.pn) (hz : Zc (.ref D) none p.2) (hf : ∃ vs, p.2.data = .fields vs) : CallR X (.builtin "isinstance") (rIsE X.K D p.1) := by
  intro pins s σ H xs us Q I r h
  obtain ⟨c, cv, b, rfl, hcv, e, q⟩ := h
  obtain ⟨u1, u2, rfl, r1, r2⟩ := vals2 r
  have e1 : u1 = Value.ref p.1 := r1
  have e2 := hcv _ r2
  subst e1 e2
  have pin1 := I.pin p (List.mem_append_left _ hp)
  obtain ⟨vs, hv⟩ := hf
  have at_ : PySem.W.InstAt s.heap p.1 p.2 D none := by
    have h0 := pin1.1
    obtain ⟨a, oc, od, oda, osl⟩ := p
    obtain ⟨z1, z2⟩ := hz
    dsimp only at z1 z2 hv h0
    subst z1 z2 hv
    exact ⟨h0, rfl, rfl, trivial⟩
  exact PySem.W.kia_one (PySem.W.handS_kitx_exc C.hg C.hk C.hs C.hd C.ha C.hn C.ht C.hm) I.kIn at_ e (fun z => nomatch z) fun tk => ⟨.bl b, H, I.tok tk, rfl, q⟩
end
/-- the nine classes of refusals -/
structure Nine (mg : Str → Option Value) (C0 C1 C2 C3 C4 C5 C6 C7 C8 : Addr) : Prop where
  BadCount : mg "BadCount" = some (.ref C0)
  BadDebt : mg "BadDebt" = some (.ref C1)
  BadCut : mg "BadCut" = some (.ref C2)
  Uneven : mg "Uneven" = some (.ref C3)
  BadPrices : mg "BadPrices" = some (.ref C4)
  NotBest : mg "NotBest" = some (.ref C5)
  NoDebt : mg "NoDebt" = some (.ref C6)
  NoHouse : mg "NoHouse" = some (.ref C7)
  BadAmount : mg "BadAmount" = some (.ref C8)
theorem nine_mk {K : PySem.W.Frag} {mg : Str → Option Value} {h : Heap} {C0 C1 C2 C3 C4 C5 C6 C7 C8 : Addr} (X : K.In h) (G : h.Ns mainGlobals mg) (a0 : PySem.W.nsIn K mainGlobals "BadCount" = some (some (.ref C0))) (a1 : PySem.W.nsIn K mainGlobals "BadDebt" = some (some (.ref C1))) (a2 : PySem.W.nsIn K mainGlobals "BadCut" = some (some (.ref C2)))
    (a3 : PySem.W.nsIn K mainGlobals "Uneven" = some (some (.ref C3))) (a4 : PySem.W.nsIn K mainGlobals "BadPrices" = some (some (.ref C4))) (a5 : PySem.W.nsIn K mainGlobals "NotBest" = some (some (.ref C5))) (a6 : PySem.W.nsIn K mainGlobals "NoDebt" = some (some (.ref C6)))
    (a7 : PySem.W.nsIn K mainGlobals "NoHouse" = some (some (.ref C7))) (a8 : PySem.W.nsIn K mainGlobals "BadAmount" = some (some (.ref C8))) : Nine mg C0 C1 C2 C3 C4 C5 C6 C7 C8 :=
  ⟨PySem.W.mg_of X G a0, PySem.W.mg_of X G a1, PySem.W.mg_of X G a2, PySem.W.mg_of X G a3, PySem.W.mg_of X G a4, PySem.W.mg_of X G a5, PySem.W.mg_of X G a6, PySem.W.mg_of X G a7, PySem.W.mg_of X G a8⟩
/-- what the class D of an error says of the nine and of ValueError: it is the i-th alone -/
structure KindF (K : PySem.W.Frag) (C0 C1 C2 C3 C4 C5 C6 C7 C8 D : Addr) (i : Nat) : Prop where
  c : ExcC K D
  v : PySem.W.kitOne K (.ref D) (.type "ValueError") = some true
  k0 : PySem.W.kitOne K (.ref D) (.ref C0) = some (i == 0)
  k1 : PySem.W.kitOne K (.ref D) (.ref C1) = some (i == 1)
  k2 : PySem.W.kitOne K (.ref D) (.ref C2) = some (i == 2)
  k3 : PySem.W.kitOne K (.ref D) (.ref C3) = some (i == 3)
  k4 : PySem.W.kitOne K (.ref D) (.ref C4) = some (i == 4)
  k5 : PySem.W.kitOne K (.ref D) (.ref C5) = some (i == 5)
  k6 : PySem.W.kitOne K (.ref D) (.ref C6) = some (i == 6)
  k7 : PySem.W.kitOne K (.ref D) (.ref C7) = some (i == 7)
  k8 : PySem.W.kitOne K (.ref D) (.ref C8) = some (i == 8)
theorem kit_ref {K : PySem.W.Frag} {D C : Addr} {b : Bool} (ht : PySem.W.typeIn K (.ref C) = some (.type "type")) (hc : PySem.W.isClsIn K C = true) (hs : PySem.W.subIn K (.ref D) (.ref C) = some b) (hd : D = C → b = true) : PySem.W.kitOne K (.ref D) (.ref C) = some b := by
  unfold PySem.W.kitOne
  by_cases e : D = C
  · rw [hd e, e, if_pos (beq_self_eq_true _)]
  · rw [if_neg (fun z => e (Value.ref.inj (beq_iff_eq.mp z)))]
    unfold PySem.W.kitCls
    have hc' : (PySem.W.clsIn K C).isSome = true := hc
    dsimp only
    rw [hc', ht, if_pos (by rfl)]
    exact hs
theorem kit_val {K : PySem.W.Frag} {D : Addr} (hs : PySem.W.subIn K (.ref D) (.type "ValueError") = some true) : PySem.W.kitOne K (.ref D) (.type "ValueError") = some true := by
  unfold PySem.W.kitOne
  rw [if_neg (fun z => Value.noConfusion (beq_iff_eq.mp z))]
  unfold PySem.W.kitCls
  dsimp only
  rw [if_pos (show PySem.W.kitMeta "ValueError" = true by decide +kernel)]
  exact hs
def wordOf (i : Nat) : Str := (["count", "debt", "cut", "uneven", "prices", "not best", "number", "house", "amount"] : List Str).getD i "other"
/-- that an error of the class D is caught by the clause over DebtError (at S) -/
structure CatchF (K : PySem.W.Frag) (S D : Addr) : Prop where
  b : PySem.W.subIn K (.ref S) (.type "BaseException") = some true
  d : PySem.W.hasDictIn K S = true
  t : PySem.W.typeIn K (.ref S) = some (.type "type")
  s : PySem.W.subIn K (.ref D) (.ref S) = some true
theorem CatchF.m {K : PySem.W.Frag} {S D : Addr} (c : CatchF K S D) : PySem.W.exmOne K (.ref D) (.ref S) = some true := PySem.W.exm_ref c.b c.d c.t c.s
def spKind (K : PySem.W.Frag) (C0 C1 C2 C3 C4 C5 C6 C7 C8 : Addr) (p : Addr × Obj) : Sp := fun vs H Q _ => vs = [.ref p.1] ∧ ∃ (C : Addr) (i : Nat), L2N.Zn (.ref C) none p.2 ∧ (∃ vs, p.2.data = .fields vs) ∧ KindF K C0 C1 C2 C3 C4 C5 C6 C7 C8 C i ∧ i < 9 ∧ ∀ H', Same H H' → Q (.str (wordOf i)) H'
section
variable {X : Cx} {q pos npos : Pos} {i : Nat} {a : Addr} {oe : Obj} {cls : Value} {d : Option Addr} {pn : List (Addr × Obj)} {C0 C1 C2 C3 C4 C5 C6 C7 C8 : Addr} {x : Str} {k : Nat} {te : TE}
/-- what _law_kind(e) asks in the suite that holds the error at a -/
def tKind (K : PySem.W.Frag) (C0 C1 C2 C3 C4 C5 C6 C7 C8 a : Addr) (cls : Value) (d : Option Addr) (i : Nat) : TE := fun σ H Q => σ[i]? = some (some (.ref a)) ∧ ∃ (C : Addr) (j : Nat), cls = .ref C ∧ d = none ∧ KindF K C0 C1 C2 C3 C4 C5 C6 C7 C8 C j ∧ j < 9 ∧ ∀ H', Same H H' → Q (.str (wordOf j)) H'
theorem pe_kind (hz : L2N.Zn cls d oe) (hf : ∃ vs, oe.data = .fields vs) (c : CalE X.prog X.w X.K X.mg X.base 1 "_law_kind" ["_law_error"] (spKind X.K C0 C1 C2 C3 C4 C5 C6 C7 C8)) (hr : Room 1 X.A)
    (hg : Gl (X.suite a ((a, oe) :: pn)) "_law_kind") (he : PE (X.suite a ((a, oe) :: pn)) (.Name x npos) (tVar i)) :
    PE (X.suite a ((a, oe) :: pn)) (.Call (.Name "_law_kind" q) [.Name x npos] [] pos) (tKind X.K C0 C1 C2 C3 C4 C5 C6 C7 C8 a cls d i) := by
  obtain ⟨vs, hv⟩ := hf
  have hot : L2H.Hot1 (X.suite a ((a, oe) :: pn)).A (a, oe) := ⟨rfl, vs, hv, hz.2.2 vs hv⟩
  have hrm : L2H.RoomH 1 (X.suite a ((a, oe) :: pn)).A := ⟨hr.dp, hr.un⟩
  refine ⟨fun pins s σ H Q I h => ?_⟩
  obtain ⟨hx, C, j, rfl, rfl, kf, hj, k⟩ := h
  exact (pe_calE (X := X.suite a ((a, oe) :: pn)) (p := (a, oe)) c hrm hot List.mem_cons_self hg (pa_cons he pa_nil)).run pins s σ H Q I ⟨_, hx, rfl, C, j, hz, ⟨vs, hv⟩, kf, hj, k⟩
theorem takesN : L2N.Takes X (fun _ _ _ _ => False) := fun _ _ x => by
  obtain ⟨_, _, _, _, _, _, _, _, _, _, _, _, _, _, _, _, z⟩ := x
  exact z.elim
end
section
variable {X : Cx} {CX : CXT} {k : Nat} {ps : List Str} {sp : Sp} {E : L2.St → XK} {x : Str} {p pos : Pos} {e : Expr} {es : List Expr} {t : TA}
/-- a call in a try's body -/
theorem pe_calS (c : Cal X.prog X.w X.K X.mg X.base CX k x ps sp) (hr : Room k X.A) (hg : Gl X x) (hx : ∀ σ, PassesAt CX X σ (E σ)) (ha : PA X (e :: es) t) (hdb : (x == ("__debug__" : Str)) = false := by decide)
    (he : starEach (e :: es) X.env = (false, eval e X.env) :: starEach es X.env := by rfl) (hpl : (backTo pos (starEach es X.env)).any (·.1) = false := by rfl) : PE X (.Call (.Name x p) (e :: es) [] pos) (tCallS sp E t) := by
  obtain ⟨f, fd, F, m, kp, b, _⟩ := c.ex
  exact pe_callS F hr hg m kp b hx ha hdb he hpl
end
end Cd

/-! Clearday: what an expression gives, as data. -/
namespace Cd
open PySem PySem.Spec PyProof.Rows L2

/-- te gives the data d, whatever has come to the heap; all that stood stands -/
def EvD (K : PySem.W.Frag) (te : TE) (σ : L2.St) (H : Hp) (d : PyData) : Prop := ∀ H1, Same H H1 → ∀ Q : VK, (∀ v H2, Same H1 H2 → Dp K H2 v d → Q v H2) → te σ H1 Q
def EvDA (K : PySem.W.Frag) (ta : TA) (σ : L2.St) (H : Hp) (ds : List PyData) : Prop := ∀ H1, Same H H1 → ∀ Q : List V → Hp → Prop, (∀ vs H2, Same H1 H2 → DpAll K H2 vs ds → Q vs H2) → ta σ H1 Q
/-- te gives a list that may be changed -/
def EvL (K : PySem.W.Frag) (te : TE) (σ : L2.St) (H : Hp) (ds : List PyData) : Prop := ∀ H1, Same H H1 → ∀ Q : VK, (∀ p vs H2, Same H1 H2 → H2 p = some (.lst vs) → DpAll K H2 vs ds → Q (.ref p) H2) → te σ H1 Q
/-- a new one -/
def EvM (K : PySem.W.Frag) (te : TE) (σ : L2.St) (H : Hp) (ds : List PyData) : Prop := ∀ H1, Same H H1 → ∀ Q : VK, (∀ p vs H2, Same H1 H2 → H1 p = none → H2 p = some (.lst vs) → DpAll K H2 vs ds → Q (.ref p) H2) → te σ H1 Q
section
variable {K : PySem.W.Frag} {σ : L2.St} {H H' : Hp} {te ta tb : TE} {ts us : TA} {ds es : List PyData} {d e : PyData} {v : V} {i : Nat}
theorem EvM.l (h : EvM K te σ H ds) : EvL K te σ H ds := fun H1 s Q q => h H1 s Q fun p vs H2 s2 _ e a => q p vs H2 s2 e a
theorem EvL.dat (h : EvL K te σ H ds) : EvD K te σ H (.list ds) := fun H1 s Q q => h H1 s Q fun p vs H2 s2 e a => q _ H2 s2 (.lst (SqL.of e) a)
theorem EvM.dat (h : EvM K te σ H ds) : EvD K te σ H (.list ds) := h.l.dat
theorem evd_int (j : Int) : EvD K (tC (.int j)) σ H (.int j) := fun H1 _ _ q => q _ H1 (Same.refl H1) (.int j)
theorem evd_bl (b : Bool) : EvD K (tC (.bl b)) σ H (.bool b) := fun H1 _ _ q => q _ H1 (Same.refl H1) (.bl b)
theorem evd_str (x : Str) : EvD K (tC (.str x)) σ H (.str x) := fun H1 _ _ q => q _ H1 (Same.refl H1) (.str x)
theorem evd_non : EvD K (tC .non) σ H .none := fun H1 _ _ q => q _ H1 (Same.refl H1) .non
theorem evd_var (h : σ[i]? = some (some v)) (hd : Dp K H v d) : EvD K (tVar i) σ H d := fun H1 s _ q => ⟨v, h, q v H1 (Same.refl H1) (s.dp hd)⟩
theorem evd_vint {j : Int} (h : σ[i]? = some (some (.int j))) : EvD K (tVar i) σ H (.int j) := evd_var h (.int j)
theorem evl_var {p : Addr} {vs : List V} (h : σ[i]? = some (some (.ref p))) (hp : H p = some (.lst vs)) (ha : DpAll K H vs ds) : EvL K (tVar i) σ H ds := fun H1 s _ q => ⟨_, h, q p vs H1 (Same.refl H1) (s _ _ hp) (s.dpA ha)⟩
theorem evda_nil : EvDA K tNil σ H [] := fun H1 _ _ q => q [] H1 (Same.refl H1) .nil
theorem evda_cons (h : EvD K te σ H d) (hr : EvDA K ts σ H ds) : EvDA K (tCons te ts) σ H (d :: ds) := fun H1 s _ q => h H1 s _ fun v H2 s2 hd =>
  hr H2 (s.trans s2) _ fun vs H3 s3 ha => q _ H3 (s2.trans s3) (.cons (s3.dp hd) ha)
theorem evd_tup (h : EvDA K ts σ H ds) (hl : ds.length ≤ 100000) : EvD K (tTup ts) σ H (.tuple ds) := fun H1 s _ q => h H1 s _ fun vs H2 s2 ha =>
  ⟨szn (by rw [dpA_len ha]; exact hl), fun p hp => q _ _ (s2.trans (same_new hp)) (.tup (SqT.of upd_same) ((same_new hp).dpA ha))⟩
theorem evm_lst (h : EvDA K ts σ H ds) (hl : ds.length ≤ 100000) : EvM K (tLst ts) σ H ds := fun H1 s _ q => h H1 s _ fun vs H2 s2 ha =>
  ⟨szn (by rw [dpA_len ha]; exact hl), fun p hp => q p vs _ (s2.trans (same_new hp)) (s2.free hp) upd_same ((same_new hp).dpA ha)⟩
theorem evd_lst (h : EvDA K ts σ H ds) (hl : ds.length ≤ 100000) : EvD K (tLst ts) σ H (.list ds) := (evm_lst h hl).dat
theorem evm_cat (h1 : EvL K ta σ H ds) (h2 : EvL K tb σ H es) (hl : ds.length + es.length ≤ 100000) : EvM K (tOp rCat ta tb) σ H (ds ++ es) := fun H1 s _ q => h1 H1 s _ fun p vs H2 s2 e1 a1 =>
  h2 H2 (s.trans s2) _ fun p' vs' H3 s3 e2 a2 => ⟨p, p', vs, vs', rfl, rfl, s3 _ _ e1, e2, szn (by rw [dpA_len a1, dpA_len a2]; exact hl), fun l hl =>
    q l _ _ ((s2.trans s3).trans (same_new hl)) ((s2.trans s3).free hl) upd_same ((same_new hl).dpA (dpA_app (s3.dpA a1) a2))⟩
theorem evd_I0 {f : Int → Int → Int} {j k : Int} (h1 : EvD K ta σ H (.int j)) (h2 : EvD K tb σ H (.int k)) : EvD K (tOp (rI0 fun i j => .int (f i j)) ta tb) σ H (.int (f j k)) := fun H1 s _ q => h1 H1 s _ fun v H2 s2 d1 => by
  cases d1
  refine h2 H2 (s.trans s2) _ fun v H3 s3 d2 => ?_
  cases d2
  exact ⟨j, k, rfl, rfl, q _ H3 (s2.trans s3) (.int _)⟩
theorem evd_I {C : Int → Int → Prop} {f : Int → Int → Int} {j k : Int} (h1 : EvD K ta σ H (.int j)) (h2 : EvD K tb σ H (.int k)) (hc : C j k) : EvD K (tOp (rI C fun i j => .int (f i j)) ta tb) σ H (.int (f j k)) := fun H1 s _ q => h1 H1 s _ fun v H2 s2 d1 => by
  cases d1
  refine h2 H2 (s.trans s2) _ fun v H3 s3 d2 => ?_
  cases d2
  exact ⟨j, k, rfl, rfl, hc, q _ H3 (s2.trans s3) (.int _)⟩
theorem evd_neg {j : Int} (h : EvD K ta σ H (.int j)) : EvD K (tUn (rU fun i => .int (-i)) ta) σ H (.int (-j)) := fun H1 s _ q => h H1 s _ fun v H2 s2 d1 => by
  cases d1
  exact ⟨j, rfl, q _ H2 s2 (.int _)⟩
/-- an item of such a list -/
theorem evd_ix {j : Nat} {k : Int} (h1 : EvL K ta σ H ds) (h2 : EvD K tb σ H (.int k)) (hk : k = (j : Int)) (hj : ds[j]? = some d) : EvD K (tOp (rIxL K) ta tb) σ H d := fun H1 s _ q => h1 H1 s _ fun p vs H2 s2 e1 a1 =>
  h2 H2 (s.trans s2) _ fun v H3 s3 d2 => by
    cases d2
    obtain ⟨v, ev, hv⟩ := dpA_get' (s3.dpA a1) hj
    exact ⟨p, vs, k, v, rfl, rfl, SqL.of (s3 _ _ e1), at_of hk ev, q v H3 (s2.trans s3) hv⟩
theorem EvD.mono (h : EvD K te σ H d) (e : Same H H') : EvD K te σ H' d := fun H1 s Q q => h H1 (e.trans s) Q q
/-- name = e -/
theorem evd_asg {D : Ends} (h : EvD K te σ H d) (q : ∀ v H2, Same H H2 → Dp K H2 v d → D.nx (σ.set i (some v)) H2) : tAsg te (gName i) D σ H := h H (Same.refl H) _ q
theorem evm_asg {D : Ends} (h : EvM K te σ H ds) (q : ∀ p vs H2, Same H H2 → H p = none → H2 p = some (.lst vs) → DpAll K H2 vs ds → D.nx (σ.set i (some (.ref p))) H2) : tAsg te (gName i) D σ H := h H (Same.refl H) _ q
theorem lb {a b : Nat} (h : Nat.ble a b = true) : a ≤ b := Nat.le_of_ble_eq_true h
theorem evd_seq {D : Ends} {tu : TS} (h : EvD K te σ H d) (q : ∀ v H2, Same H H2 → Dp K H2 v d → tu D (σ.set i (some v)) H2) : tSeq (tAsg te (gName i)) tu D σ H := h H (Same.refl H) _ q
theorem evm_seq {D : Ends} {tu : TS} (h : EvM K te σ H ds) (q : ∀ p vs H2, Same H H2 → H p = none → H2 p = some (.lst vs) → DpAll K H2 vs ds → tu D (σ.set i (some (.ref p))) H2) : tSeq (tAsg te (gName i)) tu D σ H := h H (Same.refl H) _ q
theorem evd_ret {D : Ends} (h : EvD K te σ H d) (q : ∀ v H2, Same H H2 → Dp K H2 v d → D.rt v H2) : tRet te D σ H := h H (Same.refl H) _ q
end
/-! ### slices -/
theorem cut_take (xs : List V) {k : Int} (h : 0 ≤ k) : cutV xs none (some k) = xs.take k.toNat := by
  obtain ⟨j, rfl⟩ := Int.eq_ofNat_of_zero_le h
  unfold cutV
  rw [HT.sIx_none, HT.sIx_nat, List.drop_zero, Nat.sub_zero, Int.toNat_natCast]
  rcases Nat.le_total j xs.length with z | z
  · rw [Nat.min_eq_left z]
  · rw [Nat.min_eq_right z, List.take_length, List.take_of_length_le z]
theorem cut_drop (xs : List V) {k : Int} (h : 0 ≤ k) : cutV xs (some k) none = xs.drop k.toNat := by
  obtain ⟨j, rfl⟩ := Int.eq_ofNat_of_zero_le h
  unfold cutV
  rw [HT.sIx_none, HT.sIx_nat, Int.toNat_natCast]
  rcases Nat.le_total j xs.length with z | z
  · rw [Nat.min_eq_left z, List.take_of_length_le (by rw [List.length_drop]; exact Nat.le_refl _)]
  · rw [Nat.min_eq_right z, List.drop_of_length_le z, List.drop_of_length_le (Nat.le_refl _), List.take_nil]
section
variable {K : PySem.W.Frag} {σ : L2.St} {H H' : Hp} {te ta tb : TE} {ds : List PyData} {k : Int}
theorem evm_to (h1 : EvL K ta σ H ds) (h2 : EvD K tb σ H (.int k)) (hk : 0 ≤ k) : EvM K (tSl (rSlL K) ta tNoPart (tPart tb)) σ H (ds.take k.toNat) := fun H1 s _ q => h1 H1 s _ fun p vs H2 s2 e1 a1 =>
  h2 H2 (s.trans s2) _ fun v H3 s3 d2 => by
    cases d2
    refine ⟨k, rfl, p, vs, rfl, SqL.of (s3 _ _ e1), fun l hl => ?_⟩
    rw [cut_take vs hk]
    exact q l _ _ ((s2.trans s3).trans (same_new hl)) ((s2.trans s3).free hl) upd_same ((same_new hl).dpA (dpA_take _ (s3.dpA a1)))
theorem evm_from (h1 : EvL K ta σ H ds) (h2 : EvD K tb σ H (.int k)) (hk : 0 ≤ k) : EvM K (tSl (rSlL K) ta (tPart tb) tNoPart) σ H (ds.drop k.toNat) := fun H1 s _ q => h1 H1 s _ fun p vs H2 s2 e1 a1 =>
  h2 H2 (s.trans s2) _ fun v H3 s3 d2 => by
    cases d2
    refine ⟨k, rfl, p, vs, rfl, SqL.of (s3 _ _ e1), fun l hl => ?_⟩
    rw [cut_drop vs hk]
    exact q l _ _ ((s2.trans s3).trans (same_new hl)) ((s2.trans s3).free hl) upd_same ((same_new hl).dpA (dpA_drop _ (s3.dpA a1)))
end
/-- every law: at every script it gives True -/
def spLaw (K : PySem.W.Frag) : Sp := fun vs H Q _ => ∃ (a : Addr) (ns : List Int), vs = [.ref a] ∧ SqL K H a (ns.map V.int) ∧ ∀ H', Q (.bl true) H'
theorem dm_evl {K : PySem.W.Frag} {σ : L2.St} {H : Hp} {i : Nat} {p : Addr} {ds : List Debt} (h : σ[i]? = some (some (.ref p))) (hd : DM K H p ds) : EvL K (tVar i) σ H (encs ds) := by
  obtain ⟨vs, e, a⟩ := hd
  exact evl_var h e (dvs_dp a)
theorem encs_len (ds : List Debt) : (encs ds).length = ds.length := List.length_map _
theorem encs_take (ds : List Debt) (k : Nat) : (encs ds).take k = encs (ds.take k) := List.map_take.symm
theorem encs_drop (ds : List Debt) (k : Nat) : (encs ds).drop k = encs (ds.drop k) := List.map_drop.symm
end Cd

/-! Clearday: cuts. -/
namespace Cd
open PySem PySem.Spec PyProof.Rows L2

/-! ### any of a list of numbers -/
def someNot (ns : List Int) : Bool := ns.any fun n => n != 0
def rAnyI (K : PySem.W.Frag) : List V → Hp → VK → Prop := fun vs H Q => ∃ (a : Addr) (ns : List Int), vs = [V.ref a] ∧ SqL K H a (ns.map V.int) ∧ Q (.bl (someNot ns)) H
theorem any_places : ∀ ns : List Int, (List.range ns.length).any (fun i => ns.getD i 0 != 0) = someNot ns
  | [] => rfl
  | n :: ns => by
    have ih := any_places ns
    unfold someNot at ih ⊢
    rw [List.length_cons, List.range_succ_eq_map, List.any_cons, List.any_map, List.any_cons, ← ih]
    rfl
theorem truth_nums {prog : Program} {w : World} {A : Around} {ns : List Int} {its : List Value} (e : Vals (ns.map V.int) its) :
    TruthOf prog w A (fun i v => its.toArray[i]? = some v) (fun i => ns.getD i 0 != 0) := fun i v s Q E hv hq => by
  have hv' : its[i]? = some v := by simpa using hv
  have hl := e.length
  have hi : i < its.length := (List.getElem?_eq_some_iff.mp hv').1
  rw [List.length_map] at hl
  have e1 : (ns.map V.int)[i]? = some (.int (ns.getD i 0)) := by
    rw [List.getElem?_map, List.getD_eq_getElem?_getD, List.getElem?_eq_getElem (by omega)]
    rfl
  obtain ⟨u, eu, ru⟩ := e.get e1
  rw [hv'] at eu
  cases eu
  obtain ⟨tk, rfl⟩ := ru
  exact PyProof.Rows.truthy_int hq
theorem cr_anyI {X : Cx} (hc : X.calm = true) : CallR X (.builtin "any") (rAnyI X.K) := by
  intro pins s σ H vs us Q I r h
  obtain ⟨a, ns, rfl, hs, q⟩ := h
  obtain ⟨its, rv, hl, _⟩ := I.list hs
  rw [Vals.ref1 r]
  refine call_any_walk (iter_any hl.isList fun s2 e2 st hne => ?_)
  subst e2
  refine ⟨_, _, _, _, _, _, _, rfl, Walks.list (A := X.A.in1) (I.ok.hd hc) _ a hne its.toArray, st, truth_nums rv, fun h' tk hk => ?_⟩
  have kept : ∀ b o, s.heap.get? b = some o → h'.get? b = some o := fun b o eo => by
    refine hk b o (fun hm => ?_) (Heap.get?_push_of_some _ eo)
    rw [List.mem_singleton] at hm
    rw [hm] at eo
    exact absurd (Heap.lt_size eo) (Nat.lt_irrefl _)
  refine ⟨.bl _, H, I.kept kept, ?_, q⟩
  show Value.bool _ = Value.bool _
  have hn : its.toArray.size = ns.length := by
    rw [List.size_toArray, ← rv.length, List.length_map]
  rw [hn, any_places]

/-! ### what is a cut -/
/-- the numbers of a cut lie within their bounds -/
structure IsCut (ds : List Debt) (cs : List Int) : Prop where
  len : cs.length = ds.length
  at_ : ∀ (i : Nat) (d : Debt) (c : Int), ds[i]? = some d → cs[i]? = some c → 0 ≤ c ∧ c ≤ d.2.2
/-- as data: what check_cut looks at -/
def okCut (ds : List Debt) (d : PyData) : Bool := match d with
  | .list es => decide (es.length = ds.length) && (List.range ds.length).all fun i => isNum (es.getD i .none) 0 ((ds.getD i (0, 0, 0)).2.2)
  | _ => false
/-- debts with other amounts -/
def withAmounts (ds : List Debt) (cs : List Int) : List Debt := ds.zipWith (fun d c => (d.1, d.2.1, c)) cs
/-- what is left -/
def leftOf (ds : List Debt) (cs : List Int) : List Debt := (ds.zip cs).filterMap fun p => if p.2 < p.1.2.2 then some (p.1.1, p.1.2.1, p.1.2.2 - p.2) else none
def evenB (n : Int) (ds : List Debt) (cs : List Int) : Bool := !someNot (bal n (withAmounts ds cs))
theorem num_inv' {d : PyData} {lo hi : Int} (h : isNum d lo hi = true) : ∃ i, d = .int i ∧ lo ≤ i ∧ i ≤ hi := by
  cases d with
  | int i =>
    have h' : (decide (lo ≤ i) && decide (i ≤ hi)) = true := h
    rw [Bool.and_eq_true] at h'
    exact ⟨i, rfl, of_decide_eq_true h'.1, of_decide_eq_true h'.2⟩
  | _ => cases h
theorem okCut_inv {ds : List Debt} {d : PyData} (h : okCut ds d = true) : ∃ cs, d = .list (cs.map PyData.int) ∧ IsCut ds cs := by
  cases d with
  | list es =>
    have h' : (decide (es.length = ds.length) && (List.range ds.length).all fun i => isNum (es.getD i .none) 0 ((ds.getD i (0, 0, 0)).2.2)) = true := h
    rw [Bool.and_eq_true, List.all_eq_true] at h'
    have hl := of_decide_eq_true h'.1
    have hn : ∀ i, i < ds.length → isNum (es.getD i .none) 0 ((ds.getD i (0, 0, 0)).2.2) = true := fun i hi => h'.2 i (List.mem_range.mpr hi)
    refine ⟨es.map fun e => match e with | .int i => i | _ => 0, ?_, ?_, ?_⟩
    · congr 1
      refine List.ext_getElem (by rw [List.length_map, List.length_map]) fun i h1 h2 => ?_
      obtain ⟨k, e, _⟩ := num_inv' (hn i (by omega))
      rw [List.getD_eq_getElem?_getD, List.getElem?_eq_getElem h1] at e
      have e2 : es[i] = .int k := e
      rw [List.getElem_map, List.getElem_map, e2]
    · rw [List.length_map]
      exact hl
    · intro i d c e1 e2
      have hi : i < ds.length := (List.getElem?_eq_some_iff.mp e1).1
      obtain ⟨k, e, k0, k1⟩ := num_inv' (hn i hi)
      have h1 : i < es.length := by omega
      rw [List.getD_eq_getElem?_getD, List.getElem?_eq_getElem h1] at e
      have e3 : es[i] = .int k := e
      rw [List.getElem?_map, List.getElem?_eq_getElem h1, e3] at e2
      cases (Option.some.inj e2 : _ = _)
      rw [List.getD_eq_getElem?_getD, e1] at k1
      exact ⟨k0, k1⟩
  | _ => cases h
theorem okCut_of {ds : List Debt} {cs : List Int} (h : IsCut ds cs) : okCut ds (.list (cs.map PyData.int)) = true := by
  show (decide ((cs.map PyData.int).length = ds.length) && (List.range ds.length).all fun i => isNum ((cs.map PyData.int).getD i .none) 0 ((ds.getD i (0, 0, 0)).2.2)) = true
  rw [List.length_map, h.len, decide_eq_true rfl, Bool.true_and, List.all_eq_true]
  intro i hi
  have hi := List.mem_range.mp hi
  have hc : i < cs.length := by
    rw [h.len]
    exact hi
  have h1 := h.at_ i ds[i] cs[i] (List.getElem?_eq_getElem hi) (List.getElem?_eq_getElem hc)
  rw [List.getD_eq_getElem?_getD, List.getElem?_map, List.getElem?_eq_getElem hc, List.getD_eq_getElem?_getD, List.getElem?_eq_getElem hi]
  show (decide (0 ≤ cs[i]) && decide (cs[i] ≤ ds[i].2.2)) = true
  rw [decide_eq_true h1.1, decide_eq_true h1.2]
  rfl
/-- as zips, turn by turn -/
def leftZ (ps : List (Debt × Int)) : List Debt := ps.filterMap fun p => if p.2 < p.1.2.2 then some (p.1.1, p.1.2.1, p.1.2.2 - p.2) else none
theorem leftZ_add (ps : List (Debt × Int)) (d : Debt) (c : Int) : leftZ (ps ++ [(d, c)]) = leftZ ps ++ (if c < d.2.2 then [(d.1, d.2.1, d.2.2 - c)] else []) := by
  unfold leftZ
  rw [List.filterMap_append]
  congr 1
  by_cases h : c < d.2.2
  · rw [if_pos h]
    simp [h]
  · rw [if_neg h]
    simp [h]
theorem leftZ_len (ps : List (Debt × Int)) : (leftZ ps).length ≤ ps.length := List.length_filterMap_le _ _
theorem zip_take {ds : List Debt} {cs : List Int} {i : Nat} {d : Debt} {c : Int} (h1 : ds[i]? = some d) (h2 : cs[i]? = some c) : (ds.zip cs).take (i + 1) = (ds.zip cs).take i ++ [(d, c)] := by
  have h : (ds.zip cs)[i]? = some (d, c) := by
    rw [List.getElem?_zip_eq_some]
    exact ⟨h1, h2⟩
  rw [List.take_add_one, h]
  rfl
def amtZ (ps : List (Debt × Int)) : List Debt := ps.map fun p => (p.1.1, p.1.2.1, p.2)
theorem amtZ_add (ps : List (Debt × Int)) (d : Debt) (c : Int) : amtZ (ps ++ [(d, c)]) = amtZ ps ++ [(d.1, d.2.1, c)] := by
  unfold amtZ
  rw [List.map_append]
  rfl
theorem amtZ_zip : ∀ (ds : List Debt) (cs : List Int), amtZ (ds.zip cs) = withAmounts ds cs
  | [], _ => rfl
  | _ :: _, [] => rfl
  | d :: ds, c :: cs => by
    have ih := amtZ_zip ds cs
    unfold withAmounts amtZ at ih ⊢
    rw [List.zip_cons_cons, List.map_cons, List.zipWith_cons_cons, ih]
theorem amt_inb {n : Int} {ds : List Debt} {cs : List Int} (h : ∀ d ∈ ds, InB n d) : ∀ d ∈ withAmounts ds cs, InB n d := fun d hd => by
  rw [← amtZ_zip] at hd
  obtain ⟨p, hp, rfl⟩ := List.mem_map.mp hd
  have z := h p.1 (List.of_mem_zip hp).1
  exact ⟨z.a0, z.an, z.b0, z.bn⟩
theorem ints_get {cs : List Int} {i : Nat} {x : V} (h : (cs.map V.int)[i]? = some x) : ∃ c, cs[i]? = some c ∧ x = .int c := by
  rw [List.getElem?_map] at h
  cases e : cs[i]? with
  | none =>
    rw [e] at h
    cases h
  | some c =>
    rw [e] at h
    exact ⟨c, rfl, (Option.some.inj h).symm⟩
/-- data that is a list of numbers, as values -/
theorem dp_ints {K : PySem.W.Frag} {H : Hp} {v : V} {cs : List Int} (h : Dp K H v (.list (cs.map PyData.int))) : ∃ b, v = .ref b ∧ SqL K H b (cs.map V.int) := by
  cases h with
  | lst hs ha =>
    rw [dpA_ints_inv ha] at hs
    exact ⟨_, rfl, hs⟩
/-- amounts within their bounds -/
def Amts (ds : List Debt) : Prop := ∀ d ∈ ds, 0 ≤ d.2.2 ∧ d.2.2 ≤ 1000000000
end Cd

/-! Clearday: paths and rings of debts, even cuts. -/
namespace Cd
open PySem PySem.Spec PyProof.Rows L2

/-- the i-th debt -/
def dbt (ds : List Debt) (i : Nat) : Debt := ds.getD i (0, 0, 0)
theorem dbt_of {ds : List Debt} {i : Nat} {d : Debt} (h : ds[i]? = some d) : dbt ds i = d := by
  unfold dbt
  rw [List.getD_eq_getElem?_getD, h]
  rfl
theorem dbt_at {ds : List Debt} {i : Nat} (h : i < ds.length) : ds[i]? = some (dbt ds i) := by
  rw [List.getElem?_eq_getElem h, dbt_of (List.getElem?_eq_getElem h)]
/-- numbers of debts, as values -/
def idxV (r : List Nat) : List V := r.map fun i : Nat => V.int (i : Int)
def idxI (r : List Nat) : List Int := r.map fun i : Nat => (i : Int)
theorem idxV_ints (r : List Nat) : idxV r = (idxI r).map V.int := by
  unfold idxV idxI
  rw [List.map_map]
  rfl
theorem idxV_get {r : List Nat} {k : Nat} {x : V} (h : (idxV r)[k]? = some x) : ∃ i, r[k]? = some i ∧ x = .int (i : Int) := by
  unfold idxV at h
  rw [List.getElem?_map] at h
  cases e : r[k]? with
  | none =>
    rw [e] at h
    cases h
  | some i =>
    rw [e] at h
    exact ⟨i, rfl, (Option.some.inj h).symm⟩
theorem idxV_at {r : List Nat} {k i : Nat} (h : r[k]? = some i) : (idxV r)[k]? = some (.int (i : Int)) := by
  unfold idxV
  rw [List.getElem?_map, h]
  rfl
theorem idxV_len (r : List Nat) : (idxV r).length = r.length := List.length_map _

/-- each debt's creditor is the next one's debtor, no house is debtor twice -/
structure PathOf (ds : List Debt) (r : List Nat) : Prop where
  lt : ∀ i ∈ r, i < ds.length
  link : ∀ k i j, r[k]? = some i → r[k + 1]? = some j → (dbt ds i).2.1 = (dbt ds j).1
  nd : (r.map fun i => (dbt ds i).1).Nodup
structure RingOf (ds : List Debt) (r : List Nat) : Prop where
  path : PathOf ds r
  ne : 0 < r.length
  close : ∀ i j, r[0]? = some i → r[r.length - 1]? = some j → (dbt ds j).2.1 = (dbt ds i).1
theorem PathOf.drop {ds : List Debt} {r : List Nat} (h : PathOf ds r) (k : Nat) : PathOf ds (r.drop k) where
  lt := fun i hi => h.lt i (List.mem_of_mem_drop hi)
  link := fun m i j e1 e2 => by
    rw [List.getElem?_drop] at e1 e2
    exact h.link (k + m) i j e1 (by rw [Nat.add_assoc]; exact e2)
  nd := by
    rw [List.map_drop]
    exact h.nd.sublist (List.drop_sublist _ _)
theorem PathOf.snoc {ds : List Debt} {r : List Nat} {j : Nat} (h : PathOf ds r) (hj : j < ds.length) (hl : ∀ i, r[r.length - 1]? = some i → (dbt ds i).2.1 = (dbt ds j).1) (hn : ∀ i ∈ r, (dbt ds i).1 ≠ (dbt ds j).1) : PathOf ds (r ++ [j]) where
  lt := fun i hi => by
    rcases List.mem_append.mp hi with h1 | h1
    · exact h.lt i h1
    · rw [List.mem_singleton.mp h1]
      exact hj
  link := fun k x y e1 e2 => by
    have hk : k + 1 < (r ++ [j]).length := (List.getElem?_eq_some_iff.mp e2).1
    rw [List.length_append, List.length_singleton] at hk
    have hk' : k < r.length := by omega
    rw [List.getElem?_append_left hk'] at e1
    by_cases z : k + 1 < r.length
    · rw [List.getElem?_append_left z] at e2
      exact h.link k x y e1 e2
    · rw [List.getElem?_append_right (by omega)] at e2
      have e3 : k + 1 - r.length = 0 := by omega
      rw [e3] at e2
      cases (Option.some.inj e2 : _ = _)
      have e4 : r.length - 1 = k := by omega
      exact hl x (by rw [e4]; exact e1)
  nd := by
    rw [List.map_append, List.nodup_append]
    refine ⟨h.nd, List.nodup_cons.mpr ⟨List.not_mem_nil, List.nodup_nil⟩, ?_⟩
    intro a ha b hb
    rw [List.map_singleton, List.mem_singleton] at hb
    obtain ⟨i, hi, rfl⟩ := List.mem_map.mp ha
    rw [hb]
    exact hn i hi
theorem PathOf.one {ds : List Debt} {j : Nat} (hj : j < ds.length) : PathOf ds [j] where
  lt := fun i hi => by
    rw [List.mem_singleton.mp hi]
    exact hj
  link := fun k x y e1 e2 => by
    have := (List.getElem?_eq_some_iff.mp e2).1
    rw [List.length_singleton] at this
    omega
  nd := List.nodup_cons.mpr ⟨List.not_mem_nil, List.nodup_nil⟩
theorem nodup_of_map {α β : Type} {f : α → β} : ∀ {l : List α}, (l.map f).Nodup → l.Nodup
  | [], _ => List.nodup_nil
  | a :: l, h => by
    rw [List.map_cons, List.nodup_cons] at h
    exact List.nodup_cons.mpr ⟨fun z => h.1 (List.mem_map_of_mem z), nodup_of_map h.2⟩
theorem PathOf.idx {ds : List Debt} {r : List Nat} (h : PathOf ds r) : r.Nodup := nodup_of_map h.nd
/-- round a ring the creditors are the debtors -/
theorem RingOf.turn {ds : List Debt} {r : List Nat} (h : RingOf ds r) : r.map (fun i => (dbt ds i).2.1) = (r.map fun i => (dbt ds i).1).drop 1 ++ (r.map fun i => (dbt ds i).1).take 1 := by
  have hl := h.ne
  refine List.ext_getElem ?_ fun k h1 h2 => ?_
  · rw [List.length_append, List.length_drop, List.length_take, List.length_map, List.length_map]
    omega
  · rw [List.length_map] at h1
    rw [List.getElem_map]
    by_cases z : k + 1 < r.length
    · rw [List.getElem_append_left (by rw [List.length_drop, List.length_map]; omega), List.getElem_drop, List.getElem_map]
      have e := h.path.link k r[k] r[k + 1] (List.getElem?_eq_getElem h1) (List.getElem?_eq_getElem z)
      rw [e]
      congr 3
      omega
    · rw [List.getElem_append_right (by rw [List.length_drop, List.length_map]; omega), List.getElem_take, List.getElem_map]
      have e := h.close r[0] r[k] (List.getElem?_eq_getElem (by omega)) (by
        rw [List.getElem?_eq_getElem (by omega)]
        congr 2
        omega)
      rw [e]
      congr 3
      rw [List.length_drop, List.length_map]
      omega
theorem RingOf.counts {ds : List Debt} {r : List Nat} (h : RingOf ds r) (x : Int) : (r.map fun i => (dbt ds i).2.1).count x = (r.map fun i => (dbt ds i).1).count x := by
  rw [h.turn, List.count_append]
  have e : (r.map fun i => (dbt ds i).1).count x = ((r.map fun i => (dbt ds i).1).take 1 ++ (r.map fun i => (dbt ds i).1).drop 1).count x := by
    rw [List.take_append_drop]
  rw [e, List.count_append]
  omega

/-! ### what a cut cuts off a house -/
def sumBy (f : Debt → Int) (h : Int) (ds : List Debt) (cs : List Int) : Int := ((ds.zip cs).map fun p => if f p.1 = h then p.2 else 0).sum
/-- even: off what a house owes as much as off what is owed to it -/
def EvenC (ds : List Debt) (cs : List Int) : Prop := ∀ h, sumBy (fun d => d.1) h ds cs = sumBy (fun d => d.2.1) h ds cs
theorem sumBy_set (f : Debt → Int) (h : Int) : ∀ {ds : List Debt} {cs : List Int} {i : Nat} {d : Debt} {c : Int} (x : Int), ds[i]? = some d → cs[i]? = some c →
    sumBy f h ds (cs.set i x) = sumBy f h ds cs + if f d = h then x - c else 0
  | [], cs, i, d, c, x, h1, h2 => by simp at h1
  | d0 :: ds, [], i, d, c, x, h1, h2 => by simp at h2
  | d0 :: ds, c0 :: cs, 0, d, c, x, h1, h2 => by
    cases (Option.some.inj h1 : _ = _)
    cases (Option.some.inj h2 : _ = _)
    unfold sumBy
    rw [List.set_cons_zero, List.zip_cons_cons, List.zip_cons_cons, List.map_cons, List.map_cons, List.sum_cons, List.sum_cons]
    dsimp only
    split <;> omega
  | d0 :: ds, c0 :: cs, i + 1, d, c, x, h1, h2 => by
    have ih := sumBy_set f h (ds := ds) (cs := cs) (i := i) x h1 h2
    unfold sumBy at ih ⊢
    rw [List.set_cons_succ, List.zip_cons_cons, List.zip_cons_cons, List.map_cons, List.map_cons, List.sum_cons, List.sum_cons, ih]
    omega
/-- m less at each place of r -/
def subAt (rs : List Int) (m : Int) (r : List Nat) : List Int := r.foldl (fun l i => l.set i (l.getD i 0 - m)) rs
theorem subAt_len (m : Int) : ∀ (r : List Nat) (rs : List Int), (subAt rs m r).length = rs.length
  | [], _ => rfl
  | i :: r, rs => by
    show (subAt (rs.set i (rs.getD i 0 - m)) m r).length = rs.length
    rw [subAt_len m r, List.length_set]
theorem subAt_add (rs : List Int) (m : Int) (r : List Nat) (i : Nat) : subAt rs m (r ++ [i]) = (subAt rs m r).set i ((subAt rs m r).getD i 0 - m) := by
  unfold subAt
  rw [List.foldl_append]
  rfl
theorem subAt_get (m : Int) : ∀ (r : List Nat) (rs : List Int) (i : Nat), r.Nodup → i < rs.length → (subAt rs m r).getD i 0 = if i ∈ r then rs.getD i 0 - m else rs.getD i 0
  | [], rs, i, _, _ => by
    rw [if_neg List.not_mem_nil]
    rfl
  | j :: r, rs, i, hn, hi => by
    rw [List.nodup_cons] at hn
    show (subAt (rs.set j (rs.getD j 0 - m)) m r).getD i 0 = _
    rw [subAt_get m r _ i hn.2 (by rw [List.length_set]; exact hi)]
    by_cases e : i = j
    · subst e
      have z : (rs.set i (rs.getD i 0 - m)).getD i 0 = rs.getD i 0 - m := by
        rw [List.getD_eq_getElem?_getD, List.getElem?_set_self hi]
        rfl
      rw [if_neg hn.1, z, if_pos List.mem_cons_self]
    · have z : (rs.set j (rs.getD j 0 - m)).getD i 0 = rs.getD i 0 := by
        rw [List.getD_eq_getElem?_getD, List.getElem?_set_ne (fun q => e q.symm), ← List.getD_eq_getElem?_getD]
      rw [z]
      by_cases hm : i ∈ r
      · rw [if_pos hm, if_pos (List.mem_cons_of_mem _ hm)]
      · rw [if_neg hm, if_neg (fun q => (List.mem_cons.mp q).elim e hm)]
/-- the cut that leaves this room -/
def cutOf (ds : List Debt) (rs : List Int) : List Int := ds.zipWith (fun d r => d.2.2 - r) rs
theorem cutOf_len {ds : List Debt} {rs : List Int} (h : rs.length = ds.length) : (cutOf ds rs).length = ds.length := by
  unfold cutOf
  rw [List.length_zipWith]
  omega
theorem cutOf_get {ds : List Debt} {rs : List Int} {i : Nat} {d : Debt} {x : Int} (h1 : ds[i]? = some d) (h2 : rs[i]? = some x) : (cutOf ds rs)[i]? = some (d.2.2 - x) := by
  unfold cutOf
  rw [List.getElem?_zipWith, h1, h2]
theorem cutOf_set {ds : List Debt} : ∀ {rs : List Int} {i : Nat} {d : Debt} {x : Int}, ds[i]? = some d → cutOf ds (rs.set i x) = (cutOf ds rs).set i (d.2.2 - x) := by
  induction ds with
  | nil => intro rs i d x h; simp at h
  | cons d0 ds ih =>
    intro rs i d x h
    cases rs with
    | nil => rfl
    | cons r0 rs =>
      cases i with
      | zero =>
        cases (Option.some.inj h : _ = _)
        rfl
      | succ i =>
        have e := ih (rs := rs) (i := i) (x := x) h
        show (d0.2.2 - r0) :: cutOf ds (rs.set i x) = (d0.2.2 - r0) :: (cutOf ds rs).set i (d.2.2 - x)
        rw [e]
/-- what is so cut off more, by houses -/
theorem sumBy_sub (f : Debt → Int) (h : Int) (m : Int) {ds : List Debt} : ∀ (r : List Nat) (rs : List Int), rs.length = ds.length → (∀ i ∈ r, i < ds.length) →
    sumBy f h ds (cutOf ds (subAt rs m r)) = sumBy f h ds (cutOf ds rs) + m * ((r.map fun i => f (dbt ds i)).count h : Nat)
  | [], rs, _, _ => by
    show sumBy f h ds (cutOf ds rs) = _
    rw [List.map_nil, List.count_nil]
    simp
  | i :: r, rs, hl, hr => by
    have hi := hr i List.mem_cons_self
    have e1 := dbt_at hi
    have e2 : rs[i]? = some (rs.getD i 0) := by
      rw [List.getD_eq_getElem?_getD, List.getElem?_eq_getElem (by omega)]
      rfl
    have ih := sumBy_sub f h m r (rs.set i (rs.getD i 0 - m)) (by rw [List.length_set]; exact hl) fun j hj => hr j (List.mem_cons_of_mem _ hj)
    show sumBy f h ds (cutOf ds (subAt (rs.set i (rs.getD i 0 - m)) m r)) = _
    rw [ih, cutOf_set e1, sumBy_set f h _ e1 (cutOf_get e1 e2), List.map_cons, List.count_cons]
    by_cases z : f (dbt ds i) = h
    · rw [if_pos z, if_pos (by rw [z]; exact beq_self_eq_true h)]
      have e3 : m * (((r.map fun i => f (dbt ds i)).count h + 1 : Nat) : Int) = m * ((r.map fun i => f (dbt ds i)).count h : Nat) + m := by
        rw [Int.natCast_add, Int.mul_add]
        simp
      omega
    · rw [if_neg z, if_neg (by intro q; exact z (beq_iff_eq.mp q))]
      simp
/-- room: what can still be cut off; an even cut is behind it -/
structure RoomOk (ds : List Debt) (rs : List Int) : Prop where
  len : rs.length = ds.length
  at_ : ∀ i, i < ds.length → 0 ≤ rs.getD i 0 ∧ rs.getD i 0 ≤ (dbt ds i).2.2
  even : EvenC ds (cutOf ds rs)
theorem RoomOk.sub {ds : List Debt} {rs : List Int} {r : List Nat} {m : Int} (h : RoomOk ds rs) (hr : RingOf ds r) (m0 : 0 ≤ m) (hm : ∀ i ∈ r, m ≤ rs.getD i 0) : RoomOk ds (subAt rs m r) where
  len := by rw [subAt_len, h.len]
  at_ := fun i hi => by
    have z := h.at_ i hi
    rw [subAt_get m r rs i hr.path.idx (by rw [h.len]; exact hi)]
    by_cases q : i ∈ r
    · rw [if_pos q]
      have := hm i q
      omega
    · rw [if_neg q]
      exact z
  even := fun x => by
    rw [sumBy_sub (fun d => d.1) x m r rs h.len hr.path.lt, sumBy_sub (fun d => d.2.1) x m r rs h.len hr.path.lt, h.even x, hr.counts x]
theorem RoomOk.cut {ds : List Debt} {rs : List Int} (h : RoomOk ds rs) : IsCut ds (cutOf ds rs) where
  len := cutOf_len h.len
  at_ := fun i d c e1 e2 => by
    have hi := (List.getElem?_eq_some_iff.mp e1).1
    have z := h.at_ i hi
    rw [dbt_of e1] at z
    have e3 : rs[i]? = some (rs.getD i 0) := by
      rw [List.getD_eq_getElem?_getD, List.getElem?_eq_getElem (by rw [h.len]; exact hi)]
      rfl
    rw [cutOf_get e1 e3] at e2
    cases (Option.some.inj e2 : _ = _)
    omega
theorem roomOk_start {ds : List Debt} (h : ∀ d ∈ ds, 0 ≤ d.2.2) : RoomOk ds (ds.map fun d => d.2.2) where
  len := List.length_map _
  at_ := fun i hi => by
    have e : (ds.map fun d => d.2.2).getD i 0 = (dbt ds i).2.2 := by
      rw [List.getD_eq_getElem?_getD, List.getElem?_map, dbt_at hi]
      rfl
    rw [e]
    exact ⟨h _ (List.mem_of_getElem? (dbt_at hi)), Int.le_refl _⟩
  even := fun x => by
    have zero : ∀ (f : Debt → Int) (l : List Debt), sumBy f x l (cutOf l (l.map fun d => d.2.2)) = 0 := by
      intro f l
      induction l with
      | nil => rfl
      | cons d l ih =>
        unfold sumBy cutOf at ih ⊢
        rw [List.map_cons, List.zipWith_cons_cons, List.zip_cons_cons, List.map_cons, List.sum_cons, ih]
        dsimp only
        split <;> omega
    rw [zero, zero]
end Cd

/-! Clearday: balances as sums, even cuts, prices. -/
namespace Cd
open PySem PySem.Spec PyProof.Rows L2

/-! ### a balance is a sum -/
theorem getD_set (l : List Int) (i h : Nat) (x : Int) (hi : i < l.length) : (l.set i x).getD h 0 = if i = h then x else l.getD h 0 := by
  by_cases e : i = h
  · subst e
    rw [if_pos rfl, List.getD_eq_getElem?_getD, List.getElem?_set_self hi]
    rfl
  · rw [if_neg e, List.getD_eq_getElem?_getD, List.getElem?_set_ne e, ← List.getD_eq_getElem?_getD]
theorem addAt_get (l : List Int) (i x : Int) (h : Nat) (i0 : 0 ≤ i) (hi : i < l.length) : (addAt l i x).getD h 0 = l.getD h 0 + if i = (h : Int) then x else 0 := by
  unfold addAt
  rw [getD_set l i.toNat h _ (by omega)]
  by_cases e : i = (h : Int)
  · have e2 : i.toNat = h := by omega
    rw [if_pos e, if_pos e2, e2]
  · rw [if_neg e, if_neg (by omega), Int.add_zero]
/-- what a debt does to the balance of a house -/
def moves (h : Int) (d : Debt) : Int := (if d.2.1 = h then d.2.2 else 0) - (if d.1 = h then d.2.2 else 0)
theorem balStep_get {n : Int} (l : List Int) (d : Debt) (h : Nat) (hl : l.length = n.toNat) (hd : InB n d) : (balStep l d).getD h 0 = l.getD h 0 + moves h d := by
  obtain ⟨a0, an, b0, bn⟩ := hd
  unfold balStep moves
  rw [addAt_get _ _ _ _ b0 (by rw [addAt_len]; omega), addAt_get _ _ _ _ a0 (by omega)]
  split <;> split <;> omega
theorem balFold_get {n : Int} (h : Nat) : ∀ (ds : List Debt) (l : List Int), l.length = n.toNat → (∀ d ∈ ds, InB n d) → (ds.foldl balStep l).getD h 0 = l.getD h 0 + (ds.map (moves h)).sum
  | [], l, _, _ => by
    show l.getD h 0 = l.getD h 0 + 0
    omega
  | d :: ds, l, hl, hd => by
    rw [List.foldl_cons, balFold_get h ds _ (by rw [balStep_len]; exact hl) (fun e he => hd e (List.mem_cons_of_mem _ he)), balStep_get l d h hl (hd d List.mem_cons_self), List.map_cons, List.sum_cons]
    omega
theorem bal_get {n : Int} {ds : List Debt} (hd : ∀ d ∈ ds, InB n d) (h : Nat) : (bal n ds).getD h 0 = (ds.map (moves h)).sum := by
  unfold bal
  rw [balFold_get h ds _ (List.length_replicate) hd]
  have : (List.replicate n.toNat (0 : Int)).getD h 0 = 0 := by
    rw [List.getD_eq_getElem?_getD, List.getElem?_replicate]
    split <;> rfl
  omega
theorem someNot_iff (ns : List Int) : someNot ns = false ↔ ∀ h : Nat, ns.getD h 0 = 0 := by
  unfold someNot
  rw [List.any_eq_false]
  constructor
  · intro h k
    by_cases hk : k < ns.length
    · have z := h ns[k] (List.getElem_mem hk)
      rw [List.getD_eq_getElem?_getD, List.getElem?_eq_getElem hk]
      show ns[k] = 0
      simpa using z
    · rw [List.getD_eq_getElem?_getD, List.getElem?_eq_none (by omega)]
      rfl
  · intro h x hx
    obtain ⟨k, hk, rfl⟩ := List.getElem_of_mem hx
    have z := h k
    rw [List.getD_eq_getElem?_getD, List.getElem?_eq_getElem hk] at z
    have z' : ns[k] = 0 := z
    simp [z']
/-- the same, by houses -/
theorem sum_moves (h : Int) : ∀ (ds : List Debt) (cs : List Int), ((withAmounts ds cs).map (moves h)).sum = sumBy (fun d => d.2.1) h ds cs - sumBy (fun d => d.1) h ds cs
  | [], _ => rfl
  | _ :: _, [] => rfl
  | d :: ds, c :: cs => by
    have ih := sum_moves h ds cs
    unfold sumBy withAmounts at ih ⊢
    rw [List.zipWith_cons_cons, List.map_cons, List.sum_cons, ih, List.zip_cons_cons, List.map_cons, List.map_cons, List.sum_cons, List.sum_cons]
    unfold moves
    dsimp only
    omega
theorem sumBy_out (f : Debt → Int) (h : Int) : ∀ {ds : List Debt} (cs : List Int), (∀ d ∈ ds, f d ≠ h) → sumBy f h ds cs = 0
  | [], _, _ => rfl
  | _ :: _, [], _ => rfl
  | d :: ds, c :: cs, hn => by
    have ih := sumBy_out f h cs fun e he => hn e (List.mem_cons_of_mem _ he)
    unfold sumBy at ih ⊢
    rw [List.zip_cons_cons, List.map_cons, List.sum_cons, ih, if_neg (hn d List.mem_cons_self)]
    rfl
theorem evenB_iff {n : Int} {ds : List Debt} {cs : List Int} (hd : ∀ d ∈ ds, InB n d) : evenB n ds cs = true ↔ EvenC ds cs := by
  unfold evenB
  rw [Bool.not_eq_true', someNot_iff]
  have e : ∀ h : Nat, (bal n (withAmounts ds cs)).getD h 0 = sumBy (fun d => d.2.1) h ds cs - sumBy (fun d => d.1) h ds cs := fun h => by
    rw [bal_get (amt_inb hd), sum_moves]
  constructor
  · intro h x
    by_cases x0 : 0 ≤ x
    · obtain ⟨k, rfl⟩ := Int.eq_ofNat_of_zero_le x0
      have z := h k
      rw [e k] at z
      show sumBy (fun d => d.1) (k : Int) ds cs = sumBy (fun d => d.2.1) (k : Int) ds cs
      omega
    · rw [sumBy_out _ _ _ (fun d hd' => by have := (hd d hd').a0; omega), sumBy_out _ _ _ (fun d hd' => by have := (hd d hd').b0; omega)]
  · intro h k
    rw [e k]
    have z := h k
    omega

/-! ### prices -/
def lure (p : Int → Int) (d : Debt) : Int := 1 + p d.1 - p d.2.1
/-- what a cut gives, each number times g -/
def weigh (g : Debt → Int) (ds : List Debt) (cs : List Int) : Int := ((ds.zip cs).map fun q => q.2 * g q.1).sum
theorem weigh_cons (g : Debt → Int) (d : Debt) (ds : List Debt) (c : Int) (cs : List Int) : weigh g (d :: ds) (c :: cs) = c * g d + weigh g ds cs := by
  unfold weigh
  rw [List.zip_cons_cons, List.map_cons, List.sum_cons]
theorem sum_pick (p : Int → Int) (x c : Int) : ∀ n : Nat, 0 ≤ x → ((List.range n).map fun h : Nat => p h * (if x = (h : Int) then c else 0)).sum = if x < n then c * p x else 0
  | 0, x0 => by
    rw [if_neg (by omega)]
    rfl
  | n + 1, x0 => by
    rw [List.range_succ, List.map_append, List.sum_append, sum_pick p x c n x0, List.map_singleton, List.sum_singleton]
    by_cases h1 : x < (n : Int)
    · rw [if_pos h1, if_neg (by omega), if_pos (by omega)]
      simp
    · by_cases h2 : x = (n : Int)
      · rw [if_neg h1, if_pos h2, if_pos (by omega), h2, Int.mul_comm]
        simp
      · rw [if_neg h1, if_neg h2, if_neg (by omega)]
        simp
theorem sum_add {α : Type} (f g : α → Int) : ∀ l : List α, (l.map fun x => f x + g x).sum = (l.map f).sum + (l.map g).sum
  | [] => rfl
  | a :: l => by
    rw [List.map_cons, List.map_cons, List.map_cons, List.sum_cons, List.sum_cons, List.sum_cons, sum_add f g l]
    omega
theorem weigh_houses (p : Int → Int) (f : Debt → Int) (n : Nat) : ∀ (ds : List Debt) (cs : List Int), (∀ d ∈ ds, 0 ≤ f d ∧ f d < n) →
    weigh (fun d => p (f d)) ds cs = ((List.range n).map fun h : Nat => p h * sumBy f h ds cs).sum
  | [], cs, _ => by
    have : ∀ l : List Nat, (l.map fun h : Nat => p h * sumBy f h [] cs).sum = 0 := fun l => by
      induction l with
      | nil => rfl
      | cons a l ih =>
        rw [List.map_cons, List.sum_cons, ih]
        show p a * 0 + 0 = 0
        simp
    rw [this]
    rfl
  | d :: ds, [], _ => by
    have : ∀ l : List Nat, (l.map fun h : Nat => p h * sumBy f h (d :: ds) []).sum = 0 := fun l => by
      induction l with
      | nil => rfl
      | cons a l ih =>
        rw [List.map_cons, List.sum_cons, ih]
        show p a * 0 + 0 = 0
        simp
    rw [this]
    rfl
  | d :: ds, c :: cs, hd => by
    have ih := weigh_houses p f n ds cs fun e he => hd e (List.mem_cons_of_mem _ he)
    have hx := hd d List.mem_cons_self
    rw [weigh_cons, ih]
    have e : ∀ h : Nat, p h * sumBy f h (d :: ds) (c :: cs) = p h * (if f d = (h : Int) then c else 0) + p h * sumBy f h ds cs := fun h => by
      unfold sumBy
      rw [List.zip_cons_cons, List.map_cons, List.sum_cons, Int.mul_add]
    have e2 : ((List.range n).map fun h : Nat => p h * sumBy f h (d :: ds) (c :: cs)) = (List.range n).map fun h : Nat => p h * (if f d = (h : Int) then c else 0) + p h * sumBy f h ds cs := List.map_congr_left fun h _ => e h
    rw [e2, sum_add, sum_pick p (f d) c n hx.1, if_pos hx.2]
theorem weigh_even {n : Int} {ds : List Debt} {cs : List Int} (hd : ∀ d ∈ ds, InB n d) (he : EvenC ds cs) (p : Int → Int) : weigh (fun d => p d.1) ds cs = weigh (fun d => p d.2.1) ds cs := by
  rw [weigh_houses p (fun d => d.1) n.toNat ds cs (fun d h => ⟨(hd d h).a0, by have := (hd d h).an; have := (hd d h).a0; omega⟩), weigh_houses p (fun d => d.2.1) n.toNat ds cs (fun d h => ⟨(hd d h).b0, by have := (hd d h).bn; have := (hd d h).b0; omega⟩)]
  congr 1
  exact List.map_congr_left fun h _ => by rw [he h]
theorem weigh_lure (p : Int → Int) : ∀ (ds : List Debt) (cs : List Int), cs.length = ds.length → weigh (lure p) ds cs = cs.sum + weigh (fun d => p d.1) ds cs - weigh (fun d => p d.2.1) ds cs
  | [], [], _ => rfl
  | d :: ds, c :: cs, h => by
    have ih := weigh_lure p ds cs (by simpa using h)
    rw [weigh_cons, weigh_cons, weigh_cons, ih, List.sum_cons]
    unfold lure
    rw [Int.mul_sub, Int.mul_add, Int.mul_one]
    omega
  | [], _ :: _, h => by cases h
  | _ :: _, [], h => by cases h
/-- the lures of what an even cut cuts off come to its worth -/
theorem lured_worth {n : Int} {ds : List Debt} {cs : List Int} (hd : ∀ d ∈ ds, InB n d) (he : EvenC ds cs) (hl : cs.length = ds.length) (p : Int → Int) : weigh (lure p) ds cs = cs.sum := by
  rw [weigh_lure p ds cs hl, weigh_even hd he p]
  omega
/-- prices show a cut -/
def Shows (p : Int → Int) (ds : List Debt) (cs : List Int) : Prop := ∀ (i : Nat) (d : Debt) (c : Int), ds[i]? = some d → cs[i]? = some c → (lure p d < 0 → c ≤ 0) ∧ (0 < lure p d → d.2.2 ≤ c)
theorem shows_most (p : Int → Int) : ∀ (ds : List Debt) (cs bs : List Int), IsCut ds cs → IsCut ds bs → Shows p ds cs → weigh (lure p) ds bs ≤ weigh (lure p) ds cs
  | [], _, _, _, _, _ => Int.le_refl _
  | d :: ds, [], _, h, _, _ => by cases h.len
  | d :: ds, _ :: _, [], _, h, _ => by cases h.len
  | d :: ds, c :: cs, b :: bs, hc, hb, hs => by
    have ih := shows_most p ds cs bs ⟨by simpa using hc.len, fun i d c e1 e2 => hc.at_ (i + 1) d c e1 e2⟩ ⟨by simpa using hb.len, fun i d c e1 e2 => hb.at_ (i + 1) d c e1 e2⟩ fun i d c e1 e2 => hs (i + 1) d c e1 e2
    rw [weigh_cons, weigh_cons]
    have z := hs 0 d c rfl rfl
    have zc := hc.at_ 0 d c rfl rfl
    have zb := hb.at_ 0 d b rfl rfl
    have : b * lure p d ≤ c * lure p d := by
      rcases Int.lt_trichotomy (lure p d) 0 with h | h | h
      · have c0 : c = 0 := by
          have := z.1 h
          omega
        rw [c0, Int.zero_mul]
        exact Int.mul_nonpos_of_nonneg_of_nonpos zb.1 (by omega)
      · rw [h, Int.mul_zero, Int.mul_zero]
        exact Int.le_refl _
      · have := z.2 h
        exact Int.mul_le_mul_of_nonneg_right (by omega) (by omega)
    omega
/-- an even cut that prices show is a best one -/
theorem shows_best {n : Int} {p : Int → Int} {ds : List Debt} {cs bs : List Int} (hd : ∀ d ∈ ds, InB n d) (hc : IsCut ds cs) (hs : Shows p ds cs) (he : EvenC ds cs) (hb : IsCut ds bs) (hbe : EvenC ds bs) : bs.sum ≤ cs.sum := by
  rw [← lured_worth hd he hc.len p, ← lured_worth hd hbe hb.len p]
  exact shows_most p ds cs bs hc hb hs
/-- by such prices each debt that is left leads to a dearer house -/
theorem left_rises {p : Int → Int} {ds : List Debt} {cs : List Int} (hs : Shows p ds cs) : ∀ d ∈ leftZ (ds.zip cs), p d.1 < p d.2.1 := by
  intro d hd
  unfold leftZ at hd
  obtain ⟨q, hq, e⟩ := List.mem_filterMap.mp hd
  obtain ⟨k, hk, eq⟩ := List.getElem_of_mem hq
  have hk' : k < ds.length ∧ k < cs.length := by
    rw [List.length_zip] at hk
    omega
  have eq' : q = (ds[k], cs[k]) := by
    rw [← eq, List.getElem_zip]
  by_cases h : q.2 < q.1.2.2
  · rw [if_pos h] at e
    have z := hs k ds[k] cs[k] (List.getElem?_eq_getElem hk'.1) (List.getElem?_eq_getElem hk'.2)
    rw [eq'] at h e
    have h' : cs[k] < ds[k].2.2 := h
    have e' := Option.some.inj e
    rw [← e']
    show p ds[k].1 < p ds[k].2.1
    have z2 := z.2
    unfold lure at z2
    by_cases q2 : 0 < 1 + p ds[k].1 - p ds[k].2.1
    · have := z2 q2
      omega
    · omega
  · rw [if_neg h] at e
    cases e
end Cd

/-! Clearday: heights that rise over what can still be cut off, and taken back. -/
namespace Cd
open PySem PySem.Spec PyProof.Rows L2

/-- from, to, how much dearer -/
abbrev Arc := Nat × Nat × Int
def arcs2 (d : Debt) (c : Int) : List Arc := (if c < d.2.2 then [(d.1.toNat, d.2.1.toNat, 1)] else []) ++ (if 0 < c then [(d.2.1.toNat, d.1.toNat, -1)] else [])
def arcsOf (ds : List Debt) (cs : List Int) : List Arc := (ds.zip cs).flatMap fun q => arcs2 q.1 q.2
def hAt (h : List Int) (i : Nat) : Int := h.getD i 0
def raises (h : List Int) (a : Arc) : Bool := decide (hAt h a.2.1 < hAt h a.1 + a.2.2)
def relax (s : List Int × Bool) (a : Arc) : List Int × Bool := if raises s.1 a then (s.1.set a.2.1 (hAt s.1 a.1 + a.2.2), true) else s
def turn (as : List Arc) (h : List Int) : List Int × Bool := as.foldl relax (h, false)
def settle (as : List Arc) : Nat → List Int → Bool
  | 0, _ => false
  | k + 1, h => if (turn as h).2 then settle as k (turn as h).1 else true

theorem relax_true (s : List Int × Bool) (a : Arc) (h : s.2 = true) : (relax s a).2 = true := by
  unfold relax
  split
  · rfl
  · exact h
theorem fold_true : ∀ (as : List Arc) (s : List Int × Bool), s.2 = true → (as.foldl relax s).2 = true
  | [], _, h => h
  | a :: as, s, h => fold_true as _ (relax_true s a h)
/-- where a turn raises nothing nothing is to be raised -/
theorem fold_still : ∀ (as : List Arc) (h : List Int), (as.foldl relax (h, false)).2 = false → (as.foldl relax (h, false)).1 = h ∧ ∀ a ∈ as, raises h a = false
  | [], _, _ => ⟨rfl, (fun _ z => nomatch z)⟩
  | a :: as, h, e => by
    rw [List.foldl_cons] at e ⊢
    cases r : raises h a with
    | true =>
      have : (relax (h, false) a).2 = true := by
        unfold relax
        rw [r]
        rfl
      rw [fold_true as _ this] at e
      cases e
    | false =>
      have e2 : relax (h, false) a = (h, false) := by
        unfold relax
        rw [r]
        rfl
      rw [e2] at e ⊢
      obtain ⟨z1, z2⟩ := fold_still as h e
      refine ⟨z1, fun b hb => ?_⟩
      rcases List.mem_cons.mp hb with rfl | hb
      · exact r
      · exact z2 b hb
theorem fold_none : ∀ (as : List Arc) (h : List Int), (∀ a ∈ as, raises h a = false) → as.foldl relax (h, false) = (h, false)
  | [], _, _ => rfl
  | a :: as, h, e => by
    have e2 : relax (h, false) a = (h, false) := by
      unfold relax
      rw [e a List.mem_cons_self]
      rfl
    rw [List.foldl_cons, e2]
    exact fold_none as h fun b hb => e b (List.mem_cons_of_mem _ hb)
/-- what comes to rest is a list of prices -/
theorem settle_prices (as : List Arc) : ∀ (k : Nat) (h : List Int), settle as k h = true → ∃ p : Nat → Int, ∀ a ∈ as, p a.1 + a.2.2 ≤ p a.2.1
  | 0, _, e => by cases e
  | k + 1, h, e => by
    unfold settle at e
    cases r : (turn as h).2 with
    | true =>
      rw [r] at e
      exact settle_prices as k _ e
    | false =>
      have z := (fold_still as h r).2
      refine ⟨hAt h, fun a ha => ?_⟩
      have := of_decide_eq_false (z a ha)
      omega

/-! ### it comes to rest where there are prices -/
section
variable {n : Nat} {p : Nat → Int} {as : List Arc}
structure Inv (n : Nat) (p : Nat → Int) (as : List Arc) (S : List Nat) (M : Int) (h : List Int) : Prop where
  len : h.length = n
  top : ∀ v ∈ S, M ≤ hAt h v - p v
  low : ∀ x, x < n → x ∉ S → hAt h x - p x ≤ M
  ins : ∀ a ∈ as, a.1 ∈ S → a.2.1 ∈ S → hAt h a.1 + a.2.2 ≤ hAt h a.2.1
  out : ∀ a ∈ as, a.1 ∈ S → a.2.1 ∉ S → hAt h a.1 + a.2.2 - p a.2.1 ≤ M
theorem hAt_set (h : List Int) (i k : Nat) (x : Int) (hi : i < h.length) : hAt (h.set i x) k = if i = k then x else hAt h k := getD_set h i k x hi
theorem relax_inv (hin : ∀ a ∈ as, a.1 < n ∧ a.2.1 < n) (hp : ∀ a ∈ as, p a.1 + a.2.2 ≤ p a.2.1) {S : List Nat} {M : Int} {s : List Int × Bool} (I : Inv n p as S M s.1) {a : Arc} (ha : a ∈ as) :
    Inv n p as S M (relax s a).1 ∧ (∀ v ∈ S, hAt (relax s a).1 v = hAt s.1 v) ∧ (∀ x, hAt s.1 x ≤ hAt (relax s a).1 x) ∧ hAt (relax s a).1 a.1 + a.2.2 ≤ hAt (relax s a).1 a.2.1 := by
  unfold relax
  cases r : raises s.1 a with
  | false =>
    have z := of_decide_eq_false r
    exact ⟨I, fun _ _ => rfl, fun _ => Int.le_refl _, by show hAt s.1 a.1 + a.2.2 ≤ hAt s.1 a.2.1; omega⟩
  | true =>
    have z := of_decide_eq_true r
    have hb := hin a ha
    have hpa := hp a ha
    have ne : a.2.1 ≠ a.1 := fun e => by
      rw [e] at z hpa
      omega
    have hS : a.2.1 ∉ S := fun q => by
      have t := I.top _ q
      by_cases q1 : a.1 ∈ S
      · have := I.ins a ha q1 q
        omega
      · have := I.low a.1 hb.1 q1
        omega
    have hM : hAt s.1 a.1 + a.2.2 - p a.2.1 ≤ M := by
      by_cases q1 : a.1 ∈ S
      · exact I.out a ha q1 hS
      · have := I.low a.1 hb.1 q1
        omega
    have at_ : ∀ k, hAt (s.1.set a.2.1 (hAt s.1 a.1 + a.2.2)) k = if a.2.1 = k then hAt s.1 a.1 + a.2.2 else hAt s.1 k := fun k => hAt_set _ _ _ _ (by rw [I.len]; exact hb.2)
    have same : ∀ v ∈ S, hAt (s.1.set a.2.1 (hAt s.1 a.1 + a.2.2)) v = hAt s.1 v := fun v hv => by
      rw [at_, if_neg (fun (e : a.2.1 = v) => hS (by rw [e]; exact hv))]
    show Inv n p as S M (s.1.set a.2.1 (hAt s.1 a.1 + a.2.2)) ∧ (∀ v ∈ S, hAt (s.1.set a.2.1 (hAt s.1 a.1 + a.2.2)) v = hAt s.1 v) ∧ (∀ x, hAt s.1 x ≤ hAt (s.1.set a.2.1 (hAt s.1 a.1 + a.2.2)) x) ∧ hAt (s.1.set a.2.1 (hAt s.1 a.1 + a.2.2)) a.1 + a.2.2 ≤ hAt (s.1.set a.2.1 (hAt s.1 a.1 + a.2.2)) a.2.1
    refine ⟨⟨?_, ?_, ?_, ?_, ?_⟩, same, ?_, ?_⟩
    · rw [List.length_set]
      exact I.len
    · intro v hv
      rw [same v hv]
      exact I.top v hv
    · intro x hx hxS
      rw [at_]
      by_cases e : a.2.1 = x
      · rw [if_pos e, ← e]
        exact hM
      · rw [if_neg e]
        exact I.low x hx hxS
    · intro b hb h1 h2
      rw [same _ h1, same _ h2]
      exact I.ins b hb h1 h2
    · intro b hb h1 h2
      rw [same _ h1]
      exact I.out b hb h1 h2
    · intro x
      rw [at_]
      by_cases e : a.2.1 = x
      · rw [if_pos e, ← e]
        omega
      · rw [if_neg e]
        exact Int.le_refl _
    · rw [at_, at_, if_neg ne, if_pos rfl]
      exact Int.le_refl _
theorem fold_inv (hin : ∀ a ∈ as, a.1 < n ∧ a.2.1 < n) (hp : ∀ a ∈ as, p a.1 + a.2.2 ≤ p a.2.1) {S : List Nat} {M : Int} : ∀ (l : List Arc) (s : List Int × Bool), (∀ a ∈ l, a ∈ as) → Inv n p as S M s.1 →
    Inv n p as S M (l.foldl relax s).1 ∧ (∀ v ∈ S, hAt (l.foldl relax s).1 v = hAt s.1 v) ∧ (∀ x, hAt s.1 x ≤ hAt (l.foldl relax s).1 x) ∧ ∀ a ∈ l, a.1 ∈ S → hAt (l.foldl relax s).1 a.1 + a.2.2 ≤ hAt (l.foldl relax s).1 a.2.1
  | [], s, _, I => ⟨I, fun _ _ => rfl, fun _ => Int.le_refl _, (fun _ h => nomatch h)⟩
  | a :: l, s, hl, I => by
    obtain ⟨I1, s1, m1, r1⟩ := relax_inv hin hp I (hl a List.mem_cons_self)
    obtain ⟨I2, s2, m2, r2⟩ := fold_inv hin hp l (relax s a) (fun b hb => hl b (List.mem_cons_of_mem _ hb)) I1
    rw [List.foldl_cons]
    refine ⟨I2, fun v hv => by rw [s2 v hv, s1 v hv], fun x => Int.le_trans (m1 x) (m2 x), fun b hb hS => ?_⟩
    rcases List.mem_cons.mp hb with rfl | hb
    · rw [s2 _ hS]
      exact Int.le_trans r1 (m2 _)
    · exact r2 b hb hS
theorem max_of (f : Nat → Int) : ∀ l : List Nat, l ≠ [] → ∃ m ∈ l, ∀ x ∈ l, f x ≤ f m
  | [], h => absurd rfl h
  | [a], _ => ⟨a, List.mem_cons_self, fun x hx => by rw [List.mem_singleton.mp hx]; exact Int.le_refl _⟩
  | a :: b :: l, _ => by
    obtain ⟨m, hm, hx⟩ := max_of f (b :: l) (by simp)
    by_cases h : f a ≤ f m
    · exact ⟨m, List.mem_cons_of_mem _ hm, fun x hx' => (List.mem_cons.mp hx').elim (fun e => e ▸ h) (hx x)⟩
    · exact ⟨a, List.mem_cons_self, fun x hx' => (List.mem_cons.mp hx').elim (fun e => e ▸ Int.le_refl _) fun q => by have := hx x q; omega⟩
theorem all_in {S : List Nat} (hn : S.Nodup) (hs : ∀ v ∈ S, v < n) (hl : n ≤ S.length) : ∀ x, x < n → x ∈ S := by
  intro x hx
  by_cases h : x ∈ S
  · exact h
  · have z : (x :: S).Nodup := List.nodup_cons.mpr ⟨h, hn⟩
    have y : (x :: S).length ≤ (List.range n).length := List.Nodup.length_le_of_subset z fun i hi => by
      rcases List.mem_cons.mp hi with rfl | hi
      · exact List.mem_range.mpr hx
      · exact List.mem_range.mpr (hs i hi)
    rw [List.length_range, List.length_cons] at y
    omega
theorem inv_more {S : List Nat} {M : Int} {h : List Int} (hin : ∀ a ∈ as, a.1 < n ∧ a.2.1 < n) (hp : ∀ a ∈ as, p a.1 + a.2.2 ≤ p a.2.1) (I : Inv n p as S M h) (R : ∀ a ∈ as, a.1 ∈ S → hAt h a.1 + a.2.2 ≤ hAt h a.2.1) (hs : ∀ v ∈ S, v < n) (hl : S.length < n) :
    ∃ v, v < n ∧ v ∉ S ∧ Inv n p as (v :: S) (hAt h v - p v) h := by
  have ne : (List.range n).filter (fun x => decide (x ∉ S)) ≠ [] := fun e => by
    have sub : ∀ x ∈ List.range n, x ∈ S := fun x hx => by
      have := (List.filter_eq_nil_iff.mp e) x hx
      simpa using this
    have y : (List.range n).length ≤ S.length := List.Nodup.length_le_of_subset List.nodup_range sub
    rw [List.length_range] at y
    omega
  obtain ⟨v, hv, hmax⟩ := max_of (fun x => hAt h x - p x) _ ne
  rw [List.mem_filter, List.mem_range] at hv
  have hvS : v ∉ S := of_decide_eq_true hv.2
  have mx : ∀ x, x < n → x ∉ S → hAt h x - p x ≤ hAt h v - p v := fun x hx hxS => hmax x (List.mem_filter.mpr ⟨List.mem_range.mpr hx, decide_eq_true hxS⟩)
  have lv := I.low v hv.1 hvS
  refine ⟨v, hv.1, hvS, ⟨I.len, ?_, ?_, ?_, ?_⟩⟩
  · intro u hu
    rcases List.mem_cons.mp hu with rfl | hu
    · exact Int.le_refl _
    · exact Int.le_trans lv (I.top u hu)
  · intro x hx hxS
    exact mx x hx fun q => hxS (List.mem_cons_of_mem _ q)
  · intro a ha h1 h2
    have hpa := hp a ha
    rcases List.mem_cons.mp h1 with e1 | h1
    · rcases List.mem_cons.mp h2 with e2 | h2
      · rw [e1, e2] at hpa ⊢
        omega
      · have := I.top _ h2
        rw [e1] at hpa ⊢
        omega
    · exact R a ha h1
  · intro a ha h1 h2
    have hpa := hp a ha
    have h2' : a.2.1 ∉ S := fun q => h2 (List.mem_cons_of_mem _ q)
    rcases List.mem_cons.mp h1 with e1 | h1
    · rw [e1] at hpa ⊢
      omega
    · have := R a ha h1
      have := mx a.2.1 (hin a ha).2 h2'
      omega
theorem settle_all (hin : ∀ a ∈ as, a.1 < n ∧ a.2.1 < n) (hp : ∀ a ∈ as, p a.1 + a.2.2 ≤ p a.2.1) : ∀ (k : Nat) (S : List Nat) (M : Int) (h : List Int), Inv n p as S M h → S.Nodup → (∀ v ∈ S, v < n) → n ≤ S.length + k → settle as (k + 1) h = true
  | 0, S, M, h, I, hn, hs, hl => by
    have al := all_in hn hs (by omega)
    unfold settle turn
    rw [fold_none as h fun a ha => decide_eq_false (by
      have := I.ins a ha (al _ (hin a ha).1) (al _ (hin a ha).2)
      omega)]
    rfl
  | k + 1, S, M, h, I, hn, hs, hl => by
    unfold settle
    obtain ⟨I2, _, _, R⟩ := fold_inv hin hp as (h, false) (fun _ ha => ha) I
    cases r : (turn as h).2 with
    | false => rfl
    | true =>
      show settle as (k + 1) (turn as h).1 = true
      by_cases z : S.length < n
      · obtain ⟨v, hv, hvS, I3⟩ := inv_more hin hp I2 R hs z
        refine settle_all hin hp k (v :: S) _ _ I3 (List.nodup_cons.mpr ⟨hvS, hn⟩) (fun u hu => ?_) ?_
        · rcases List.mem_cons.mp hu with rfl | hu
          · exact hv
          · exact hs u hu
        · rw [List.length_cons]
          omega
      · exact settle_all hin hp k S M _ I2 hn hs (by omega)
theorem settle_rest (hin : ∀ a ∈ as, a.1 < n ∧ a.2.1 < n) (hp : ∀ a ∈ as, p a.1 + a.2.2 ≤ p a.2.1) {h : List Int} (hl : h.length = n) : settle as (n + 1) h = true := by
  have : ∃ M, ∀ x, x < n → hAt h x - p x ≤ M := by
    by_cases z : n = 0
    · exact ⟨0, fun x hx => by omega⟩
    · obtain ⟨m, _, hm⟩ := max_of (fun x => hAt h x - p x) (List.range n) (fun e => z (by simpa using e))
      exact ⟨_, fun x hx => hm x (List.mem_range.mpr hx)⟩
  obtain ⟨M, hM⟩ := this
  exact settle_all hin hp n [] M h ⟨hl, (fun _ q => nomatch q), fun x hx _ => hM x hx, (fun _ _ q => nomatch q), (fun _ _ q => nomatch q)⟩ List.nodup_nil (fun _ q => nomatch q) (by simp)
end

/-! ### prices and arcs -/
theorem arcs_mem {ds : List Debt} {cs : List Int} {a : Arc} : a ∈ arcsOf ds cs ↔ ∃ (i : Nat) (d : Debt) (c : Int), ds[i]? = some d ∧ cs[i]? = some c ∧ a ∈ arcs2 d c := by
  unfold arcsOf
  rw [List.mem_flatMap]
  constructor
  · rintro ⟨q, hq, ha⟩
    obtain ⟨k, hk, rfl⟩ := List.getElem_of_mem hq
    have hk' : k < ds.length ∧ k < cs.length := by
      rw [List.length_zip] at hk
      omega
    rw [List.getElem_zip] at ha
    exact ⟨k, ds[k], cs[k], List.getElem?_eq_getElem hk'.1, List.getElem?_eq_getElem hk'.2, ha⟩
  · rintro ⟨i, d, c, e1, e2, ha⟩
    refine ⟨(d, c), ?_, ha⟩
    refine List.mem_of_getElem? (i := i) ?_
    rw [List.getElem?_zip_eq_some]
    exact ⟨e1, e2⟩
theorem arcs2_mem {d : Debt} {c : Int} {a : Arc} : a ∈ arcs2 d c ↔ (c < d.2.2 ∧ a = (d.1.toNat, d.2.1.toNat, 1)) ∨ (0 < c ∧ a = (d.2.1.toNat, d.1.toNat, -1)) := by
  unfold arcs2
  rw [List.mem_append]
  by_cases h1 : c < d.2.2 <;> by_cases h2 : 0 < c <;> simp [h1, h2]
theorem arcs_in {n : Int} {ds : List Debt} {cs : List Int} (hd : ∀ d ∈ ds, InB n d) : ∀ a ∈ arcsOf ds cs, a.1 < n.toNat ∧ a.2.1 < n.toNat := by
  intro a ha
  obtain ⟨i, d, c, e1, e2, h⟩ := arcs_mem.mp ha
  obtain ⟨a0, an, b0, bn⟩ := hd d (List.mem_of_getElem? e1)
  rcases arcs2_mem.mp h with ⟨_, rfl⟩ | ⟨_, rfl⟩
  · exact ⟨by show d.1.toNat < n.toNat; omega, by show d.2.1.toNat < n.toNat; omega⟩
  · exact ⟨by show d.2.1.toNat < n.toNat; omega, by show d.1.toNat < n.toNat; omega⟩
theorem shows_arcs {ds : List Debt} {cs : List Int} {n : Int} (hd : ∀ d ∈ ds, InB n d) (p : Int → Int) : Shows p ds cs ↔ ∀ a ∈ arcsOf ds cs, p (a.1 : Int) + a.2.2 ≤ p (a.2.1 : Int) := by
  constructor
  · intro h a ha
    obtain ⟨i, d, c, e1, e2, h2⟩ := arcs_mem.mp ha
    obtain ⟨a0, an, b0, bn⟩ := hd d (List.mem_of_getElem? e1)
    have z := h i d c e1 e2
    unfold lure at z
    have ea : ((d.1.toNat : Nat) : Int) = d.1 := Int.toNat_of_nonneg a0
    have eb : ((d.2.1.toNat : Nat) : Int) = d.2.1 := Int.toNat_of_nonneg b0
    rcases arcs2_mem.mp h2 with ⟨h3, rfl⟩ | ⟨h3, rfl⟩
    · show p ((d.1.toNat : Nat) : Int) + 1 ≤ p ((d.2.1.toNat : Nat) : Int)
      rw [ea, eb]
      by_cases q : 0 < 1 + p d.1 - p d.2.1
      · have := z.2 q
        omega
      · omega
    · show p ((d.2.1.toNat : Nat) : Int) + -1 ≤ p ((d.1.toNat : Nat) : Int)
      rw [ea, eb]
      by_cases q : 1 + p d.1 - p d.2.1 < 0
      · have := z.1 q
        omega
      · omega
  · intro h i d c e1 e2
    obtain ⟨a0, an, b0, bn⟩ := hd d (List.mem_of_getElem? e1)
    have ea : ((d.1.toNat : Nat) : Int) = d.1 := Int.toNat_of_nonneg a0
    have eb : ((d.2.1.toNat : Nat) : Int) = d.2.1 := Int.toNat_of_nonneg b0
    unfold lure
    constructor
    · intro q
      by_cases c0 : 0 < c
      · have z := h _ (arcs_mem.mpr ⟨i, d, c, e1, e2, arcs2_mem.mpr (.inr ⟨c0, rfl⟩)⟩)
        have z' : p ((d.2.1.toNat : Nat) : Int) + -1 ≤ p ((d.1.toNat : Nat) : Int) := z
        rw [ea, eb] at z'
        omega
      · omega
    · intro q
      by_cases c0 : c < d.2.2
      · have z := h _ (arcs_mem.mpr ⟨i, d, c, e1, e2, arcs2_mem.mpr (.inl ⟨c0, rfl⟩)⟩)
        have z' : p ((d.1.toNat : Nat) : Int) + 1 ≤ p ((d.2.1.toNat : Nat) : Int) := z
        rw [ea, eb] at z'
        omega
      · omega
/-- the rising comes to rest just where some prices show the cut -/
def settlesB (n : Int) (ds : List Debt) (cs : List Int) : Bool := settle (arcsOf ds cs) (n.toNat + 1) (List.replicate n.toNat 0)
theorem settles_iff {n : Int} {ds : List Debt} {cs : List Int} (hd : ∀ d ∈ ds, InB n d) : settlesB n ds cs = true ↔ ∃ p : Int → Int, Shows p ds cs := by
  constructor
  · intro h
    obtain ⟨p, hp⟩ := settle_prices _ _ _ h
    exact ⟨fun x => p x.toNat, (shows_arcs hd _).mpr fun a ha => by
      have z := hp a ha
      show p ((a.1 : Int).toNat) + a.2.2 ≤ p ((a.2.1 : Int).toNat)
      rw [Int.toNat_natCast, Int.toNat_natCast]
      exact z⟩
  · rintro ⟨p, hp⟩
    exact settle_rest (p := fun k => p (k : Int)) (arcs_in hd) ((shows_arcs hd p).mp hp) List.length_replicate
end Cd

/-! Clearday: what the program's functions are held to (best.py), and what prices are. -/
namespace Cd
open PySem PySem.Spec PyProof.Rows L2

/-! ### a method of a list within a comprehension -/
theorem pe_bmK {K : PySem.W.Frag} {X : Cx} {o e : Expr} {es : List Expr} {to : TE} {t : TA} {name : Str} {apos cpos : Pos} {T id : String} {r : V → List V → Hp → VK → Prop} (hK : X.K = K)
    (h1 : PlainAttrs T) (h2 : Slot T name id) (h3 : typeOf (Value.builtin id) = pure (Value.type "method_descriptor")) (h4 : MtR X id r) (h5 : PE X o to) (h6 : PA X (e :: es) t)
    (h7 : attributeBase o name X.env (eval o X.env) = eval o X.env := by rfl)
    (h8 : ((((backTo cpos (starEach (e :: es) X.env)).all fun x => !x.fst) && (backToKw cpos (keywordEach [] X.env)).all fun x => x.fst.isSome) && decide (((e :: es).length + ([] : List Nat).length + if ([] : List Nat).isEmpty = true then 0 else 1) < 30)) = true := by rfl)
    (h9 : (apos.endLine == cpos.line) = true := by rfl)
    (h10 : starEach (e :: es) X.env = (false, eval e X.env) :: starEach es X.env := by rfl)
    (h11 : ((backTo cpos (starEach es X.env)).any fun x => x.fst) = false := by rfl) : PE X ((o.Attribute name apos).Call (e :: es) [] cpos) (tBM K T r to t) := by
  subst hK
  exact pe_bm h1 h2 h3 h4 h5 h6 h7 h8 h9 h10 h11

/-! ### prices as a list -/
def priceAt (ts : List Int) (x : Int) : Int := ts.getD x.toNat 0
def showB (p : Int → Int) (q : Debt × Int) : Bool := !(decide (lure p q.1 < 0) && decide (0 < q.2)) && !(decide (0 < lure p q.1) && decide (q.2 < q.1.2.2))
def showsB (p : Int → Int) (ds : List Debt) (cs : List Int) : Bool := (ds.zip cs).all (showB p)
theorem showsB_iff (p : Int → Int) : ∀ (ds : List Debt) (cs : List Int), showsB p ds cs = true ↔ Shows p ds cs
  | [], cs => ⟨fun _ i d c h => by simp at h, fun _ => rfl⟩
  | d :: ds, [] => ⟨fun _ i d c _ h => by simp at h, fun _ => rfl⟩
  | d :: ds, c :: cs => by
    have ih := showsB_iff p ds cs
    unfold showsB at ih ⊢
    rw [List.zip_cons_cons, List.all_cons, Bool.and_eq_true, ih]
    unfold showB
    simp only [Bool.and_eq_true, Bool.not_eq_true', Bool.and_eq_false_iff, decide_eq_false_iff_not]
    constructor
    · rintro ⟨⟨h1, h2⟩, h3⟩ i e x e1 e2
      cases i with
      | zero =>
        cases (Option.some.inj e1 : _ = _)
        cases (Option.some.inj e2 : _ = _)
        omega
      | succ i => exact h3 i e x e1 e2
    · intro h
      have z := h 0 d c rfl rfl
      exact ⟨by omega, fun i e x e1 e2 => h (i + 1) e x e1 e2⟩
/-! ### what is a list of prices -/
def okTags (n : Int) (d : PyData) : Bool := match d with
  | .list es => decide ((es.length : Int) = n) && es.all isInt
  | _ => false
/-! ### data that leans on no heap -/
def flat : PyData → Bool
  | .none => true
  | .bool _ => true
  | .int _ => true
  | .str _ => true
  | _ => false
theorem dp_flat {K : PySem.W.Frag} {H H' : Hp} : ∀ (d : PyData) (v : V), flat d = true → Dp K H v d → Dp K H' v d
  | .none, _, _, h => by cases h; exact .non
  | .bool b, _, _, h => by cases h; exact .bl b
  | .int i, _, _, h => by cases h; exact .int i
  | .str x, _, _, h => by cases h; exact .str x
  | .list _, _, f, _ => by cases f
  | .tuple _, _, f, _ => by cases f
  | .dict _, _, f, _ => by cases f
theorem dpA_flat {K : PySem.W.Frag} {H H' : Hp} : ∀ (ds : List PyData) (vs : List V), ds.all flat = true → DpAll K H vs ds → DpAll K H' vs ds
  | [], _, _, h => by cases h; exact .nil
  | d :: ds, _, f, h => by
    rw [List.all_cons, Bool.and_eq_true] at f
    cases h with
    | cons h1 h2 => exact .cons (dp_flat d _ f.1 h1) (dpA_flat ds _ f.2 h2)
/-! ### cuts that grow -/
theorem isCut_snoc {ds : List Debt} {cs : List Int} {k : Nat} {d : Debt} {z : Int} (hc : IsCut (ds.take k) cs) (hd : ds[k]? = some d) (z0 : 0 ≤ z) (zM : z ≤ d.2.2) : IsCut (ds.take (k + 1)) (cs ++ [z]) := by
  have hk : k < ds.length := (List.getElem?_eq_some_iff.mp hd).1
  have hcl := hc.len
  rw [List.length_take] at hcl
  refine ⟨?_, ?_⟩
  · rw [List.length_append, List.length_take]
    show cs.length + 1 = _
    omega
  · intro i e x e1 e2
    by_cases hi : i < cs.length
    · rw [List.getElem?_append_left hi] at e2
      refine hc.at_ i e x ?_ e2
      rw [List.getElem?_take] at e1 ⊢
      rw [if_pos (by omega)] at e1 ⊢
      exact e1
    · have hi2 : i < (ds.take (k + 1)).length := (List.getElem?_eq_some_iff.mp e1).1
      rw [List.length_take] at hi2
      have hik : i = k := by omega
      subst hik
      rw [List.getElem?_append_right (by omega)] at e2
      have e3 : i - cs.length = 0 := by omega
      rw [e3] at e2
      cases (Option.some.inj e2 : _ = _)
      rw [List.getElem?_take, if_pos (by omega), hd] at e1
      cases e1
      exact ⟨z0, zM⟩
theorem isCut_set {ds : List Debt} {cs : List Int} {k : Nat} {d : Debt} {z : Int} (hc : IsCut ds cs) (hd : ds[k]? = some d) (z0 : 0 ≤ z) (zM : z ≤ d.2.2) : IsCut ds (cs.set k z) := by
  refine ⟨by rw [List.length_set, hc.len], fun i e x e1 e2 => ?_⟩
  by_cases h : k = i
  · subst h
    have hk : k < cs.length := by
      rw [hc.len]
      exact (List.getElem?_eq_some_iff.mp hd).1
    rw [List.getElem?_set_self hk] at e2
    cases (Option.some.inj e2 : _ = _)
    rw [hd] at e1
    cases e1
    exact ⟨z0, zM⟩
  · rw [List.getElem?_set_ne h] at e2
    exact hc.at_ i e x e1 e2
/-! ### what is asked of the program's functions -/
def spShown (K : PySem.W.Frag) (C2 C4 : Addr) : Sp := fun vs H Q E => ∃ (n : Int) (a : Addr) (ds : List Debt) (v u : V) (dv du : PyData), vs = [.int n, .ref a, v, u] ∧ 1 ≤ n ∧ n ≤ 20 ∧ (∀ d ∈ ds, InB n d) ∧ DL K H a ds ∧ ds.length ≤ 100 ∧ Amts ds ∧ Dp K H v dv ∧ Dp K H u du ∧
  (okCut ds dv = false → ∀ H', Same H H' → E (.ref C2) none H') ∧ (okCut ds dv = true → okTags n du = false → ∀ H', Same H H' → E (.ref C4) none H') ∧
  (∀ cs ts, dv = .list (cs.map PyData.int) → IsCut ds cs → du = .list (ts.map PyData.int) → (ts.length : Int) = n → ∀ H', Same H H' → Q (.bl (showsB (priceAt ts) ds cs)) H')
/-! ### rings and orders -/
/-- a rank that each debt raises -/
def Acyc (ds : List Debt) : Prop := ∃ r : Int → Int, ∀ d ∈ ds, r d.1 < r d.2.1
/-- all houses, each debt leading from one to a later one -/
structure IsOrd (n : Int) (ds : List Debt) (os : List Int) : Prop where
  perm : os.Perm ((List.range n.toNat).map fun i : Nat => (i : Int))
  rise : ∀ d ∈ ds, os.idxOf d.1 < os.idxOf d.2.1
theorem IsOrd.acyc {n : Int} {ds : List Debt} {os : List Int} (h : IsOrd n ds os) : Acyc ds := ⟨fun x => (os.idxOf x : Int), fun d hd => by
  have := h.rise d hd
  show ((os.idxOf d.1 : Nat) : Int) < ((os.idxOf d.2.1 : Nat) : Int)
  omega⟩
theorem sum_perm {l k : List Int} (h : l.Perm k) : l.sum = k.sum := by
  induction h with
  | nil => rfl
  | cons x _ ih => rw [List.sum_cons, List.sum_cons, ih]
  | swap x y l =>
    rw [List.sum_cons, List.sum_cons, List.sum_cons, List.sum_cons]
    omega
  | trans _ _ h1 h2 => rw [h1, h2]
theorem sum_less (f g : Nat → Int) : ∀ l : List Nat, (∀ i ∈ l, f i < g i) → (l.map f).sum + l.length ≤ (l.map g).sum
  | [], _ => Int.le_refl _
  | a :: l, h => by
    have ih := sum_less f g l fun i hi => h i (List.mem_cons_of_mem _ hi)
    have := h a List.mem_cons_self
    rw [List.map_cons, List.map_cons, List.sum_cons, List.sum_cons, List.length_cons]
    omega
/-- a book with a ring has no such rank -/
theorem RingOf.not_acyc {ds : List Debt} {r : List Nat} (h : RingOf ds r) : ¬ Acyc ds := by
  rintro ⟨p, hp⟩
  have z := sum_less (fun i => p (dbt ds i).1) (fun i => p (dbt ds i).2.1) r fun i hi => hp _ (List.mem_of_getElem? (dbt_at (h.path.lt i hi)))
  have e : (r.map fun i => p (dbt ds i).2.1).sum = (r.map fun i => p (dbt ds i).1).sum := by
    have e1 : (r.map fun i => p (dbt ds i).2.1) = (r.map fun i => (dbt ds i).2.1).map p := by rw [List.map_map]; rfl
    have e2 : (r.map fun i => p (dbt ds i).1) = (r.map fun i => (dbt ds i).1).map p := by rw [List.map_map]; rfl
    rw [e1, e2]
    refine sum_perm (List.Perm.map p ?_)
    rw [h.turn]
    have q := List.take_append_drop 1 (r.map fun i => (dbt ds i).1)
    exact (List.perm_append_comm).trans (List.Perm.of_eq q)
  have := h.ne
  omega
def spRing (K : PySem.W.Frag) : Sp := fun vs H Q _ => ∃ (n : Int) (a : Addr) (ds : List Debt), vs = [.int n, .ref a] ∧ 1 ≤ n ∧ n ≤ 20 ∧ Goods n ds ∧ DL K H a ds ∧ ds.length ≤ 60 ∧
  (∀ H', Same H H' → Acyc ds → Q .non H') ∧ (∀ H' p r, Same H H' → H p = none → H' p = some (.lst (idxV r)) → RingOf ds r → Q (.ref p) H')
def spOrder (K : PySem.W.Frag) : Sp := fun vs H Q _ => ∃ (n : Int) (a : Addr) (ds : List Debt), vs = [.int n, .ref a] ∧ 1 ≤ n ∧ n ≤ 20 ∧ Goods n ds ∧ DL K H a ds ∧ ds.length ≤ 60 ∧
  (∀ H', Same H H' → (∃ r, RingOf ds r) → Q .non H') ∧ (∀ (H' : Hp) (p : Addr) (os : List Int), Same H H' → H p = none → H' p = some (.lst (os.map V.int)) → IsOrd n ds os → Q (.ref p) H')
/-- what better and prices are handed -/
structure Handed (K : PySem.W.Frag) (H : Hp) (n : Int) (a : Addr) (ds : List Debt) (v : V) (dv : PyData) : Prop where
  n1 : 1 ≤ n
  nM : n ≤ 20
  good : Goods n ds
  dl : DL K H a ds
  len : ds.length ≤ 60
  dp : Dp K H v dv
def Better (ds : List Debt) (cs bs : List Int) : Prop := IsCut ds bs ∧ EvenC ds bs ∧ cs.sum < bs.sum
def spBetter (K : PySem.W.Frag) (C2 C3 : Addr) : Sp := fun vs H Q E => ∃ (n : Int) (a : Addr) (ds : List Debt) (v : V) (dv : PyData), vs = [.int n, .ref a, v] ∧ Handed K H n a ds v dv ∧
  (okCut ds dv = false → ∀ H', Same H H' → E (.ref C2) none H') ∧ (∀ cs, dv = .list (cs.map PyData.int) → IsCut ds cs → ¬ EvenC ds cs → ∀ H', Same H H' → E (.ref C3) none H') ∧
  (∀ cs, dv = .list (cs.map PyData.int) → IsCut ds cs → EvenC ds cs → (∃ p, Shows p ds cs) → ∀ H', Same H H' → Q .non H') ∧
  (∀ cs, dv = .list (cs.map PyData.int) → IsCut ds cs → EvenC ds cs → ∀ (H' : Hp) (b : Addr) (bs : List Int), Same H H' → H b = none → H' b = some (.lst (bs.map V.int)) → Better ds cs bs → Q (.ref b) H')
def spPrices (K : PySem.W.Frag) (C2 C3 C5 : Addr) : Sp := fun vs H Q E => ∃ (n : Int) (a : Addr) (ds : List Debt) (v : V) (dv : PyData), vs = [.int n, .ref a, v] ∧ Handed K H n a ds v dv ∧
  (okCut ds dv = false → ∀ H', Same H H' → E (.ref C2) none H') ∧ (∀ cs, dv = .list (cs.map PyData.int) → IsCut ds cs → ¬ EvenC ds cs → ∀ H', Same H H' → E (.ref C3) none H') ∧
  (∀ cs, dv = .list (cs.map PyData.int) → IsCut ds cs → EvenC ds cs → (∃ bs, Better ds cs bs) → ∀ H', Same H H' → E (.ref C5) none H') ∧
  (∀ cs, dv = .list (cs.map PyData.int) → IsCut ds cs → EvenC ds cs → ∀ (H' : Hp) (t : Addr) (ts : List Int), Same H H' → H t = none → H' t = some (.lst (ts.map V.int)) → (ts.length : Int) = n → Shows (priceAt ts) ds cs → Q (.ref t) H')
/-- a cut that prices show has no better one -/
theorem Shows.best {n : Int} {p : Int → Int} {ds : List Debt} {cs bs : List Int} (hd : ∀ d ∈ ds, InB n d) (hs : Shows p ds cs) (hc : IsCut ds cs) (he : EvenC ds cs) : ¬ Better ds cs bs := fun ⟨b1, b2, b3⟩ => by
  have := shows_best hd hc hs he b1 b2
  omega
/-- one number more or less makes an even cut uneven -/
theorem uneven_set {ds : List Debt} {cs : List Int} {k : Nat} {d : Debt} {c : Int} (x : Int) (he : EvenC ds cs) (e1 : ds[k]? = some d) (e2 : cs[k]? = some c) (ne : d.1 ≠ d.2.1) (hx : x ≠ c) : ¬ EvenC ds (cs.set k x) := fun h => by
  have z := h d.1
  rw [sumBy_set _ d.1 x e1 e2, sumBy_set _ d.1 x e1 e2, he d.1, if_pos rfl, if_neg (fun q => ne q.symm)] at z
  omega
end Cd

/-! Clearday: ways back that end in a circle. -/
namespace Cd

/-- k steps back -/
def walk (nx : Nat → Option Nat) : Nat → Nat → Option Nat
  | 0, v => some v
  | k + 1, v => (walk nx k v).bind nx
theorem walk_add (nx : Nat → Option Nat) (j : Nat) (v : Nat) : ∀ k, walk nx (j + k) v = (walk nx j v).bind (walk nx k)
  | 0 => by cases h : walk nx j v <;> rfl
  | k + 1 => by
    show (walk nx (j + k) v).bind nx = _
    rw [walk_add nx j v k]
    cases walk nx j v <;> rfl
theorem walk_some {nx : Nat → Option Nat} {k v z : Nat} (h : walk nx k v = some z) (i : Nat) (hi : i ≤ k) : ∃ y, walk nx i v = some y := by
  have e : walk nx (i + (k - i)) v = some z := by
    rw [← h]
    congr 1
    omega
  rw [walk_add] at e
  cases q : walk nx i v with
  | none =>
    rw [q] at e
    cases e
  | some y => exact ⟨y, rfl⟩
theorem walk_le {nx : Nat → Option Nat} {k v i y z : Nat} (h : walk nx k v = some z) (hy : walk nx i v = some y) (hi : i ≤ k) : walk nx (k - i) y = some z := by
  have e : walk nx (i + (k - i)) v = some z := by
    rw [← h]
    congr 1
    omega
  rw [walk_add, hy] at e
  exact e
theorem pigeon : ∀ (n : Nat) (f : Nat → Nat), (∀ k, k ≤ n → f k < n) → ∃ i j, i < j ∧ j ≤ n ∧ f i = f j
  | 0, f, h => absurd (h 0 (Nat.le_refl 0)) (Nat.not_lt_zero _)
  | n + 1, f, h => by
    by_cases e : ∃ k, k ≤ n ∧ f k = f (n + 1)
    · obtain ⟨k, hk, ek⟩ := e
      exact ⟨k, n + 1, by omega, Nat.le_refl _, ek⟩
    · have e : ∀ k, k ≤ n → f k ≠ f (n + 1) := fun k hk z => e ⟨k, hk, z⟩
      obtain ⟨i, j, h1, h2, h3⟩ := pigeon n (fun k => if f k = n then f (n + 1) else f k) (fun k hk => by
        have a := h k (by omega)
        have b := h (n + 1) (Nat.le_refl _)
        have c := e k hk
        show (if f k = n then f (n + 1) else f k) < n
        split <;> omega)
      refine ⟨i, j, h1, by omega, ?_⟩
      have a := e i (by omega)
      have b := e j h2
      have h3 : (if f i = n then f (n + 1) else f i) = (if f j = n then f (n + 1) else f j) := h3
      split at h3 <;> split at h3 <;> omega
/-- as many steps as there are houses end in a circle -/
theorem on_circle {nx : Nat → Option Nat} {n v c : Nat} (h : walk nx n v = some c) (hb : ∀ k y, k ≤ n → walk nx k v = some y → y < n) : ∃ m, 0 < m ∧ m ≤ n ∧ walk nx m c = some c := by
  obtain ⟨i, j, h1, h2, h3⟩ := pigeon n (fun k => (walk nx k v).getD 0) (fun k hk => by
    obtain ⟨y, hy⟩ := walk_some h k hk
    show (walk nx k v).getD 0 < n
    rw [hy]
    exact hb k y hk hy)
  obtain ⟨y, hy⟩ := walk_some h i (by omega)
  obtain ⟨y', hy'⟩ := walk_some h j (by omega)
  have h3 : (walk nx i v).getD 0 = (walk nx j v).getD 0 := h3
  rw [hy, hy'] at h3
  have h3 : y = y' := h3
  subst h3
  have e1 : walk nx (j - i) y = some y := walk_le hy' hy (by omega)
  have e2 : walk nx (n - i) y = some c := walk_le h hy (by omega)
  refine ⟨j - i, by omega, by omega, ?_⟩
  have e3 : walk nx ((j - i) + (n - i)) y = some c := by
    rw [walk_add, e1]
    exact e2
  exact walk_le (by rw [Nat.add_comm (n - i) (j - i)]; exact e3 : walk nx ((n - i) + (j - i)) y = some c) e2 (by omega) |> fun z => by
    have q : n - i + (j - i) - (n - i) = j - i := by omega
    rw [q] at z
    exact z
theorem least_of {p : Nat → Prop} : ∀ m, p m → ∃ k, p k ∧ ∀ i, i < k → ¬ p i := fun m => by
  induction m using Nat.strongRecOn with
  | _ m ih =>
    intro h
    by_cases e : ∃ i, i < m ∧ p i
    · obtain ⟨i, hi, hp⟩ := e
      exact ih i hi hp
    · exact ⟨m, h, fun i hi hp => e ⟨i, hi, hp⟩⟩
/-- the round from c: m steps and no fewer lead back -/
structure Round (nx : Nat → Option Nat) (m c : Nat) : Prop where
  pos : 0 < m
  back : walk nx m c = some c
  least : ∀ k, 0 < k → k < m → walk nx k c ≠ some c
theorem round_of {nx : Nat → Option Nat} {m c : Nat} (h0 : 0 < m) (h : walk nx m c = some c) : ∃ k, k ≤ m ∧ Round nx k c := by
  obtain ⟨k, ⟨k0, hk⟩, hl⟩ := least_of (p := fun m => 0 < m ∧ walk nx m c = some c) m ⟨h0, h⟩
  refine ⟨k, ?_, k0, hk, fun i i0 ik e => hl i ik ⟨i0, e⟩⟩
  rcases Nat.lt_or_ge m k with z | z
  · exact absurd ⟨h0, h⟩ (hl m z)
  · exact z
/-- the i-th house of the way back -/
def wAt (nx : Nat → Option Nat) (c i : Nat) : Nat := (walk nx i c).getD 0
theorem Round.at_ {nx : Nat → Option Nat} {m c i : Nat} (h : Round nx m c) (hi : i ≤ m) : walk nx i c = some (wAt nx c i) := by
  obtain ⟨y, hy⟩ := walk_some h.back i hi
  unfold wAt
  rw [hy]
  rfl
theorem Round.zero {nx : Nat → Option Nat} {m c : Nat} (h : Round nx m c) : wAt nx c 0 = c := rfl
theorem Round.end_ {nx : Nat → Option Nat} {m c : Nat} (h : Round nx m c) : wAt nx c m = c := by
  unfold wAt
  rw [h.back]
  rfl
theorem Round.next {nx : Nat → Option Nat} {m c i : Nat} (h : Round nx m c) (hi : i < m) : nx (wAt nx c i) = some (wAt nx c (i + 1)) := by
  have e := h.at_ (i := i + 1) (by omega)
  have e1 : walk nx (i + 1) c = (walk nx i c).bind nx := rfl
  rw [e1, h.at_ (by omega)] at e
  exact e
theorem Round.ne {nx : Nat → Option Nat} {m c i : Nat} (h : Round nx m c) (h0 : 0 < i) (hi : i < m) : wAt nx c i ≠ c := fun e => by
  have z := h.at_ (i := i) (by omega)
  rw [e] at z
  exact h.least i h0 hi z
theorem Round.inj {nx : Nat → Option Nat} {m c i j : Nat} (h : Round nx m c) (hi : i < j) (hj : j < m) : wAt nx c i ≠ wAt nx c j := fun e => by
  have e1 := h.at_ (i := i) (by omega)
  have e2 := h.at_ (i := j) (by omega)
  rw [← e] at e2
  have e3 : walk nx (m - j) (wAt nx c i) = some c := walk_le h.back e2 (by omega)
  have e4 : walk nx (i + (m - j)) c = some c := by
    rw [walk_add, e1]
    exact e3
  exact h.least _ (by omega) (by omega) e4
/-- the houses of the way back -/
def rnd (nx : Nat → Option Nat) (c m : Nat) : List Nat := (List.range m).map (wAt nx c)
theorem rnd_len (nx : Nat → Option Nat) (c m : Nat) : (rnd nx c m).length = m := by
  unfold rnd
  rw [List.length_map, List.length_range]
theorem rnd_at {nx : Nat → Option Nat} {c m i : Nat} (h : i < m) : (rnd nx c m)[i]? = some (wAt nx c i) := by
  unfold rnd
  rw [List.getElem?_map, List.getElem?_range h]
  rfl
theorem rnd_get {nx : Nat → Option Nat} {c m i x : Nat} (h : (rnd nx c m)[i]? = some x) : i < m ∧ x = wAt nx c i := by
  have hi := (List.getElem?_eq_some_iff.mp h).1
  rw [rnd_len] at hi
  rw [rnd_at hi] at h
  exact ⟨hi, (Option.some.inj h).symm⟩
theorem rnd_add (nx : Nat → Option Nat) (c m : Nat) : rnd nx c (m + 1) = rnd nx c m ++ [wAt nx c m] := by
  unfold rnd
  rw [List.range_succ, List.map_append]
  rfl
theorem Round.nodup {nx : Nat → Option Nat} {m c : Nat} (h : Round nx m c) : (rnd nx c m).Nodup := by
  rw [List.nodup_iff_pairwise_ne, List.pairwise_iff_getElem]
  intro i j hi hj hij
  have a := rnd_at (nx := nx) (c := c) (m := m) (i := i) (by rw [rnd_len] at hi; exact hi)
  have b := rnd_at (nx := nx) (c := c) (m := m) (i := j) (by rw [rnd_len] at hj; exact hj)
  rw [List.getElem?_eq_getElem hi] at a
  rw [List.getElem?_eq_getElem hj] at b
  rw [Option.some.inj a, Option.some.inj b]
  rw [rnd_len] at hj
  exact h.inj hij hj
/-- the houses one further back are the same ones -/
theorem Round.shift {nx : Nat → Option Nat} {m c : Nat} (h : Round nx m c) : ((List.range m).map fun i => wAt nx c (i + 1)).Perm (rnd nx c m) := by
  obtain ⟨k, rfl⟩ : ∃ k, m = k + 1 := ⟨m - 1, by have := h.pos; omega⟩
  have e1 : ((List.range (k + 1)).map fun i => wAt nx c (i + 1)) = ((List.range k).map fun i => wAt nx c (i + 1)) ++ [c] := by
    rw [List.range_succ, List.map_append]
    show _ ++ [wAt nx c (k + 1)] = _
    rw [h.end_]
  have e2 : rnd nx c (k + 1) = [c] ++ ((List.range k).map fun i => wAt nx c (i + 1)) := by
    unfold rnd
    rw [List.range_succ_eq_map, List.map_cons, List.map_map]
    rfl
  rw [e1, e2]
  exact List.perm_append_comm
/-- what a way back gains -/
def gsum (nx : Nat → Option Nat) (gn : Nat → Int) : Nat → Nat → Int
  | 0, _ => 0
  | k + 1, v => gsum nx gn k v + gn (wAt nx v k)
theorem gsum_rnd (nx : Nat → Option Nat) (gn : Nat → Int) (c : Nat) : ∀ m, gsum nx gn m c = ((rnd nx c m).map gn).sum
  | 0 => rfl
  | m + 1 => by
    rw [rnd_add, List.map_append, List.sum_append, ← gsum_rnd nx gn c m]
    show gsum nx gn m c + gn (wAt nx c m) = _
    simp
end Cd

/-! Clearday: heights that are climbed, and rings of moves that gain. -/
namespace Cd

/-- from, to, what a unit gains, the debt's number -/
abbrev Way := Nat × Nat × Int × Nat
def nxB (b : List (Option Nat)) (v : Nat) : Option Nat := b.getD v none
def lsL (l : List (Option (Nat × Int))) (v : Nat) : Nat × Int := (l.getD v none).getD (0, 0)
def gnL (l : List (Option (Nat × Int))) (v : Nat) : Int := (lsL l v).2
def hgt (h : List Int) (i : Nat) : Int := h.getD i 0
theorem getD_setT {α : Type} (l : List α) (i h : Nat) (x z : α) (hi : i < l.length) : (l.set i x).getD h z = if i = h then x else l.getD h z := by
  by_cases e : i = h
  · subst e
    rw [if_pos rfl, List.getD_eq_getElem?_getD, List.getElem?_set_self hi]
    rfl
  · rw [if_neg e, List.getD_eq_getElem?_getD, List.getElem?_set_ne e, ← List.getD_eq_getElem?_getD]
theorem gsum_pot {nx : Nat → Option Nat} {gn h : Nat → Int} (hE : ∀ x y, nx x = some y → h x ≤ h y + gn x) {w : Nat} : ∀ {k z : Nat}, walk nx k w = some z → h w ≤ h z + gsum nx gn k w
  | 0, z, e => by
    have e : some w = some z := e
    cases e
    show h w ≤ h w + 0
    omega
  | k + 1, z, e => by
    obtain ⟨y, hy⟩ := walk_some e k (by omega)
    have ih := gsum_pot hE (w := w) hy
    have e1 : walk nx (k + 1) w = (walk nx k w).bind nx := rfl
    rw [e1, hy] at e
    have z1 := hE y z e
    have z2 : wAt nx w k = y := by
      unfold wAt
      rw [hy]
      rfl
    show h w ≤ h z + (gsum nx gn k w + gn (wAt nx w k))
    rw [z2]
    omega
theorem gsum_sub {nx : Nat → Option Nat} (gn e : Nat → Int) (w : Nat) : ∀ k, gsum nx (fun x => gn x - e x) k w = gsum nx gn k w - gsum nx e k w
  | 0 => rfl
  | k + 1 => by
    show gsum nx (fun x => gn x - e x) k w + (gn (wAt nx w k) - e (wAt nx w k)) = gsum nx gn k w + gn (wAt nx w k) - (gsum nx e k w + e (wAt nx w k))
    rw [gsum_sub gn e w k]
    omega
theorem gsum_visit {nx : Nat → Option Nat} (v w : Nat) : ∀ k, 0 ≤ gsum nx (fun x => if x = v then 1 else 0) k w ∧ (gsum nx (fun x => if x = v then 1 else 0) k w = 0 → ∀ i, i < k → wAt nx w i ≠ v)
  | 0 => ⟨Int.le_refl _, fun _ i hi => absurd hi (Nat.not_lt_zero i)⟩
  | k + 1 => by
    obtain ⟨h1, h2⟩ := gsum_visit (nx := nx) v w k
    have e : gsum nx (fun x => if x = v then 1 else 0) (k + 1) w = gsum nx (fun x => if x = v then 1 else 0) k w + if wAt nx w k = v then 1 else 0 := rfl
    rw [e]
    by_cases q : wAt nx w k = v
    · rw [if_pos q]
      exact ⟨by omega, fun z => by omega⟩
    · rw [if_neg q]
      refine ⟨by omega, fun z i hi => ?_⟩
      by_cases hik : i = k
      · rw [hik]
        exact q
      · exact h2 (by omega) i (by omega)
theorem walk_agree {nx ny : Nat → Option Nat} {v : Nat} (ha : ∀ x, x ≠ v → nx x = ny x) {w : Nat} : ∀ {k z : Nat}, walk nx k w = some z → (∀ i, i < k → wAt nx w i ≠ v) → walk ny k w = some z
  | 0, _, e, _ => e
  | k + 1, z, e, hv => by
    obtain ⟨y, hy⟩ := walk_some e k (by omega)
    have ih := walk_agree ha (w := w) hy fun i hi => hv i (by omega)
    have e1 : walk nx (k + 1) w = (walk nx k w).bind nx := rfl
    rw [e1, hy] at e
    have z2 : wAt nx w k = y := by
      unfold wAt
      rw [hy]
      rfl
    have z3 := hv k (by omega)
    rw [z2] at z3
    show (walk ny k w).bind ny = some z
    rw [ih]
    show ny y = some z
    rw [← ha y z3]
    exact e
theorem gsum_agree {nx ny : Nat → Option Nat} {gn gm : Nat → Int} {v : Nat} (ha : ∀ x, x ≠ v → nx x = ny x) (hg : ∀ x, x ≠ v → gn x = gm x) {w : Nat} : ∀ {k z : Nat}, walk nx k w = some z → (∀ i, i < k → wAt nx w i ≠ v) → gsum nx gn k w = gsum ny gm k w
  | 0, _, _, _ => rfl
  | k + 1, z, e, hv => by
    obtain ⟨y, hy⟩ := walk_some e k (by omega)
    have ih := gsum_agree ha hg (w := w) hy fun i hi => hv i (by omega)
    have z2 : wAt nx w k = y := by
      unfold wAt
      rw [hy]
      rfl
    have z3 : wAt ny w k = y := by
      unfold wAt
      rw [walk_agree ha hy fun i hi => hv i (by omega)]
      rfl
    show gsum nx gn k w + gn (wAt nx w k) = gsum ny gm k w + gm (wAt ny w k)
    have z4 := hv k (by omega)
    rw [z2] at z4
    rw [ih, z2, z3, hg y z4]

/-- what holds at every time of the climbing -/
structure Cl (n : Nat) (ws : List Way) (h : List Int) (b : List (Option Nat)) (l : List (Option (Nat × Int))) (r : Nat → Nat) : Prop where
  hl : h.length = n
  bl : b.length = n
  ll : l.length = n
  edge : ∀ v u, nxB b v = some u → ∃ q, l.getD v none = some q ∧ (u, v, q.2, q.1) ∈ ws ∧ hgt h v ≤ hgt h u + q.2
  rk : ∀ v, 1 ≤ r v → ∃ u, nxB b v = some u ∧ r v ≤ r u + 1
  pos : ∀ v k, 0 < k → walk (nxB b) k v = some v → 0 < gsum (nxB b) (gnL l) k v
/-- the k-th turn, ahead of the j-th way -/
structure Tn (n : Nat) (ws : List Way) (k j : Nat) (h : List Int) (b : List (Option Nat)) (l : List (Option (Nat × Int))) (r : Nat → Nat) (up : Option Nat) : Prop where
  cl : Cl n ws h b l r
  top : ∀ v, r v ≤ k
  done_ : ∀ i w, i < j → ws[i]? = some w → hgt h w.1 + w.2.2.1 ≤ hgt h w.2.1 ∨ k ≤ r w.1
  todo : ∀ i w, j ≤ i → ws[i]? = some w → hgt h w.1 + w.2.2.1 ≤ hgt h w.2.1 ∨ k ≤ r w.1 + 1
  rest : up = none → ∀ v, r v < k
  last : ∀ v, up = some v → v < n ∧ r v = k
theorem cl_start (n : Nat) (ws : List Way) : Cl n ws (List.replicate n 0) (List.replicate n none) (List.replicate n none) (fun _ => 0) where
  hl := List.length_replicate
  bl := List.length_replicate
  ll := List.length_replicate
  edge := fun v u e => by
    have z : nxB (List.replicate n none) v = none := by
      unfold nxB
      rw [List.getD_eq_getElem?_getD, List.getElem?_replicate]
      split <;> rfl
    rw [z] at e
    cases e
  rk := fun v h => absurd h (by omega)
  pos := fun v k hk e => by
    obtain ⟨y, hy⟩ := walk_some e 1 (by omega)
    have z : nxB (List.replicate n none) v = none := by
      unfold nxB
      rw [List.getD_eq_getElem?_getD, List.getElem?_replicate]
      split <;> rfl
    have e1 : walk (nxB (List.replicate n none)) 1 v = nxB (List.replicate n none) v := rfl
    rw [e1, z] at hy
    cases hy
section
variable {n : Nat} {ws : List Way} {k j : Nat} {h : List Int} {b : List (Option Nat)} {l : List (Option (Nat × Int))} {r : Nat → Nat} {up : Option Nat}
theorem Tn.start (hn : 0 < n) : Tn n ws 1 0 (List.replicate n 0) (List.replicate n none) (List.replicate n none) (fun _ => 0) none where
  cl := cl_start n ws
  top := fun _ => Nat.zero_le _
  done_ := fun i w hi => absurd hi (Nat.not_lt_zero i)
  todo := fun i w _ _ => .inr (Nat.le_refl _)
  rest := fun _ _ => Nat.lt_succ_self 0
  last := fun v e => nomatch e
theorem Tn.next (t : Tn n ws k ws.length h b l r up) : Tn n ws (k + 1) 0 h b l r none where
  cl := t.cl
  top := fun v => Nat.le_succ_of_le (t.top v)
  done_ := fun i w hi => absurd hi (Nat.not_lt_zero i)
  todo := fun i w _ e => by
    rcases t.done_ i w (List.getElem?_eq_some_iff.mp e).1 e with z | z
    · exact .inl z
    · exact .inr (by omega)
  rest := fun _ v => Nat.lt_succ_of_le (t.top v)
  last := fun v e => nomatch e
theorem Tn.skip {w : Way} (t : Tn n ws k j h b l r up) (e : ws[j]? = some w) (hs : hgt h w.1 + w.2.2.1 ≤ hgt h w.2.1) : Tn n ws k (j + 1) h b l r up where
  cl := t.cl
  top := t.top
  done_ := fun i w' hi e' => by
    by_cases q : i < j
    · exact t.done_ i w' q e'
    · have : i = j := by omega
      subst this
      rw [e] at e'
      cases e'
      exact .inl hs
  todo := fun i w' hi e' => t.todo i w' (by omega) e'
  rest := t.rest
  last := t.last
theorem Tn.raise_ {u v num : Nat} {g : Int} (t : Tn n ws k j h b l r up) (hk : 1 ≤ k) (e : ws[j]? = some (u, v, g, num)) (hu : u < n) (hv : v < n) (hs : hgt h v < hgt h u + g) :
    Tn n ws k (j + 1) (h.set v (hgt h u + g)) (b.set v (some u)) (l.set v (some (num, g))) (fun x => if x = v then k else r x) (some v) := by
  have c := t.cl
  have hh : ∀ x, hgt (h.set v (hgt h u + g)) x = if v = x then hgt h u + g else hgt h x := fun x => getD_setT h v x _ 0 (by rw [c.hl]; exact hv)
  have hb : ∀ x, nxB (b.set v (some u)) x = if v = x then some u else nxB b x := fun x => getD_setT b v x _ none (by rw [c.bl]; exact hv)
  have hL : ∀ x, (l.set v (some (num, g))).getD x none = if v = x then some (num, g) else l.getD x none := fun x => getD_setT l v x _ none (by rw [c.ll]; exact hv)
  have mono : ∀ x, hgt h x ≤ hgt (h.set v (hgt h u + g)) x := fun x => by
    rw [hh]
    split
    · rename_i q
      rw [← q]
      omega
    · exact Int.le_refl _
  have ru : k ≤ r u + 1 := by
    rcases t.todo j _ (Nat.le_refl _) e with z | z
    · have z : hgt h u + g ≤ hgt h v := z
      omega
    · exact z
  have rmono : ∀ x, r x ≤ if x = v then k else r x := fun x => by
    split
    · exact t.top x
    · exact Nat.le_refl _
  have other : ∀ w : Way, (hgt h w.1 + w.2.2.1 ≤ hgt h w.2.1 ∨ k ≤ r w.1) → (hgt (h.set v (hgt h u + g)) w.1 + w.2.2.1 ≤ hgt (h.set v (hgt h u + g)) w.2.1 ∨ k ≤ if w.1 = v then k else r w.1) := fun w hw => by
    by_cases q : w.1 = v
    · rw [if_pos q]
      exact .inr (Nat.le_refl _)
    · rw [if_neg q]
      rcases hw with z | z
      · refine .inl ?_
        have m := mono w.2.1
        rw [hh w.1, if_neg (fun z => q z.symm)]
        omega
      · exact .inr z
  refine ⟨⟨by rw [List.length_set, c.hl], by rw [List.length_set, c.bl], by rw [List.length_set, c.ll], ?_, ?_, ?_⟩, ?_, ?_, ?_, (fun z => nomatch z), ?_⟩
  · intro x y exy
    rw [hb] at exy
    by_cases q : v = x
    · rw [if_pos q] at exy
      cases exy
      subst q
      refine ⟨(num, g), by rw [hL, if_pos rfl], List.mem_of_getElem? e, ?_⟩
      have m := mono u
      rw [hh v, if_pos rfl]
      show hgt h u + g ≤ _ + g
      omega
    · rw [if_neg q] at exy
      obtain ⟨p, h1, h2, h3⟩ := c.edge x y exy
      refine ⟨p, by rw [hL, if_neg q, h1], h2, ?_⟩
      have m := mono y
      rw [hh x, if_neg q]
      omega
  · intro x hx
    have hx : 1 ≤ if x = v then k else r x := hx
    show ∃ y, _ ∧ (if x = v then k else r x) ≤ (if y = v then k else r y) + 1
    by_cases q : x = v
    · refine ⟨u, by rw [hb, if_pos q.symm], ?_⟩
      have := rmono u
      rw [if_pos q]
      omega
    · rw [if_neg q] at hx
      obtain ⟨y, h1, h2⟩ := c.rk x hx
      refine ⟨y, by rw [hb, if_neg (fun z => q z.symm), h1], ?_⟩
      have := rmono y
      rw [if_neg q]
      omega
  · intro x m m0 ex
    have gE : ∀ y, gnL (l.set v (some (num, g))) y = if v = y then g else gnL l y := fun y => by
      unfold gnL lsL
      rw [hL]
      split <;> rfl
    have p1 := gsum_pot (nx := nxB (b.set v (some u))) (gn := fun y => gnL (l.set v (some (num, g))) y - if y = v then 1 else 0) (h := hgt h) (fun y z eyz => by
      rw [hb] at eyz
      show hgt h y ≤ hgt h z + (gnL (l.set v (some (num, g))) y - if y = v then 1 else 0)
      rw [gE]
      by_cases q : v = y
      · rw [if_pos q] at eyz ⊢
        cases eyz
        rw [if_pos q.symm, ← q]
        omega
      · rw [if_neg q] at eyz ⊢
        rw [if_neg (fun z => q z.symm)]
        obtain ⟨p, h1, h2, h3⟩ := c.edge y z eyz
        have : gnL l y = p.2 := by
          unfold gnL lsL
          rw [h1]
          rfl
        omega) (w := x) ex
    rw [gsum_sub] at p1
    obtain ⟨q0, q1⟩ := gsum_visit (nx := nxB (b.set v (some u))) v x m
    by_cases q : gsum (nxB (b.set v (some u))) (fun y => if y = v then 1 else 0) m x = 0
    · have nv := q1 q
      have ag : ∀ y, y ≠ v → nxB (b.set v (some u)) y = nxB b y := fun y hy => by
        rw [hb, if_neg (fun z => hy z.symm)]
      have ag2 : ∀ y, y ≠ v → gnL (l.set v (some (num, g))) y = gnL l y := fun y hy => by
        rw [gE, if_neg (fun z => hy z.symm)]
      rw [gsum_agree ag ag2 ex nv]
      exact c.pos x m m0 (walk_agree ag ex nv)
    · omega
  · intro x
    show (if x = v then k else r x) ≤ k
    split
    · exact Nat.le_refl _
    · exact t.top x
  · intro i w hi ei
    by_cases q : i = j
    · subst q
      rw [e] at ei
      cases ei
      show _ ∨ k ≤ if u = v then k else r u
      by_cases q : u = v
      · rw [if_pos q]
        exact .inr (Nat.le_refl _)
      · refine .inl ?_
        show hgt _ u + g ≤ hgt _ v
        rw [hh, hh, if_pos rfl, if_neg (fun z => q z.symm)]
        exact Int.le_refl _
    · exact other w (t.done_ i w (by omega) ei)
  · intro i w hi ei
    show _ ∨ k ≤ (if w.1 = v then k else r w.1) + 1
    by_cases q : w.1 = v
    · rw [if_pos q]
      exact .inr (by omega)
    · rw [if_neg q]
      rcases t.todo i w (by omega) ei with z | z
      · refine .inl ?_
        have m := mono w.2.1
        rw [hh w.1, if_neg (fun z => q z.symm)]
        omega
      · exact .inr z
  · intro x ex
    cases ex
    refine ⟨hv, ?_⟩
    show (if v = v then k else r v) = k
    rw [if_pos rfl]
/-- a turn in which nothing was raised -/
theorem Tn.still (t : Tn n ws k ws.length h b l r none) : ∀ w ∈ ws, hgt h w.1 + w.2.2.1 ≤ hgt h w.2.1 := fun w hw => by
  obtain ⟨i, hi, rfl⟩ := List.getElem_of_mem hw
  rcases t.done_ i _ hi (List.getElem?_eq_getElem hi) with z | z
  · exact z
  · have := t.rest rfl ws[i].1
    omega
theorem Cl.lt (c : Cl n ws h b l r) (hw : ∀ w ∈ ws, w.1 < n ∧ w.2.1 < n) {v u : Nat} (e : nxB b v = some u) : u < n := by
  obtain ⟨q, _, h2, _⟩ := c.edge v u e
  exact (hw _ h2).1
theorem Cl.back (c : Cl n ws h b l r) {v : Nat} : ∀ k, k ≤ r v → ∃ y, walk (nxB b) k v = some y ∧ r v ≤ r y + k
  | 0, _ => ⟨v, rfl, Nat.le_refl _⟩
  | k + 1, hk => by
    obtain ⟨y, h1, h2⟩ := c.back (v := v) k (by omega)
    obtain ⟨u, h3, h4⟩ := c.rk y (by omega)
    refine ⟨u, ?_, by omega⟩
    show (walk (nxB b) k v).bind (nxB b) = some u
    rw [h1]
    exact h3
end
/-- a ring of moves that gains -/
structure Cyc (ws cs : List Way) : Prop where
  ne : cs ≠ []
  sub : ∀ w ∈ cs, w ∈ ws
  perm : (cs.map fun w => w.1).Perm (cs.map fun w => w.2.1)
  nd : (cs.map fun w => w.2.1).Nodup
  pos : 0 < (cs.map fun w => w.2.2.1).sum
  two : ∀ w ∈ cs, ∀ w' ∈ cs, w.1 = w'.2.1 → w'.1 = w.2.1 → 0 < w.2.2.1 + w'.2.2.1
/-- the move that raised a house -/
def moveTo (b : List (Option Nat)) (l : List (Option (Nat × Int))) (v : Nat) : Way := ((nxB b v).getD 0, v, (lsL l v).2, (lsL l v).1)
theorem Cl.cyc {n : Nat} {ws : List Way} {h : List Int} {b : List (Option Nat)} {l : List (Option (Nat × Int))} {r : Nat → Nat} (c : Cl n ws h b l r) {m a : Nat} (R : Round (nxB b) m a) : Cyc ws ((rnd (nxB b) a m).reverse.map (moveTo b l)) := by
  have hx : ∀ x ∈ rnd (nxB b) a m, ∃ y, nxB b x = some y := fun x hx => by
    obtain ⟨i, hi⟩ := List.mem_iff_getElem?.mp hx
    obtain ⟨h1, rfl⟩ := rnd_get hi
    exact ⟨_, R.next h1⟩
  have p1 : ((rnd (nxB b) a m).map fun v => (nxB b v).getD 0) = (List.range m).map fun i => wAt (nxB b) a (i + 1) := by
    unfold rnd
    rw [List.map_map]
    refine List.map_congr_left fun i hi => ?_
    show (nxB b (wAt (nxB b) a i)).getD 0 = _
    rw [R.next (List.mem_range.mp hi)]
    rfl
  refine ⟨?_, ?_, ?_, ?_, ?_, ?_⟩
  · intro e
    have z := congrArg List.length e
    rw [List.length_map, List.length_reverse, rnd_len] at z
    have := R.pos
    simp at z
    omega
  · intro w hw
    obtain ⟨x, hx', rfl⟩ := List.mem_map.mp hw
    obtain ⟨y, hy⟩ := hx x (List.mem_reverse.mp hx')
    obtain ⟨q, h1, h2, _⟩ := c.edge x y hy
    unfold moveTo lsL
    rw [hy, h1]
    exact h2
  · rw [List.map_map, List.map_map]
    have e1 : ((fun w : Way => w.1) ∘ moveTo b l) = fun v => (nxB b v).getD 0 := rfl
    have e2 : ((fun w : Way => w.2.1) ∘ moveTo b l) = id := rfl
    rw [e1, e2, List.map_id]
    refine ((List.reverse_perm _).map _).trans ?_
    rw [p1]
    exact R.shift.trans (List.reverse_perm _).symm
  · rw [List.map_map]
    have e2 : ((fun w : Way => w.2.1) ∘ moveTo b l) = id := rfl
    rw [e2, List.map_id]
    exact ((List.reverse_perm _).nodup_iff).mpr R.nodup
  · have z := c.pos a m R.pos R.back
    rw [gsum_rnd] at z
    rw [List.map_map]
    have e1 : ((fun w : Way => w.2.2.1) ∘ moveTo b l) = gnL l := rfl
    rw [e1, List.map_reverse, List.sum_reverse]
    exact z
  · intro w hw w' hw' e1 e2
    obtain ⟨x, hx1, rfl⟩ := List.mem_map.mp hw
    obtain ⟨x', hx2, rfl⟩ := List.mem_map.mp hw'
    obtain ⟨y, hy⟩ := hx x (List.mem_reverse.mp hx1)
    obtain ⟨y', hy'⟩ := hx x' (List.mem_reverse.mp hx2)
    have e1 : (nxB b x).getD 0 = x' := e1
    have e2 : (nxB b x').getD 0 = x := e2
    rw [hy] at e1
    rw [hy'] at e2
    have e1 : y = x' := e1
    have e2 : y' = x := e2
    rw [e1] at hy
    rw [e2] at hy'
    show 0 < gnL l x + gnL l x'
    clear hw hw' e1 e2 hx1 hx2
    have w2 : walk (nxB b) 2 x = some x := by
      show (nxB b x).bind (nxB b) = some x
      rw [hy]
      exact hy'
    have z := c.pos x 2 (by decide) w2
    have a0 : wAt (nxB b) x 0 = x := rfl
    have a1 : wAt (nxB b) x 1 = x' := by
      unfold wAt
      show (nxB b x).getD 0 = x'
      rw [hy]
      rfl
    have z : 0 < 0 + gnL l (wAt (nxB b) x 0) + gnL l (wAt (nxB b) x 1) := z
    rw [a0, a1] at z
    omega
/-- a house raised in the last turn leads back into a circle -/
theorem Tn.circle {n : Nat} {ws : List Way} {j : Nat} {h : List Int} {b : List (Option Nat)} {l : List (Option (Nat × Int))} {r : Nat → Nat} {v : Nat} (t : Tn n ws n j h b l r (some v)) (hw : ∀ w ∈ ws, w.1 < n ∧ w.2.1 < n) :
    ∃ c m, walk (nxB b) n v = some c ∧ Round (nxB b) m c ∧ m ≤ n := by
  obtain ⟨hv, hr⟩ := t.last v rfl
  obtain ⟨c, h1, _⟩ := t.cl.back (v := v) n (by omega)
  obtain ⟨m, m0, mn, hm⟩ := on_circle h1 fun k y hk hy => by
    cases k with
    | zero =>
      have hy : some v = some y := hy
      cases hy
      exact hv
    | succ k =>
      have e1 : walk (nxB b) (k + 1) v = (walk (nxB b) k v).bind (nxB b) := rfl
      rw [e1] at hy
      cases q : walk (nxB b) k v with
      | none =>
        rw [q] at hy
        cases hy
      | some x =>
        rw [q] at hy
        exact t.cl.lt hw hy
  obtain ⟨m', mm, R⟩ := round_of m0 hm
  exact ⟨c, m', h1, R, by omega⟩
end Cd

/-! Clearday: houses placed one behind the other, rings of debts where that fails. -/
namespace Cd
open PySem PySem.Spec PyProof.Rows L2

theorem nodup_len {n : Int} {l : List Int} (hn : l.Nodup) (hb : ∀ x ∈ l, 0 ≤ x ∧ x < n) : l.length ≤ n.toNat := by
  by_cases h : l.length ≤ n.toNat
  · exact h
  · exfalso
    have g : ∀ k, k < l.length → l.getD k 0 ∈ l := fun k hk => by
      rw [List.getD_eq_getElem?_getD, List.getElem?_eq_getElem hk]
      exact List.getElem_mem hk
    obtain ⟨i, j, h1, h2, h3⟩ := pigeon n.toNat (fun k => (l.getD k 0).toNat) (fun k hk => by
      have z := hb _ (g k (by omega))
      show (l.getD k 0).toNat < n.toNat
      omega)
    have h3 : (l.getD i 0).toNat = (l.getD j 0).toNat := h3
    have a := hb _ (g i (by omega))
    have b := hb _ (g j (by omega))
    have e : l.getD i 0 = l.getD j 0 := by omega
    rw [List.getD_eq_getElem?_getD, List.getElem?_eq_getElem (by omega), List.getD_eq_getElem?_getD, List.getElem?_eq_getElem (by omega)] at e
    have e : l[i]'(by omega) = l[j]'(by omega) := e
    rw [List.nodup_iff_pairwise_ne, List.pairwise_iff_getElem] at hn
    exact hn i j (by omega) (by omega) h1 e
/-- houses in a row, each behind all its debtors; the others wait for others -/
structure Placed (n : Int) (ds : List Debt) (os : List Int) : Prop where
  nd : os.Nodup
  bd : ∀ x ∈ os, 0 ≤ x ∧ x < n
  ord : ∀ (p : Nat) (c : Int), os[p]? = some c → ∀ d ∈ ds, d.2.1 = c → d.1 ∈ os.take p
  wait : ∀ x, 0 ≤ x → x < n → x ∉ os → ∃ i, i < ds.length ∧ (dbt ds i).2.1 = x ∧ (dbt ds i).1 ∉ os
theorem Placed.full {n : Int} {ds : List Debt} {os : List Int} (P : Placed n ds os) (h : n.toNat ≤ os.length) {x : Int} (x0 : 0 ≤ x) (xn : x < n) : x ∈ os := by
  by_cases e : x ∈ os
  · exact e
  · exfalso
    have z := nodup_len (n := n) (l := x :: os) (List.nodup_cons.mpr ⟨e, P.nd⟩) fun y hy => by
      rcases List.mem_cons.mp hy with rfl | hy
      · exact ⟨x0, xn⟩
      · exact P.bd y hy
    rw [List.length_cons] at z
    omega
theorem Placed.rise {n : Int} {ds : List Debt} {os : List Int} (P : Placed n ds os) {d : Debt} (hd : d ∈ ds) (hc : d.2.1 ∈ os) : os.idxOf d.1 < os.idxOf d.2.1 := by
  have hl := List.idxOf_lt_length_of_mem hc
  have e : os[os.idxOf d.2.1]? = some d.2.1 := by
    rw [List.getElem?_eq_getElem hl, List.getElem_idxOf]
  have m := P.ord _ _ e d hd rfl
  obtain ⟨k, hk, ek⟩ := List.getElem_of_mem m
  rw [List.length_take] at hk
  rw [List.getElem_take] at ek
  have e1 : os.idxOf d.1 = k := by
    rw [← ek]
    exact List.Nodup.idxOf_getElem P.nd k (by omega)
  omega
theorem count_nodup {l : List Int} (h : l.Nodup) (x : Int) : l.count x = if x ∈ l then 1 else 0 := by
  have z := List.nodup_iff_count.mp h x
  by_cases e : x ∈ l
  · have := List.count_pos_iff.mpr e
    rw [if_pos e]
    omega
  · rw [if_neg e]
    exact List.count_eq_zero.mpr e
theorem Placed.isOrd {n : Int} {ds : List Debt} {os : List Int} (P : Placed n ds os) (hd : ∀ d ∈ ds, InB n d) (h : n.toNat ≤ os.length) : IsOrd n ds os := by
  refine ⟨?_, fun d hd' => P.rise hd' (P.full h (hd d hd').b0 (hd d hd').bn)⟩
  rw [List.perm_iff_count]
  intro x
  have hn : ((List.range n.toNat).map fun i : Nat => (i : Int)).Nodup := by
    rw [List.nodup_iff_pairwise_ne, List.pairwise_map]
    refine List.Pairwise.imp (fun {a b} hab e => hab (Int.ofNat.inj e)) (List.nodup_iff_pairwise_ne.mp List.nodup_range)
  rw [count_nodup P.nd, count_nodup hn]
  have e : x ∈ os ↔ x ∈ (List.range n.toNat).map fun i : Nat => (i : Int) := by
    rw [List.mem_map]
    constructor
    · intro hx
      have z := P.bd x hx
      exact ⟨x.toNat, List.mem_range.mpr (by omega), Int.toNat_of_nonneg z.1⟩
    · rintro ⟨i, hi, rfl⟩
      have := List.mem_range.mp hi
      exact P.full h (by omega) (by omega)
  by_cases q : x ∈ os
  · rw [if_pos q, if_pos (e.mp q)]
  · rw [if_neg q, if_neg (fun z => q (e.mpr z))]
/-- where each debtor is placed there is an order -/
theorem Placed.acyc {n : Int} {ds : List Debt} {os : List Int} (P : Placed n ds os) (hd : ∀ d ∈ ds, InB n d) (h : ∀ d ∈ ds, d.1 ∈ os) : Acyc ds := ⟨fun x => (os.idxOf x : Int), fun d hd' => by
  have m : d.2.1 ∈ os := by
    by_cases e : d.2.1 ∈ os
    · exact e
    · obtain ⟨i, hi, _, h2⟩ := P.wait d.2.1 (hd d hd').b0 (hd d hd').bn e
      exact absurd (h _ (List.mem_of_getElem? (dbt_at hi))) h2
  have := P.rise hd' m
  show ((os.idxOf d.1 : Nat) : Int) < ((os.idxOf d.2.1 : Nat) : Int)
  omega⟩
/-- a circle of houses, by the debts that lead into them, is a ring -/
theorem ring_of_round {ds : List Debt} {nx : Nat → Option Nat} {inw : Nat → Nat} {m c : Nat} (R : Round nx m c) (hI : ∀ x y, nx x = some y → inw x < ds.length ∧ (dbt ds (inw x)).2.1 = (x : Int) ∧ (dbt ds (inw x)).1 = (y : Int)) : RingOf ds ((rnd nx c m).reverse.map inw) := by
  have at_ : ∀ k i, ((rnd nx c m).reverse.map inw)[k]? = some i → k < m ∧ i = inw (wAt nx c (m - 1 - k)) := fun k i e => by
    have hk := (List.getElem?_eq_some_iff.mp e).1
    rw [List.length_map, List.length_reverse, rnd_len] at hk
    rw [List.getElem?_map, List.getElem?_reverse (by rw [rnd_len]; exact hk), rnd_len, rnd_at (by omega)] at e
    exact ⟨hk, (Option.some.inj e).symm⟩
  have hx : ∀ i, i < m → inw (wAt nx c i) < ds.length ∧ (dbt ds (inw (wAt nx c i))).2.1 = (wAt nx c i : Int) ∧ (dbt ds (inw (wAt nx c i))).1 = (wAt nx c (i + 1) : Int) := fun i hi => hI _ _ (R.next hi)
  refine ⟨⟨fun i hi => ?_, fun k i j e1 e2 => ?_, ?_⟩, ?_, fun i j e1 e2 => ?_⟩
  · obtain ⟨k, hk⟩ := List.mem_iff_getElem?.mp hi
    obtain ⟨h1, rfl⟩ := at_ k i hk
    exact (hx _ (by omega)).1
  · obtain ⟨h1, rfl⟩ := at_ k i e1
    obtain ⟨h2, rfl⟩ := at_ (k + 1) j e2
    rw [(hx (m - 1 - k) (by omega)).2.1, (hx (m - 1 - (k + 1)) (by omega)).2.2]
    have e : m - 1 - (k + 1) + 1 = m - 1 - k := by omega
    rw [e]
  · rw [List.map_map]
    have e1 : (rnd nx c m).reverse.map ((fun i => (dbt ds i).1) ∘ inw) = ((List.range m).reverse.map fun i => (wAt nx c (i + 1) : Int)) := by
      unfold rnd
      rw [← List.map_reverse, List.map_map]
      refine List.map_congr_left fun i hi => ?_
      exact (hx i (List.mem_range.mp (List.mem_reverse.mp hi))).2.2
    rw [e1]
    have p1 : ((List.range m).reverse.map fun i => (wAt nx c (i + 1) : Int)).Perm ((rnd nx c m).map fun k : Nat => (k : Int)) := by
      refine ((List.reverse_perm _).map _).trans ?_
      have q := R.shift.map (fun k : Nat => (k : Int))
      rw [List.map_map] at q
      exact q
    rw [p1.nodup_iff, List.nodup_iff_pairwise_ne, List.pairwise_map]
    exact List.Pairwise.imp (fun {a b} hab e => hab (Int.ofNat.inj e)) (List.nodup_iff_pairwise_ne.mp R.nodup)
  · rw [List.length_map, List.length_reverse, rnd_len]
    exact R.pos
  · obtain ⟨h1, rfl⟩ := at_ 0 i e1
    obtain ⟨h2, rfl⟩ := at_ _ j e2
    rw [List.length_map, List.length_reverse, rnd_len]
    rw [(hx (m - 1 - (m - 1)) (by omega)).2.1, (hx (m - 1 - 0) (by omega)).2.2]
    have e : m - 1 - (m - 1) = 0 := by omega
    have e' : m - 1 - 0 + 1 = m := by omega
    rw [e, e', R.end_]
    rfl
/-- ways back among what is not placed never end -/
theorem Placed.circle {n : Int} {ds : List Debt} {os : List Int} {nx : Nat → Option Nat} (hx : ∀ y : Nat, (y : Int) < n → (y : Int) ∉ os → ∃ z : Nat, nx y = some z ∧ (z : Int) < n ∧ (z : Int) ∉ os) {v : Nat} (hv : (v : Int) < n) (ho : (v : Int) ∉ os) :
    ∃ c m, walk nx n.toNat v = some c ∧ Round nx m c ∧ m ≤ n.toNat := by
  have W : ∀ k, ∃ y : Nat, walk nx k v = some y ∧ (y : Int) < n ∧ (y : Int) ∉ os := fun k => by
    induction k with
    | zero => exact ⟨v, rfl, hv, ho⟩
    | succ k ih =>
      obtain ⟨y, h1, h2, h3⟩ := ih
      obtain ⟨z, h4, h5, h6⟩ := hx y h2 h3
      refine ⟨z, ?_, h5, h6⟩
      show (walk nx k v).bind nx = some z
      rw [h1]
      exact h4
  obtain ⟨c, h1, _⟩ := W n.toNat
  obtain ⟨m, m0, mn, hm⟩ := on_circle h1 fun k y hk hy => by
    obtain ⟨y', h1', h2', _⟩ := W k
    rw [hy] at h1'
    cases h1'
    omega
  obtain ⟨m', mm, R⟩ := round_of m0 hm
  exact ⟨c, m', h1, R, by omega⟩
/-- where not all can be placed there is a ring -/
theorem Placed.ring {n : Int} {ds : List Debt} {os : List Int} (P : Placed n ds os) (hd : ∀ d ∈ ds, InB n d) (h : os.length < n.toNat) : ∃ r, RingOf ds r := by
  have ex : ∃ v : Nat, (v : Int) < n ∧ (v : Int) ∉ os := by
    by_cases e : ∃ v : Nat, (v : Int) < n ∧ (v : Int) ∉ os
    · exact e
    · exfalso
      have all : ∀ x ∈ (List.range n.toNat).map (fun i : Nat => (i : Int)), x ∈ os := fun x hx => by
        obtain ⟨i, hi, rfl⟩ := List.mem_map.mp hx
        have := List.mem_range.mp hi
        by_cases q : (i : Int) ∈ os
        · exact q
        · exact absurd ⟨i, by omega, q⟩ e
      -- places of the houses in os
      obtain ⟨i, j, h1, h2, h3⟩ := pigeon os.length (fun k => os.idxOf (k : Int)) (fun k hk => by
        exact List.idxOf_lt_length_of_mem (all _ (List.mem_map.mpr ⟨k, List.mem_range.mpr (by omega), rfl⟩)))
      have h3 : os.idxOf (i : Int) = os.idxOf (j : Int) := h3
      have m1 := all _ (List.mem_map.mpr ⟨i, List.mem_range.mpr (by omega), rfl⟩)
      have m2 := all _ (List.mem_map.mpr ⟨j, List.mem_range.mpr (by omega), rfl⟩)
      have g1 : os[os.idxOf (i : Int)]? = some (i : Int) := by
        rw [List.getElem?_eq_getElem (List.idxOf_lt_length_of_mem m1), List.getElem_idxOf]
      have g2 : os[os.idxOf (j : Int)]? = some (j : Int) := by
        rw [List.getElem?_eq_getElem (List.idxOf_lt_length_of_mem m2), List.getElem_idxOf]
      rw [h3, g2] at g1
      have := Int.ofNat.inj (Option.some.inj g1)
      omega
  obtain ⟨v, hv, ho⟩ := ex
  have ch : ∀ y : Nat, ∃ i : Nat, (y : Int) < n → (y : Int) ∉ os → i < ds.length ∧ (dbt ds i).2.1 = (y : Int) ∧ (dbt ds i).1 ∉ os := fun y => by
    by_cases q : (y : Int) < n ∧ (y : Int) ∉ os
    · obtain ⟨i, h1, h2, h3⟩ := P.wait y (by omega) q.1 q.2
      exact ⟨i, fun _ _ => ⟨h1, h2, h3⟩⟩
    · exact ⟨0, fun a b => absurd ⟨a, b⟩ q⟩
  obtain ⟨f, hf⟩ := Classical.axiomOfChoice ch
  have hdb : ∀ y : Nat, (y : Int) < n → (y : Int) ∉ os → ((((dbt ds (f y)).1.toNat : Nat) : Int) = (dbt ds (f y)).1 ∧ (dbt ds (f y)).1 < n) := fun y a b => by
    obtain ⟨h1, _, _⟩ := hf y a b
    have z := hd _ (List.mem_of_getElem? (dbt_at h1))
    exact ⟨Int.toNat_of_nonneg z.a0, z.an⟩
  let nx : Nat → Option Nat := fun y => if (y : Int) < n ∧ (y : Int) ∉ os then some (dbt ds (f y)).1.toNat else none
  obtain ⟨c, m, _, R, _⟩ := Placed.circle (n := n) (ds := ds) (os := os) (nx := nx) (fun y a b => by
    refine ⟨(dbt ds (f y)).1.toNat, if_pos ⟨a, b⟩, ?_, ?_⟩
    · rw [(hdb y a b).1]
      exact (hdb y a b).2
    · rw [(hdb y a b).1]
      exact (hf y a b).2.2) hv ho
  refine ⟨_, ring_of_round R (inw := f) fun x y e => ?_⟩
  have e : (if (x : Int) < n ∧ (x : Int) ∉ os then some (dbt ds (f x)).1.toNat else none) = some y := e
  by_cases q : (x : Int) < n ∧ (x : Int) ∉ os
  · rw [if_pos q] at e
    cases e
    obtain ⟨h1, h2, h3⟩ := hf x q.1 q.2
    exact ⟨h1, h2, (hdb x q.1 q.2).1.symm⟩
  · rw [if_neg q] at e
    cases e
/-! ### how many debts a house still waits for -/
def pend (ds : List Debt) (x : Int) (dn : Nat → Bool) (k : Nat) : Int := ((List.range k).map fun i => if (dbt ds i).2.1 = x ∧ dn i = false then (1 : Int) else 0).sum
theorem pend_add (ds : List Debt) (x : Int) (dn : Nat → Bool) (k : Nat) : pend ds x dn (k + 1) = pend ds x dn k + if (dbt ds k).2.1 = x ∧ dn k = false then 1 else 0 := by
  unfold pend
  rw [List.range_succ, List.map_append, List.sum_append]
  simp
theorem pend_nn (ds : List Debt) (x : Int) (dn : Nat → Bool) : ∀ k, 0 ≤ pend ds x dn k
  | 0 => Int.le_refl _
  | k + 1 => by
    have := pend_nn ds x dn k
    rw [pend_add]
    split <;> omega
theorem pend_zero (ds : List Debt) (x : Int) (dn : Nat → Bool) : ∀ k, pend ds x dn k = 0 ↔ ∀ i, i < k → (dbt ds i).2.1 = x → dn i = true
  | 0 => ⟨fun _ i hi => absurd hi (Nat.not_lt_zero i), fun _ => rfl⟩
  | k + 1 => by
    have ih := pend_zero ds x dn k
    have nn := pend_nn ds x dn k
    rw [pend_add]
    constructor
    · intro h i hi hx
      by_cases q : (dbt ds k).2.1 = x ∧ dn k = false
      · rw [if_pos q] at h
        omega
      · rw [if_neg q] at h
        by_cases e : i = k
        · subst e
          cases z : dn i with
          | true => rfl
          | false => exact absurd ⟨hx, z⟩ q
        · exact ih.mp (by omega) i (by omega) hx
    · intro h
      rw [ih.mpr fun i hi => h i (by omega), if_neg]
      · rfl
      · rintro ⟨h1, h2⟩
        rw [h k (by omega) h1] at h2
        cases h2
theorem pend_same {ds : List Debt} {x : Int} {dn dm : Nat → Bool} : ∀ {k}, (∀ i, i < k → dn i = dm i) → pend ds x dn k = pend ds x dm k
  | 0, _ => rfl
  | k + 1, h => by
    rw [pend_add, pend_add, pend_same fun i hi => h i (by omega), h k (by omega)]
/-- one debt more that is looked at -/
theorem pend_one {ds : List Debt} {x : Int} {dn dm : Nat → Bool} {j : Nat} (h : ∀ i, i ≠ j → dn i = dm i) (h0 : dn j = false) (h1 : dm j = true) : ∀ {k}, j < k → pend ds x dm k = pend ds x dn k - if (dbt ds j).2.1 = x then 1 else 0
  | 0, hk => absurd hk (Nat.not_lt_zero j)
  | k + 1, hk => by
    rw [pend_add, pend_add]
    by_cases e : k = j
    · subst e
      have e2 := pend_same (ds := ds) (x := x) (dn := dm) (dm := dn) (k := k) fun i hi => (h i (by omega)).symm
      have e3 : ¬ ((dbt ds k).2.1 = x ∧ dm k = false) := fun z => by
        rw [h1] at z
        exact nomatch z.2
      rw [if_neg e3, e2]
      by_cases q : (dbt ds k).2.1 = x
      · rw [if_pos q, if_pos ⟨q, h0⟩]
        omega
      · rw [if_neg q, if_neg (fun z => q z.1)]
        omega
    · rw [pend_one h h0 h1 (by omega), h k e]
      omega
/-- the numbers told for each house -/
def wl (n : Int) (f : Int → Int) : List Int := (List.range n.toNat).map fun x : Nat => f (x : Int)
theorem wl_len (n : Int) (f : Int → Int) : (wl n f).length = n.toNat := by
  unfold wl
  rw [List.length_map, List.length_range]
theorem wl_get {n x : Int} (f : Int → Int) (x0 : 0 ≤ x) (xn : x < n) : (wl n f).getD x.toNat 0 = f x := by
  unfold wl
  rw [List.getD_eq_getElem?_getD, List.getElem?_map, List.getElem?_range (by omega)]
  show f ((x.toNat : Nat) : Int) = f x
  rw [Int.toNat_of_nonneg x0]
theorem wl_at {n : Int} (f : Int → Int) {k : Nat} (h : k < n.toNat) : ((wl n f).map V.int)[k]? = some (.int (f (k : Int))) := by
  unfold wl
  rw [List.map_map, List.getElem?_map, List.getElem?_range h]
  rfl
theorem wl_ext {n : Int} {f g : Int → Int} (h : ∀ x, 0 ≤ x → x < n → f x = g x) : wl n f = wl n g := by
  unfold wl
  refine List.map_congr_left fun x hx => h _ (by omega) ?_
  have := List.mem_range.mp hx
  omega
theorem wl_set {n k v : Int} {f g : Int → Int} (k0 : 0 ≤ k) (kn : k < n) (hv : g k = v) (h : ∀ x, 0 ≤ x → x < n → x ≠ k → g x = f x) : (wl n f).set k.toNat v = wl n g := by
  refine List.ext_getElem (by rw [List.length_set, wl_len, wl_len]) fun i h1 h2 => ?_
  rw [List.length_set, wl_len] at h1
  have e1 := wl_get (n := n) (x := (i : Int)) f (by omega) (by omega)
  have e2 := wl_get (n := n) (x := (i : Int)) g (by omega) (by omega)
  rw [Int.toNat_natCast, List.getD_eq_getElem?_getD, List.getElem?_eq_getElem (by rw [wl_len]; exact h1)] at e1
  rw [Int.toNat_natCast, List.getD_eq_getElem?_getD, List.getElem?_eq_getElem (by rw [wl_len]; exact h1)] at e2
  have e1 : (wl n f)[i]'(by rw [wl_len]; exact h1) = f (i : Int) := e1
  have e2 : (wl n g)[i]'(by rw [wl_len]; exact h1) = g (i : Int) := e2
  rw [List.getElem_set, e1, e2]
  by_cases q : k.toNat = i
  · rw [if_pos q, ← hv]
    congr 1
    omega
  · rw [if_neg q]
    exact (h _ (by omega) (by omega) (by omega)).symm
/-- houses told so far, the debts that are done with, as dn tells -/
structure Row (n : Int) (ds : List Debt) (os : List Int) (dn : Nat → Bool) : Prop where
  nd : os.Nodup
  bd : ∀ x ∈ os, 0 ≤ x ∧ x < n
  mem : ∀ x, 0 ≤ x → x < n → (x ∈ os ↔ pend ds x dn ds.length = 0)
  ord : ∀ (p : Nat) (c : Int), os[p]? = some c → ∀ d ∈ ds, d.2.1 = c → d.1 ∈ os.take p
/-- done with: all debts of the first t houses, and of the next one the first j -/
def dnA (ds : List Debt) (os : List Int) (t j i : Nat) : Bool := decide ((dbt ds i).1 ∈ os.take t) || (decide (i < j) && decide (some (dbt ds i).1 = os[t]?))
section
variable {n : Int} {ds : List Debt} {os : List Int} {t j : Nat}
theorem Row.congr {dn dm : Nat → Bool} (R : Row n ds os dn) (h : ∀ i, i < ds.length → dn i = dm i) : Row n ds os dm := by
  refine ⟨R.nd, R.bd, fun x x0 xn => ?_, R.ord⟩
  rw [R.mem x x0 xn, pend_same h]
theorem dnA_zero (i : Nat) : dnA ds os 0 0 i = false := by
  unfold dnA
  rw [List.take_zero, decide_eq_false List.not_mem_nil, decide_eq_false (Nat.not_lt_zero i)]
  rfl
theorem Row.start (hn : os.Nodup) (hm : ∀ x, x ∈ os ↔ 0 ≤ x ∧ x < n ∧ pend ds x (fun _ => false) ds.length = 0) : Row n ds os (dnA ds os 0 0) := by
  refine Row.congr (dn := fun _ => false) ⟨hn, fun x hx => ⟨((hm x).mp hx).1, ((hm x).mp hx).2.1⟩, fun x x0 xn => ⟨fun h => ((hm x).mp h).2.2, fun h => (hm x).mpr ⟨x0, xn, h⟩⟩, ?_⟩ fun i _ => (dnA_zero i).symm
  intro p c hp d hd hc
  exfalso
  have z := ((hm c).mp (List.mem_of_getElem? hp)).2.2
  obtain ⟨i, hi⟩ := List.mem_iff_getElem?.mp hd
  have e := dbt_of hi
  have q := (pend_zero ds c (fun _ => false) ds.length).mp z i (List.getElem?_eq_some_iff.mp hi).1 (by rw [e]; exact hc)
  cases q
theorem dnA_turn {i : Nat} (hi : i < ds.length) : dnA ds os t ds.length i = dnA ds os (t + 1) 0 i := by
  unfold dnA
  rw [decide_eq_true hi, decide_eq_false (Nat.not_lt_zero i), Bool.true_and, Bool.false_and, Bool.or_false, List.take_add_one]
  cases e : os[t]? with
  | none => simp
  | some u => simp [List.mem_append]
theorem Row.turn (R : Row n ds os (dnA ds os t ds.length)) : Row n ds os (dnA ds os (t + 1) 0) := R.congr fun i hi => dnA_turn hi
theorem dnA_pass (h : some (dbt ds j).1 ≠ os[t]?) (i : Nat) : dnA ds os t j i = dnA ds os t (j + 1) i := by
  unfold dnA
  by_cases q : i = j
  · subst q
    rw [decide_eq_false h, Bool.and_false, Bool.and_false]
  · by_cases z : i < j
    · rw [decide_eq_true z, decide_eq_true (by omega : i < j + 1)]
    · rw [decide_eq_false z, decide_eq_false (by omega : ¬ i < j + 1)]
theorem Row.pass (R : Row n ds os (dnA ds os t j)) (h : some (dbt ds j).1 ≠ os[t]?) : Row n ds os (dnA ds os t (j + 1)) := R.congr fun i hi => dnA_pass h i
theorem dnA_app (ht : t < os.length) (c : Int) (i : Nat) : dnA ds os t j i = dnA ds (os ++ [c]) t j i := by
  unfold dnA
  rw [List.take_append_of_le_length (by omega), List.getElem?_append_left ht]
/-- one debt more of the house at t -/
theorem dnA_one (hj : some (dbt ds j).1 = os[t]?) (nd : os.Nodup) : (∀ i, i ≠ j → dnA ds os t j i = dnA ds os t (j + 1) i) ∧ dnA ds os t j j = false ∧ dnA ds os t (j + 1) j = true := by
  refine ⟨fun i q => ?_, ?_, ?_⟩
  · unfold dnA
    by_cases z : i < j
    · rw [decide_eq_true z, decide_eq_true (by omega : i < j + 1)]
    · rw [decide_eq_false z, decide_eq_false (by omega : ¬ i < j + 1)]
  · unfold dnA
    rw [decide_eq_false (Nat.lt_irrefl j), Bool.false_and, Bool.or_false]
    refine decide_eq_false fun m => ?_
    obtain ⟨k, hk, ek⟩ := List.getElem_of_mem m
    rw [List.length_take] at hk
    rw [List.getElem_take] at ek
    have ht := (List.getElem?_eq_some_iff.mp hj.symm)
    obtain ⟨h1, h2⟩ := ht
    rw [List.nodup_iff_pairwise_ne, List.pairwise_iff_getElem] at nd
    exact nd k t (by omega) h1 (by omega) (by rw [ek, h2])
  · unfold dnA
    rw [decide_eq_true (Nat.lt_succ_self j), decide_eq_true hj, Bool.true_and, Bool.or_true]
theorem Row.pend_step (R : Row n ds os (dnA ds os t j)) (hj : some (dbt ds j).1 = os[t]?) (hl : j < ds.length) (x : Int) : pend ds x (dnA ds os t (j + 1)) ds.length = pend ds x (dnA ds os t j) ds.length - if (dbt ds j).2.1 = x then 1 else 0 := by
  obtain ⟨a, b, c⟩ := dnA_one hj R.nd
  exact pend_one a b c hl
theorem Row.fresh (R : Row n ds os (dnA ds os t j)) (hj : some (dbt ds j).1 = os[t]?) (hl : j < ds.length) (c0 : 0 ≤ (dbt ds j).2.1) (cn : (dbt ds j).2.1 < n) : (dbt ds j).2.1 ∉ os := fun m => by
  have z := (R.mem _ c0 cn).mp m
  have s := R.pend_step hj hl (dbt ds j).2.1
  rw [if_pos rfl] at s
  have := pend_nn ds (dbt ds j).2.1 (dnA ds os t (j + 1)) ds.length
  omega
theorem Row.stay (R : Row n ds os (dnA ds os t j)) (hj : some (dbt ds j).1 = os[t]?) (hl : j < ds.length) (c0 : 0 ≤ (dbt ds j).2.1) (cn : (dbt ds j).2.1 < n) (h : pend ds (dbt ds j).2.1 (dnA ds os t (j + 1)) ds.length ≠ 0) : Row n ds os (dnA ds os t (j + 1)) := by
  refine ⟨R.nd, R.bd, fun x x0 xn => ?_, R.ord⟩
  by_cases e : (dbt ds j).2.1 = x
  · subst e
    exact ⟨fun m => absurd m (R.fresh hj hl c0 cn), fun z => absurd z h⟩
  · rw [R.mem x x0 xn, R.pend_step hj hl, if_neg e]
    omega
theorem Row.grow (R : Row n ds os (dnA ds os t j)) (hj : some (dbt ds j).1 = os[t]?) (hl : j < ds.length) (c0 : 0 ≤ (dbt ds j).2.1) (cn : (dbt ds j).2.1 < n) (h : pend ds (dbt ds j).2.1 (dnA ds os t (j + 1)) ds.length = 0) :
    Row n ds (os ++ [(dbt ds j).2.1]) (dnA ds (os ++ [(dbt ds j).2.1]) t (j + 1)) := by
  have ht := (List.getElem?_eq_some_iff.mp hj.symm).1
  have same : ∀ i, i < ds.length → dnA ds os t (j + 1) i = dnA ds (os ++ [(dbt ds j).2.1]) t (j + 1) i := fun i _ => by
    unfold dnA
    rw [List.take_append_of_le_length (by omega), List.getElem?_append_left ht]
  refine Row.congr (dn := dnA ds os t (j + 1)) ⟨?_, ?_, ?_, ?_⟩ same
  · rw [List.nodup_append]
    refine ⟨R.nd, List.nodup_cons.mpr ⟨List.not_mem_nil, List.nodup_nil⟩, fun a ha b hb e => ?_⟩
    rw [List.mem_singleton] at hb
    rw [e, hb] at ha
    exact R.fresh hj hl c0 cn ha
  · intro x hx
    rcases List.mem_append.mp hx with m | m
    · exact R.bd x m
    · rw [List.mem_singleton.mp m]
      exact ⟨c0, cn⟩
  · intro x x0 xn
    rw [List.mem_append, List.mem_singleton]
    by_cases e : (dbt ds j).2.1 = x
    · subst e
      exact ⟨fun _ => h, fun _ => .inr rfl⟩
    · rw [R.mem x x0 xn, R.pend_step hj hl, if_neg e]
      constructor
      · rintro (z | z)
        · omega
        · exact absurd z.symm e
      · intro z
        exact .inl (by omega)
  · intro p c hp d hd hc
    by_cases q : p < os.length
    · rw [List.getElem?_append_left q] at hp
      rw [List.take_append_of_le_length (by omega)]
      exact R.ord p c hp d hd hc
    · have hp2 := (List.getElem?_eq_some_iff.mp hp).1
      rw [List.length_append, List.length_singleton] at hp2
      have ep : p = os.length := by omega
      subst ep
      rw [List.getElem?_append_right (Nat.le_refl _), Nat.sub_self] at hp
      cases (Option.some.inj hp : _ = _)
      rw [List.take_append_of_le_length (Nat.le_refl _), List.take_length]
      obtain ⟨i, hi⟩ := List.mem_iff_getElem?.mp hd
      have e := dbt_of hi
      have z := (pend_zero ds _ _ ds.length).mp h i (List.getElem?_eq_some_iff.mp hi).1 (by rw [e]; exact hc)
      unfold dnA at z
      rw [e, Bool.or_eq_true, Bool.and_eq_true] at z
      rcases z with z | ⟨_, z⟩
      · exact List.mem_of_mem_take (of_decide_eq_true z)
      · exact List.mem_of_getElem? (of_decide_eq_true z).symm
theorem Row.placed (R : Row n ds os (dnA ds os os.length 0)) : Placed n ds os := by
  refine ⟨R.nd, R.bd, R.ord, fun x x0 xn hx => ?_⟩
  by_cases e : ∃ i, i < ds.length ∧ (dbt ds i).2.1 = x ∧ (dbt ds i).1 ∉ os
  · exact e
  · exfalso
    refine hx ((R.mem x x0 xn).mpr ((pend_zero ds x _ ds.length).mpr fun i hi hc => ?_))
    unfold dnA
    rw [List.take_length]
    by_cases m : (dbt ds i).1 ∈ os
    · rw [decide_eq_true m]
      rfl
    · exact absurd ⟨i, hi, hc, m⟩ e
theorem Row.len (R : Row n ds os (dnA ds os t j)) : os.length ≤ n.toNat := nodup_len R.nd R.bd
end
end Cd

/-! Clearday: what moves round a ring do to a cut. -/
namespace Cd
open PySem PySem.Spec PyProof.Rows L2

def mv2 (least : Int) (i : Nat) (d : Debt) (c : Int) : List Way := (if least ≤ d.2.2 - c then [(d.1.toNat, d.2.1.toNat, 1, i)] else []) ++ (if least ≤ c then [(d.2.1.toNat, d.1.toNat, -1, i)] else [])
/-- the moves of the first k debts -/
def mvs (least : Int) (ds : List Debt) (cs : List Int) (k : Nat) : List Way := (List.range k).flatMap fun i => mv2 least i (dbt ds i) (cs.getD i 0)
theorem mvs_add (least : Int) (ds : List Debt) (cs : List Int) (k : Nat) : mvs least ds cs (k + 1) = mvs least ds cs k ++ mv2 least k (dbt ds k) (cs.getD k 0) := by
  unfold mvs
  rw [List.range_succ, List.flatMap_append]
  simp
theorem mv2_mem {least : Int} {i : Nat} {d : Debt} {c : Int} {w : Way} : w ∈ mv2 least i d c ↔ (least ≤ d.2.2 - c ∧ w = (d.1.toNat, d.2.1.toNat, 1, i)) ∨ (least ≤ c ∧ w = (d.2.1.toNat, d.1.toNat, -1, i)) := by
  unfold mv2
  rw [List.mem_append]
  by_cases h1 : least ≤ d.2.2 - c <;> by_cases h2 : least ≤ c <;> simp [h1, h2]
theorem mvs_mem {least : Int} {ds : List Debt} {cs : List Int} {k : Nat} {w : Way} : w ∈ mvs least ds cs k ↔ ∃ i, i < k ∧ w ∈ mv2 least i (dbt ds i) (cs.getD i 0) := by
  unfold mvs
  rw [List.mem_flatMap]
  constructor
  · rintro ⟨i, hi, h⟩
    exact ⟨i, List.mem_range.mp hi, h⟩
  · rintro ⟨i, hi, h⟩
    exact ⟨i, List.mem_range.mpr hi, h⟩
theorem mv2_len (least : Int) (i : Nat) (d : Debt) (c : Int) : (mv2 least i d c).length ≤ 2 := by
  unfold mv2
  rw [List.length_append]
  split <;> split <;> simp
theorem mvs_len (least : Int) (ds : List Debt) (cs : List Int) : ∀ k, (mvs least ds cs k).length ≤ 2 * k
  | 0 => Nat.le_refl _
  | k + 1 => by
    have := mvs_len least ds cs k
    have := mv2_len least k (dbt ds k) (cs.getD k 0)
    rw [mvs_add, List.length_append]
    omega
theorem mvs_in {n : Int} {least : Int} {ds : List Debt} {cs : List Int} (hd : ∀ d ∈ ds, InB n d) : ∀ w ∈ mvs least ds cs ds.length, w.1 < n.toNat ∧ w.2.1 < n.toNat := fun w hw => by
  obtain ⟨i, hi, h⟩ := mvs_mem.mp hw
  obtain ⟨a0, an, b0, bn⟩ := hd _ (List.mem_of_getElem? (dbt_at hi))
  rcases mv2_mem.mp h with ⟨_, rfl⟩ | ⟨_, rfl⟩
  · exact ⟨by show (dbt ds i).1.toNat < n.toNat; omega, by show (dbt ds i).2.1.toNat < n.toNat; omega⟩
  · exact ⟨by show (dbt ds i).2.1.toNat < n.toNat; omega, by show (dbt ds i).1.toNat < n.toNat; omega⟩
/-- heights that no move is above show the cut -/
theorem shows_of_still {n : Int} {ds : List Debt} {cs h : List Int} (hd : ∀ d ∈ ds, InB n d) (hc : IsCut ds cs) (hs : ∀ w ∈ mvs 1 ds cs ds.length, hgt h w.1 + w.2.2.1 ≤ hgt h w.2.1) : Shows (priceAt h) ds cs := by
  intro i d c e1 e2
  have hi := (List.getElem?_eq_some_iff.mp e1).1
  have ed := dbt_of e1
  have ec : cs.getD i 0 = c := by
    rw [List.getD_eq_getElem?_getD, e2]
    rfl
  have P : ∀ w ∈ mv2 1 i d c, hgt h w.1 + w.2.2.1 ≤ hgt h w.2.1 := fun w hw => hs w (mvs_mem.mpr ⟨i, hi, by rw [ed, ec]; exact hw⟩)
  unfold lure
  constructor
  · intro q
    by_cases c0 : 1 ≤ c
    · have z := P _ (mv2_mem.mpr (.inr ⟨c0, rfl⟩))
      have z : priceAt h d.2.1 + -1 ≤ priceAt h d.1 := z
      omega
    · omega
  · intro q
    by_cases c0 : 1 ≤ d.2.2 - c
    · have z := P _ (mv2_mem.mpr (.inl ⟨c0, rfl⟩))
      have z : priceAt h d.1 + 1 ≤ priceAt h d.2.1 := z
      omega
    · omega
/-- a cut changed by m at each of these -/
def chg (m : Int) (cut : List Int) (gs : List (Nat × Int)) : List Int := gs.foldl (fun l q => l.set q.1 (l.getD q.1 0 + q.2 * m)) cut
theorem chg_len (m : Int) : ∀ (gs : List (Nat × Int)) (cut : List Int), (chg m cut gs).length = cut.length
  | [], _ => rfl
  | q :: gs, cut => by
    show (chg m (cut.set q.1 (cut.getD q.1 0 + q.2 * m)) gs).length = _
    rw [chg_len m gs, List.length_set]
theorem chg_add (m : Int) (cut : List Int) (gs : List (Nat × Int)) (q : Nat × Int) : chg m cut (gs ++ [q]) = (chg m cut gs).set q.1 ((chg m cut gs).getD q.1 0 + q.2 * m) := by
  unfold chg
  rw [List.foldl_append]
  rfl
theorem chg_out (m : Int) (i : Nat) : ∀ (gs : List (Nat × Int)) (cut : List Int), (∀ q ∈ gs, q.1 ≠ i) → (chg m cut gs).getD i 0 = cut.getD i 0
  | [], _, _ => rfl
  | q :: gs, cut, h => by
    show (chg m (cut.set q.1 (cut.getD q.1 0 + q.2 * m)) gs).getD i 0 = _
    rw [chg_out m i gs _ fun p hp => h p (List.mem_cons_of_mem _ hp), List.getD_eq_getElem?_getD, List.getElem?_set_ne (h q List.mem_cons_self), ← List.getD_eq_getElem?_getD]
theorem chg_in (m : Int) : ∀ (gs : List (Nat × Int)) (cut : List Int), (gs.map fun q => q.1).Nodup → ∀ q ∈ gs, q.1 < cut.length → (chg m cut gs).getD q.1 0 = cut.getD q.1 0 + q.2 * m
  | [], _, _, q, hq, _ => absurd hq List.not_mem_nil
  | p :: gs, cut, hn, q, hq, hl => by
    rw [List.map_cons, List.nodup_cons] at hn
    show (chg m (cut.set p.1 (cut.getD p.1 0 + p.2 * m)) gs).getD q.1 0 = _
    rcases List.mem_cons.mp hq with rfl | hq
    · rw [chg_out m q.1 gs _ fun p hp e => hn.1 (e ▸ List.mem_map_of_mem (f := fun q : Nat × Int => q.1) hp), List.getD_eq_getElem?_getD, List.getElem?_set_self hl]
      rfl
    · rw [chg_in m gs _ hn.2 q hq (by rw [List.length_set]; exact hl)]
      have ne : p.1 ≠ q.1 := fun e => hn.1 (e ▸ List.mem_map_of_mem (f := fun q : Nat × Int => q.1) hq)
      rw [List.getD_eq_getElem?_getD, List.getElem?_set_ne ne, ← List.getD_eq_getElem?_getD]
theorem sum_set : ∀ (l : List Int) (i : Nat) (x : Int), i < l.length → (l.set i x).sum = l.sum + (x - l.getD i 0)
  | [], i, x, h => absurd h (Nat.not_lt_zero _)
  | a :: l, 0, x, _ => by
    show x + l.sum = a + l.sum + (x - a)
    omega
  | a :: l, i + 1, x, h => by
    have ih := sum_set l i x (Nat.lt_of_succ_lt_succ h)
    show a + (l.set i x).sum = a + l.sum + (x - l.getD i 0)
    omega
theorem chg_sum (m : Int) : ∀ (gs : List (Nat × Int)) (cut : List Int), (∀ q ∈ gs, q.1 < cut.length) → (chg m cut gs).sum = cut.sum + (gs.map fun q => q.2).sum * m
  | [], cut, _ => by
    show cut.sum = cut.sum + 0 * m
    omega
  | q :: gs, cut, h => by
    show (chg m (cut.set q.1 (cut.getD q.1 0 + q.2 * m)) gs).sum = _
    rw [chg_sum m gs _ (fun p hp => by rw [List.length_set]; exact h p (List.mem_cons_of_mem _ hp)), sum_set _ _ _ (h q List.mem_cons_self), List.map_cons, List.sum_cons, Int.add_mul]
    omega
theorem chg_sumBy (f : Debt → Int) (x m : Int) {ds : List Debt} : ∀ (gs : List (Nat × Int)) (cut : List Int), cut.length = ds.length → (∀ q ∈ gs, q.1 < ds.length) →
    sumBy f x ds (chg m cut gs) = sumBy f x ds cut + (gs.map fun q => if f (dbt ds q.1) = x then q.2 * m else 0).sum
  | [], cut, _, _ => by
    show sumBy f x ds cut = sumBy f x ds cut + 0
    omega
  | q :: gs, cut, hl, h => by
    have hq := h q List.mem_cons_self
    show sumBy f x ds (chg m (cut.set q.1 (cut.getD q.1 0 + q.2 * m)) gs) = _
    have e2 : cut[q.1]? = some (cut.getD q.1 0) := by
      rw [List.getD_eq_getElem?_getD, List.getElem?_eq_getElem (by omega)]
      rfl
    rw [chg_sumBy f x m gs _ (by rw [List.length_set]; exact hl) fun p hp => h p (List.mem_cons_of_mem _ hp), sumBy_set f x _ (dbt_at hq) e2, List.map_cons, List.sum_cons]
    split <;> omega
/-- the numbers of a ring of moves differ -/
theorem Cyc.nums {least : Int} {ds : List Debt} {cs : List Int} {ws : List Way} (C : Cyc (mvs least ds cs ds.length) ws) : (ws.map fun w => w.2.2.2).Nodup := by
  have z := C.nd
  rw [List.nodup_iff_pairwise_ne, List.pairwise_map] at z ⊢
  refine List.Pairwise.imp_of_mem (fun {w w'} hw hw' hne e => ?_) z
  obtain ⟨i, hi, h1⟩ := mvs_mem.mp (C.sub w hw)
  obtain ⟨i', hi', h2⟩ := mvs_mem.mp (C.sub w' hw')
  have q := C.two w hw w' hw'
  rcases mv2_mem.mp h1 with ⟨_, rfl⟩ | ⟨_, rfl⟩ <;> rcases mv2_mem.mp h2 with ⟨_, rfl⟩ | ⟨_, rfl⟩ <;> (have e : i = i' := e; subst e)
  · exact hne rfl
  · have q : (0 : Int) < 1 + -1 := q rfl rfl
    exact absurd q (by decide)
  · have q : (0 : Int) < -1 + 1 := q rfl rfl
    exact absurd q (by decide)
  · exact hne rfl
def pairOf (w : Way) : Nat × Int := (w.2.2.2, w.2.2.1)
/-- what a move may take: what is left, or what is cut off -/
def roomAt (ds : List Debt) (cs : List Int) (q : Nat × Int) : Int := if 0 < q.2 then (dbt ds q.1).2.2 - cs.getD q.1 0 else cs.getD q.1 0
theorem count_ind (x : Int) : ∀ l : List Int, (l.map fun y => if y = x then (1 : Int) else 0).sum = (l.count x : Nat)
  | [] => rfl
  | a :: l => by
    rw [List.map_cons, List.sum_cons, count_ind x l, List.count_cons]
    by_cases e : a = x
    · rw [if_pos e, if_pos (by rw [e]; exact beq_self_eq_true x)]
      omega
    · rw [if_neg e, if_neg (fun q => e (beq_iff_eq.mp q))]
      omega
theorem sum_mulr (m : Int) {α : Type} (f : α → Int) : ∀ l : List α, (l.map fun x => f x * m).sum = (l.map f).sum * m
  | [] => by
    show 0 = 0 * m
    omega
  | a :: l => by
    rw [List.map_cons, List.map_cons, List.sum_cons, List.sum_cons, sum_mulr m f l, Int.add_mul]
/-- the changed cut is a cut, even, and worth more -/
theorem Cyc.better {n least m : Int} {ds : List Debt} {cs : List Int} {ws : List Way} (C : Cyc (mvs least ds cs ds.length) ws) (hd : ∀ d ∈ ds, InB n d) (hc : IsCut ds cs) (he : EvenC ds cs) (m1 : 1 ≤ m) (hm : ∀ w ∈ ws, m ≤ roomAt ds cs (pairOf w)) : Better ds cs (chg m cs (ws.map pairOf)) := by
  have hlt : ∀ w ∈ ws, w.2.2.2 < ds.length := fun w hw => by
    obtain ⟨i, hi, h⟩ := mvs_mem.mp (C.sub w hw)
    rcases mv2_mem.mp h with ⟨_, rfl⟩ | ⟨_, rfl⟩ <;> exact hi
  have hltq : ∀ q ∈ ws.map pairOf, q.1 < ds.length := fun q hq => by
    obtain ⟨w, hw, rfl⟩ := List.mem_map.mp hq
    exact hlt w hw
  have hn : ((ws.map pairOf).map fun q => q.1).Nodup := by
    rw [List.map_map]
    exact C.nums
  have hcl := hc.len
  refine ⟨⟨by rw [chg_len, hcl], fun i d c e1 e2 => ?_⟩, fun x => ?_, ?_⟩
  · have hi := (List.getElem?_eq_some_iff.mp e1).1
    have e3 : cs[i]? = some (cs.getD i 0) := by
      rw [List.getD_eq_getElem?_getD, List.getElem?_eq_getElem (by omega)]
      rfl
    have z := hc.at_ i d _ e1 e3
    have e4 : c = (chg m cs (ws.map pairOf)).getD i 0 := by
      rw [List.getD_eq_getElem?_getD, e2]
      rfl
    by_cases h : ∃ q ∈ ws.map pairOf, q.1 = i
    · obtain ⟨q, hq, rfl⟩ := h
      rw [chg_in m _ cs hn q hq (by omega)] at e4
      obtain ⟨w, hw, rfl⟩ := List.mem_map.mp hq
      have r := hm w hw
      unfold roomAt at r
      rw [dbt_of e1] at r
      obtain ⟨k, hk, h⟩ := mvs_mem.mp (C.sub w hw)
      rcases mv2_mem.mp h with ⟨_, rfl⟩ | ⟨_, rfl⟩
      · have e4 : c = cs.getD k 0 + 1 * m := e4
        have r : m ≤ if (0 : Int) < 1 then d.2.2 - cs.getD k 0 else cs.getD k 0 := r
        rw [if_pos (show (0 : Int) < 1 by decide)] at r
        have r : m ≤ d.2.2 - cs.getD k 0 := r
        have z : 0 ≤ cs.getD k 0 ∧ cs.getD k 0 ≤ d.2.2 := z
        omega
      · have e4 : c = cs.getD k 0 + -1 * m := e4
        have r : m ≤ if (0 : Int) < -1 then d.2.2 - cs.getD k 0 else cs.getD k 0 := r
        rw [if_neg (show ¬ (0 : Int) < -1 by decide)] at r
        have r : m ≤ cs.getD k 0 := r
        have z : 0 ≤ cs.getD k 0 ∧ cs.getD k 0 ≤ d.2.2 := z
        omega
    · rw [chg_out m i _ cs fun q hq e => h ⟨q, hq, e⟩] at e4
      rw [e4]
      exact z
  · rw [chg_sumBy (fun d => d.1) x m _ cs hcl hltq, chg_sumBy (fun d => d.2.1) x m _ cs hcl hltq, he x, List.map_map, List.map_map]
    congr 1
    have p : ((ws.map fun w => (w.1 : Int)).map fun y => if y = x then (1 : Int) else 0).sum = ((ws.map fun w => (w.2.1 : Int)).map fun y => if y = x then (1 : Int) else 0).sum := by
      have q := C.perm.map (fun k : Nat => (k : Int))
      rw [List.map_map, List.map_map] at q
      rw [count_ind, count_ind]
      exact congrArg Nat.cast (q.count_eq x)
    rw [List.map_map, List.map_map] at p
    have key : ∀ w ∈ ws, (if (dbt ds w.2.2.2).1 = x then w.2.2.1 * m else 0) - (if (dbt ds w.2.2.2).2.1 = x then w.2.2.1 * m else 0) = ((if (w.1 : Int) = x then 1 else 0) - (if (w.2.1 : Int) = x then 1 else 0)) * m := fun w hw => by
      obtain ⟨k, hk, h⟩ := mvs_mem.mp (C.sub w hw)
      obtain ⟨a0, an, b0, bn⟩ := hd _ (List.mem_of_getElem? (dbt_at hk))
      have ea : (((dbt ds k).1.toNat : Nat) : Int) = (dbt ds k).1 := Int.toNat_of_nonneg a0
      have eb : (((dbt ds k).2.1.toNat : Nat) : Int) = (dbt ds k).2.1 := Int.toNat_of_nonneg b0
      rcases mv2_mem.mp h with ⟨_, rfl⟩ | ⟨_, rfl⟩
      · dsimp only
        rw [ea, eb, Int.sub_mul]
        split <;> split <;> omega
      · dsimp only
        rw [ea, eb, Int.sub_mul]
        split <;> split <;> omega
    have s1 : (ws.map fun w => (if (dbt ds w.2.2.2).1 = x then w.2.2.1 * m else 0) - (if (dbt ds w.2.2.2).2.1 = x then w.2.2.1 * m else 0)).sum = (ws.map fun w => ((if (w.1 : Int) = x then (1 : Int) else 0) - (if (w.2.1 : Int) = x then 1 else 0)) * m).sum := congrArg List.sum (List.map_congr_left key)
    have sub : ∀ (f g : Way → Int) (l : List Way), (l.map fun w => f w - g w).sum = (l.map f).sum - (l.map g).sum := fun f g l => by
      induction l with
      | nil => rfl
      | cons a l ih =>
        rw [List.map_cons, List.map_cons, List.map_cons, List.sum_cons, List.sum_cons, List.sum_cons, ih]
        omega
    rw [sum_mulr, sub, sub] at s1
    have p : (ws.map fun w => if (w.1 : Int) = x then (1 : Int) else 0).sum = (ws.map fun w => if (w.2.1 : Int) = x then (1 : Int) else 0).sum := p
    rw [p] at s1
    show (ws.map fun w => if (dbt ds w.2.2.2).1 = x then w.2.2.1 * m else 0).sum = (ws.map fun w => if (dbt ds w.2.2.2).2.1 = x then w.2.2.1 * m else 0).sum
    have z0 : ∀ y : Int, (y - y) * m = 0 := fun y => by rw [Int.sub_self, Int.zero_mul]
    rw [z0] at s1
    omega
  · rw [chg_sum m _ cs (fun q hq => by rw [hcl]; exact hltq q hq), List.map_map]
    have z : 0 < (ws.map fun w => w.2.2.1).sum := C.pos
    show cs.sum < cs.sum + (ws.map fun w => w.2.2.1).sum * m
    have : 0 < (ws.map fun w => w.2.2.1).sum * m := Int.mul_pos z (by omega)
    omega
theorem Cyc.room {least : Int} {ds : List Debt} {cs : List Int} {ws : List Way} (C : Cyc (mvs least ds cs ds.length) ws) : ∀ w ∈ ws, least ≤ roomAt ds cs (pairOf w) := fun w hw => by
  obtain ⟨k, hk, h⟩ := mvs_mem.mp (C.sub w hw)
  unfold roomAt
  rcases mv2_mem.mp h with ⟨g, rfl⟩ | ⟨g, rfl⟩
  · show least ≤ if (0 : Int) < 1 then (dbt ds k).2.2 - cs.getD k 0 else cs.getD k 0
    rw [if_pos (show (0 : Int) < 1 by decide)]
    exact g
  · show least ≤ if (0 : Int) < -1 then (dbt ds k).2.2 - cs.getD k 0 else cs.getD k 0
    rw [if_neg (show ¬ (0 : Int) < -1 by decide)]
    exact g
theorem Cyc.pairs {least : Int} {ds : List Debt} {cs : List Int} {ws : List Way} (C : Cyc (mvs least ds cs ds.length) ws) : ∀ q ∈ ws.map pairOf, q.1 < ds.length ∧ (q.2 = 1 ∨ q.2 = -1) := fun q hq => by
  obtain ⟨w, hw, rfl⟩ := List.mem_map.mp hq
  obtain ⟨k, hk, h⟩ := mvs_mem.mp (C.sub w hw)
  rcases mv2_mem.mp h with ⟨_, rfl⟩ | ⟨_, rfl⟩
  · exact ⟨hk, .inl rfl⟩
  · exact ⟨hk, .inr rfl⟩
theorem Cyc.least_of {least m : Int} {ds : List Debt} {cs : List Int} {ws : List Way} (C : Cyc (mvs least ds cs ds.length) ws) (h : ∃ q ∈ ws.map pairOf, m = roomAt ds cs q) : least ≤ m := by
  obtain ⟨q, hq, rfl⟩ := h
  obtain ⟨w, hw, rfl⟩ := List.mem_map.mp hq
  exact C.room w hw
end Cd

/-! Clearday: dicts from house to number. -/
namespace Cd
open PySem PySem.Spec PyProof.Rows L2

/-- what a dict of whole numbers holds -/
structure DctOf (kvs : List (Key × V)) (F : Int → Option Int) : Prop where
  val : ∀ x : Int, valV kvs (Sum.inl x) = (F x).map V.int
  keys : ∃ is : List Int, kvs.map (·.1) = is.map Sum.inl ∧ ∀ x, x ∈ is ↔ (F x).isSome = true
theorem dct_nil : DctOf [] (fun _ => none) := ⟨fun _ => rfl, [], rfl, fun x => Iff.intro (fun h => absurd h List.not_mem_nil) (fun h => Bool.noConfusion (h : false = true))⟩
theorem putK_keys {kvs : List (Key × V)} {k : Key} {v : V} (h : (valV kvs k).isSome = true) : (putK kvs k v).map (·.1) = kvs.map (·.1) := by
  unfold putK
  rw [if_pos (by rw [valV_any]; exact h), List.map_map]
  refine List.map_congr_left fun p _ => ?_
  show (if p.1 = k then (p.1, v) else p).1 = p.1
  split <;> rfl
theorem DctOf.put {kvs : List (Key × V)} {F : Int → Option Int} (h : DctOf kvs F) (k v : Int) : DctOf (putK kvs (Sum.inl k) (.int v)) (fun x => if x = k then some v else F x) := by
  refine ⟨fun x => ?_, ?_⟩
  · rw [valV_put, h.val]
    by_cases e : x = k
    · rw [if_pos (by rw [e]), if_pos e]
      rfl
    · rw [if_neg (fun z => e (Sum.inl.inj z)), if_neg e]
  · obtain ⟨is, h1, h2⟩ := h.keys
    cases q : valV kvs (Sum.inl k : Key) with
    | some u =>
      refine ⟨is, by rw [putK_keys (by rw [q]; rfl), h1], fun x => ?_⟩
      rw [h2]
      by_cases e : x = k
      · rw [if_pos e, e]
        have z := h.val k
        rw [q] at z
        cases w : F k with
        | none =>
          rw [w] at z
          cases z
        | some _ => exact ⟨fun _ => rfl, fun _ => rfl⟩
      · rw [if_neg e]
    | none =>
      refine ⟨is ++ [k], by rw [putK_new _ q, List.map_append, List.map_append, h1]; rfl, fun x => ?_⟩
      rw [List.mem_append, h2, List.mem_singleton]
      by_cases e : x = k
      · rw [if_pos e]
        exact ⟨fun _ => rfl, fun _ => .inr e⟩
      · rw [if_neg e]
        exact ⟨fun z => z.elim id (fun y => absurd y e), .inl⟩
theorem DctOf.ext {kvs : List (Key × V)} {F G : Int → Option Int} (h : DctOf kvs F) (e : ∀ x, F x = G x) : DctOf kvs G := by
  have z : F = G := funext e
  exact z ▸ h
theorem putK_len (kvs : List (Key × V)) (k : Key) (v : V) : (putK kvs k v).length ≤ kvs.length + 1 := by
  unfold putK
  split
  · rw [List.length_map]
    omega
  · rw [List.length_append]
    exact Nat.le_refl _
/-- a number among numbers -/
theorem inV_ints (x : Int) : ∀ ns : List Int, inV (.int x) (ns.map V.int) = decide (x ∈ ns)
  | [] => by
    rw [decide_eq_false List.not_mem_nil]
    rfl
  | n :: ns => by
    have ih := inV_ints x ns
    unfold inV at ih ⊢
    rw [List.map_cons, List.any_cons, ih]
    by_cases e : x = n
    · subst e
      rw [decide_eq_true List.mem_cons_self]
      simp [eqV]
    · by_cases e2 : x ∈ ns
      · rw [decide_eq_true e2, decide_eq_true (List.mem_cons_of_mem _ e2), Bool.or_true]
      · rw [decide_eq_false e2, decide_eq_false (fun z => (List.mem_cons.mp z).elim e e2), Bool.or_false]
        simp [eqV]
        exact fun z => e z.symm
theorem flat_ints : ∀ ns : List Int, (ns.map V.int).all flatV = true
  | [] => rfl
  | n :: ns => by
    rw [List.map_cons, List.all_cons, flat_ints ns]
    rfl
/-- the last item -/
theorem atI_last (xs : List V) (x : V) : atI (xs ++ [x]) (-1) = some x := by
  have hl : (xs ++ [x]).length = xs.length + 1 := List.length_append
  unfold atI ixN
  rw [if_neg (by decide), if_pos (by rw [hl]; omega)]
  show (xs ++ [x])[((-1 : Int) + ((xs ++ [x]).length : Int)).toNat]? = _
  have e : ((-1 : Int) + ((xs ++ [x]).length : Int)).toNat = xs.length := by
    rw [hl]
    omega
  rw [e, List.getElem?_append_right (Nat.le_refl _), Nat.sub_self]
  rfl
theorem idxV_app (r : List Nat) (i : Nat) : idxV (r ++ [i]) = idxV r ++ [.int (i : Int)] := by
  unfold idxV
  rw [List.map_append]
  rfl
theorem idxV_rev (r : List Nat) : (idxV r).reverse = idxV r.reverse := by
  unfold idxV
  rw [List.map_reverse]
end Cd

/-! Clearday: lists of tuples of any kind. -/
namespace Cd
open PySem PySem.Spec PyProof.Rows L2

section
variable {α : Type} {R R' : V → α → Prop}
theorem paired_imp (h : ∀ v a, R v a → R' v a) : ∀ {vs : List V} {as : List α}, Paired R vs as → Paired R' vs as
  | _, _, .nil => .nil
  | _, _, .cons x t => .cons (h _ _ x) (paired_imp h t)
theorem paired_get : ∀ {vs : List V} {as : List α} {i : Nat} {v : V}, Paired R vs as → vs[i]? = some v → ∃ a, as[i]? = some a ∧ R v a
  | _, _, _, _, .nil, e => by simp at e
  | _, _, 0, _, .cons h _, e => by
    cases (Option.some.inj e : _ = _)
    exact ⟨_, rfl, h⟩
  | _, _, i + 1, v, .cons _ t, e => by
    obtain ⟨d, e1, h1⟩ := paired_get (i := i) (v := v) t e
    exact ⟨d, e1, h1⟩
theorem paired_get' {vs : List V} {as : List α} {i : Nat} {a : α} (h : Paired R vs as) (e : as[i]? = some a) : ∃ v, vs[i]? = some v ∧ R v a := by
  have hl := Paired.length h
  have hi := (List.getElem?_eq_some_iff.mp e).1
  have e1 : vs[i]? = some (vs[i]'(by omega)) := List.getElem?_eq_getElem (by omega)
  obtain ⟨d', e2, h2⟩ := paired_get h e1
  rw [e] at e2
  cases e2
  exact ⟨_, e1, h2⟩
theorem paired_app : ∀ {vs ws : List V} {ds es : List α}, Paired R vs ds → Paired R ws es → Paired R (vs ++ ws) (ds ++ es)
  | _, _, _, _, .nil, h => h
  | _, _, _, _, .cons h t, h' => .cons h (paired_app t h')
theorem paired_set {v : V} {a : α} (x : R v a) : ∀ {vs : List V} {as : List α} (i : Nat), Paired R vs as → Paired R (vs.set i v) (as.set i a)
  | _, _, _, .nil => .nil
  | _, _, 0, .cons _ t => .cons x t
  | _, _, i + 1, .cons h t => .cons h (paired_set x i t)
theorem paired_rep {v : V} {a : α} (x : R v a) : ∀ n, Paired R (List.replicate n v) (List.replicate n a)
  | 0 => .nil
  | n + 1 => by
    rw [List.replicate_succ, List.replicate_succ]
    exact .cons x (paired_rep x n)
end
theorem paired_map {α β : Type} {R : V → α → Prop} {f : β → V} {g : β → α} : ∀ {l : List β}, (∀ x ∈ l, R (f x) (g x)) → Paired R (l.map f) (l.map g)
  | [], _ => .nil
  | _ :: _, h => .cons (h _ List.mem_cons_self) (paired_map fun x hx => h x (List.mem_cons_of_mem _ hx))
/-- v is a tuple of a's parts -/
def TV {α : Type} (enc : α → List V) (K : PySem.W.Frag) (H : Hp) (v : V) (a : α) : Prop := ∃ p, v = .ref p ∧ SqT K H p (enc a)
abbrev TVs {α : Type} (enc : α → List V) (K : PySem.W.Frag) (H : Hp) : List V → List α → Prop := Paired (TV enc K H)
section
variable {α : Type} {enc : α → List V} {K : PySem.W.Frag} {H H' : Hp}
theorem _root_.L2.Same.tv {v : V} {a : α} (e : Same H H') (h : TV enc K H v a) : TV enc K H' v a := by
  obtain ⟨p, r, h⟩ := h
  exact ⟨p, r, e.tup h⟩
theorem _root_.L2.Same.tvs {vs : List V} {as : List α} (e : Same H H') (h : TVs enc K H vs as) : TVs enc K H' vs as := paired_imp (fun _ _ x => e.tv x) h
theorem tv_mut {l : Addr} {vs : List V} {o : HO} {v : V} {a : α} (hl : H l = some (.lst vs)) (h : TV enc K H v a) : TV enc K (upd H l o) v a := by
  obtain ⟨p, r, h⟩ := h
  exact ⟨p, r, tup_mut hl h⟩
theorem tvs_mut {l : Addr} {ws : List V} {o : HO} (hl : H l = some (.lst ws)) {vs : List V} {as : List α} (h : TVs enc K H vs as) : TVs enc K (upd H l o) vs as := paired_imp (fun _ _ x => tv_mut hl x) h
theorem tv_new {p : Addr} {a : α} (h : H p = some (.tup (enc a))) : TV enc K H (.ref p) a := ⟨p, rfl, SqT.of h⟩
end
/-! ### ways, and what they gain -/
def wV (w : Way) : List V := [.int (w.1 : Int), .int (w.2.1 : Int), .int w.2.2.1, .int (w.2.2.2 : Int)]
def gV (q : Nat × Int) : List V := [.int (q.1 : Int), .int q.2]
def bV : Option Nat → V
  | none => .non
  | some x => .int (x : Int)
def LV (K : PySem.W.Frag) (H : Hp) (v : V) : Option (Nat × Int) → Prop
  | none => v = .non
  | some q => TV gV K H v q
theorem lv_same {K : PySem.W.Frag} {H H' : Hp} (e : Same H H') : ∀ v a, LV K H v a → LV K H' v a
  | _, none, h => h
  | _, some _, h => e.tv h
theorem lv_mut {K : PySem.W.Frag} {H : Hp} {l : Addr} {ws : List V} {o : HO} (hl : H l = some (.lst ws)) : ∀ v a, LV K H v a → LV K (upd H l o) v a
  | _, none, h => h
  | _, some _, h => tv_mut hl h
theorem bV_at {b : List (Option Nat)} {x : Nat} {y : Option Nat} (h : nxB b x = y) (hx : x < b.length) : atI (b.map bV) (x : Int) = some (bV y) := by
  refine atI_nat ?_
  unfold nxB at h
  rw [List.getD_eq_getElem?_getD, List.getElem?_eq_getElem hx] at h
  rw [List.getElem?_map, List.getElem?_eq_getElem hx]
  show some (bV b[x]) = some (bV y)
  rw [← h]
  rfl
theorem hgt_at {h : List Int} {x : Nat} (hx : x < h.length) : atI (h.map V.int) (x : Int) = some (.int (hgt h x)) := by
  refine atI_nat ?_
  unfold hgt
  rw [List.getElem?_map, List.getElem?_eq_getElem hx, List.getD_eq_getElem?_getD, List.getElem?_eq_getElem hx]
  rfl
theorem flat_rep (v : V) : ∀ n : Nat, (List.replicate n [v]).flatten = List.replicate n v
  | 0 => rfl
  | n + 1 => by
    rw [List.replicate_succ, List.flatten_cons, flat_rep v n, List.replicate_succ]
    rfl
/-- the three lists of a climbing -/
structure ClH (K : PySem.W.Frag) (H0 H : Hp) (p q r : Addr) (h : List Int) (b : List (Option Nat)) (l : List (Option (Nat × Int))) : Prop where
  sm : Same H0 H
  eh : H p = some (.lst (h.map V.int))
  eb : H q = some (.lst (b.map bV))
  el : ∃ ls, H r = some (.lst ls) ∧ Paired (LV K H) ls l
theorem ix_nat {l : List V} {v : Nat} (h : v < l.length) : ixN l.length (v : Int) = some v := by
  unfold ixN
  rw [if_pos (by omega), if_pos (by omega), Int.toNat_natCast]
theorem ClH.step {K : PySem.W.Frag} {H0 H : Hp} {p q r t : Addr} {h : List Int} {b : List (Option Nat)} {l : List (Option (Nat × Int))} {ls : List V} {v u num : Nat} {x g : Int} (C : ClH K H0 H p q r h b l) (el : H r = some (.lst ls)) (pl : Paired (LV K H) ls l)
    (ne1 : p ≠ q) (ne2 : p ≠ r) (ne3 : q ≠ r) (hp : H0 p = none) (hq : H0 q = none) (hr : H0 r = none)
    (ht : (upd (upd H p (.lst ((h.map V.int).set v (.int x)))) q (.lst ((b.map bV).set v (.int (u : Int))))) t = none) :
    ClH K H0 (upd (upd (upd (upd H p (.lst ((h.map V.int).set v (.int x)))) q (.lst ((b.map bV).set v (.int (u : Int))))) t (.tup [.int (num : Int), .int g])) r (.lst (ls.set v (.ref t)))) p q r (h.set v x) (b.set v (some u)) (l.set v (some (num, g))) := by
  have a1 : (upd H p (.lst ((h.map V.int).set v (.int x)))) p = some (.lst ((h.map V.int).set v (.int x))) := upd_same
  have b1 : (upd H p (.lst ((h.map V.int).set v (.int x)))) q = some (.lst (b.map bV)) := by
    rw [upd_ne ne1.symm]
    exact C.eb
  have r1 : (upd H p (.lst ((h.map V.int).set v (.int x)))) r = some (.lst ls) := by
    rw [upd_ne ne2.symm]
    exact el
  have s1 : Same H0 (upd H p (.lst ((h.map V.int).set v (.int x)))) := same_mut C.sm hp
  have p1 : Paired (LV K (upd H p (.lst ((h.map V.int).set v (.int x))))) ls l := paired_imp (lv_mut C.eh) pl
  generalize upd H p (.lst ((h.map V.int).set v (.int x))) = H1 at a1 b1 r1 s1 p1 ht ⊢
  have a2 : (upd H1 q (.lst ((b.map bV).set v (.int (u : Int))))) p = some (.lst ((h.map V.int).set v (.int x))) := by
    rw [upd_ne ne1]
    exact a1
  have b2 : (upd H1 q (.lst ((b.map bV).set v (.int (u : Int))))) q = some (.lst ((b.map bV).set v (.int (u : Int)))) := upd_same
  have r2 : (upd H1 q (.lst ((b.map bV).set v (.int (u : Int))))) r = some (.lst ls) := by
    rw [upd_ne ne3.symm]
    exact r1
  have s2 : Same H0 (upd H1 q (.lst ((b.map bV).set v (.int (u : Int))))) := same_mut s1 hq
  have p2 : Paired (LV K (upd H1 q (.lst ((b.map bV).set v (.int (u : Int)))))) ls l := paired_imp (lv_mut b1) p1
  generalize upd H1 q (.lst ((b.map bV).set v (.int (u : Int)))) = H2 at a2 b2 r2 s2 p2 ht ⊢
  have n3 := same_new (o := .tup [.int (num : Int), .int g]) ht
  have t3 : (upd H2 t (.tup [.int (num : Int), .int g])) t = some (.tup [.int (num : Int), .int g]) := upd_same
  have s3 := s2.trans n3
  have p3 : Paired (LV K (upd H2 t (.tup [.int (num : Int), .int g]))) ls l := paired_imp (lv_same n3) p2
  have a3 := n3 _ _ a2
  have b3 := n3 _ _ b2
  have r3 := n3 _ _ r2
  generalize upd H2 t (.tup [.int (num : Int), .int g]) = H3 at t3 s3 p3 a3 b3 r3 ⊢
  refine ⟨same_mut s3 hr, ?_, ?_, _, upd_same, ?_⟩
  · rw [upd_ne ne2, a3, List.map_set]
  · rw [upd_ne ne3, b3, List.map_set]
    rfl
  · refine paired_set (a := some (num, g)) (lv_mut r3 _ _ ?_) v (paired_imp (lv_mut r3) p3)
    exact ⟨t, rfl, SqT.of t3⟩
end Cd

/-! Clearday: max(xs, default=d) of whole numbers. -/
namespace Cd
open PySem PySem.Spec PyProof.Rows L2

def rMaxDf (K : PySem.W.Frag) : List V → List V → Hp → VK → Prop := fun vs zs H Q => ∃ (a : Addr) (ns : List Int) (d : Int), vs = [V.ref a] ∧ zs = [.int d] ∧ SqL K H a (ns.map V.int) ∧
  (ns = [] → Q (.int d) H) ∧ ∀ m, m ∈ ns → (∀ y, y ∈ ns → y ≤ m) → Q (.int m) H
theorem cr_maxDf {X : Cx} (hc : X.calm = true) : CallRK X (.builtin "max") [Str.ofString "default"] (rMaxDf X.K) := by
  intro pins s σ H vs zs us ws Q I r rz h
  obtain ⟨a, ns, d, rfl, rfl, hs, q0, q⟩ := h
  obtain ⟨its, rv, hl, _⟩ := I.list hs
  obtain rfl := Vals.ref1 r
  obtain ⟨w1, rfl, e1⟩ := vals1 rz
  obtain ⟨tk1, rfl⟩ : ∃ t, w1 = Value.int d t := e1
  have hlen : its.length = ns.length := by
    rw [← rv.length, List.length_map]
  have hval : ∀ (i : Nat) (v : Value), its.toArray[i]? = some v → ∃ t, v = Value.int (ns.getD i 0) t := fun i v hv => by
    have hv' : its[i]? = some v := by simpa using hv
    have hi : i < its.length := (List.getElem?_eq_some_iff.mp hv').1
    have e1 : (ns.map V.int)[i]? = some (.int (ns.getD i 0)) := by
      rw [List.getElem?_map, List.getD_eq_getElem?_getD, List.getElem?_eq_getElem (by omega)]
      rfl
    obtain ⟨u, eu, ru⟩ := rv.get e1
    rw [hv'] at eu
    cases eu
    exact ru
  refine call_max_walkD (PySem.W.iter_listW (A := X.A.in1) (I.ok.hd hc) hl.isList fun s₂ e W st hfp hw hk => ?_)
  refine ⟨_, _, _, _, _, _, _, s.heap, (fun i j => decide (ns.getD i 0 > ns.getD j 0)), rfl, W, st, hfp, hw, hk, fun hz s' m => ?_, fun hp => ⟨fun i j vi vj s1 Q1 E1 _ h1 h2 h3 => CmpOf.ints_gt (fun i => ns.getD i 0) hval i j vi vj s1 Q1 E1 h1 h2 h3, fun v s' hP m => ?_⟩⟩
  · obtain ⟨h', tk, rfl, hk'⟩ := PySem.W.moved_old e rfl m
    have en : ns = [] := List.eq_nil_of_length_eq_zero (by rw [List.size_toArray] at hz; omega)
    exact ⟨.int d, H, I.kept hk', ⟨_, rfl⟩, q0 en⟩
  · obtain ⟨h', tk, rfl, hk'⟩ := PySem.W.moved_old e rfl m
    obtain ⟨t, rfl⟩ := hval _ v hP
    obtain ⟨g1, g2⟩ := argBest_gt (fun i => ns.getD i 0) (its.toArray.size - 1)
    rw [List.size_toArray] at hp
    refine ⟨.int _, H, I.kept hk', ⟨_, rfl⟩, q _ ?_ fun y hy => ?_⟩
    · have g1' : argBest (fun i j => decide (ns.getD i 0 > ns.getD j 0)) (its.toArray.size - 1) < ns.length := by
        rw [List.size_toArray] at g1 ⊢
        omega
      rw [List.getD_eq_getElem?_getD, List.getElem?_eq_getElem g1']
      exact List.getElem_mem g1'
    · obtain ⟨j, hj, rfl⟩ := List.getElem_of_mem hy
      have z := g2 j (by rw [List.size_toArray]; omega)
      have e2 : ns.getD j 0 = ns[j] := by
        rw [List.getD_eq_getElem?_getD, List.getElem?_eq_getElem hj]
        rfl
      rw [← e2]
      exact z
end Cd

/-! Clearday: methods, objects that are made. -/
namespace Cd
open PySem PySem.Spec PyProof.Rows L2

/-- where a method's def stands -/
structure MDef (K : PySem.W.Frag) (C : Addr) (m qual : Str) (st : Stmt) : Prop where
  ex : ∃ f fd, Fun K m qual st f fd ∧ Meth K C m f
/-- where a class's __init__ stands -/
structure IDef (K : PySem.W.Frag) (C : Addr) (qual : Str) (st : Stmt) : Prop where
  ex : ∃ f fd, Fun K "__init__" qual st f fd ∧ Mk K C f
structure CalM (P : Program) (w : World) (K : PySem.W.Frag) (mg : Str → Option Value) (base : Heap) (CX : CXT) (k : Nat) (C : Addr) (m : Str) (ps : List Str) (sp : Sp) : Prop where
  ex : ∃ f fd, FnOk P w K mg base CX k f fd ps sp ∧ Meth K C m f ∧ Binds K fd ps []
structure CalI (P : Program) (w : World) (K : PySem.W.Frag) (mg : Str → Option Value) (base : Heap) (CX : CXT) (k : Nat) (C : Addr) (ps : List Str) (sp : Sp) : Prop where
  ex : ∃ f fd, FnOk P w K mg base CX k f fd ps sp ∧ Mk K C f ∧ Binds K fd ps []
abbrev BindsQ (x qual : Str) (st : Stmt) (ps : List Str) : Prop := ∀ (kV doc pm : Value) (an : Option Addr) (cdv ct : Value) (us : List Value), us.length = ps.length → bindArgs (PySem.W.fnOf x qual (defArgs st) (defBody st) (defScope st) .none kV doc pm an cdv ct) ⟨us, []⟩ = pure (ps.zip us)
section
variable {P : Program} {w : World} {K : PySem.W.Frag} {mg : Str → Option Value} {base : Heap} {C : Addr} {m qual : Str} {st : Stmt} {N ps : List Str} {k : Nat} {sp : Sp}
theorem MDef.ok (D : MDef K C m qual st) (S : FnScope N ps (defScope st)) (hb : BindsQ m qual st ps) (len : ∀ vs H Q E, sp vs H Q E → vs.length = ps.length)
    (hbody : ∀ (f : Addr) (cdv : Value) (A : Around) (outer : List Env) (s : Shared) (H : Hp) (vs : List V) (Q : VK) (E : XK), Room k (A.deeper (envOfC qual (defScope st) s.heap.objs.size f cdv)) → sp vs H Q E →
      ∃ t, PSs (cxOf CX0 P w K mg base N qual (defScope st) f cdv A outer s H E).nox (defBody st) t ∧ t { nx := fun _ H' => Q .non H', rt := Q } (start N vs) H) : CalM P w K mg base CX0 (k + 1) C m ps sp := by
  obtain ⟨f, fd, F, M⟩ := D.ex
  exact ⟨f, fd, F.ok S len (hbody f), M, F.binds hb⟩
theorem MDef.okN (D : MDef K C m qual st) (S : FnScope N ps (defScope st)) (hb : BindsQ m qual st ps) (len : ∀ vs H Q E, sp vs H Q E → vs.length = ps.length)
    (hbody : ∀ (f : Addr) (cdv : Value) (A : Around) (outer : List Env) (s : Shared) (H : Hp) (vs : List V) (Q : VK) (E : XK), Room k (A.deeper (envOfC qual (defScope st) s.heap.objs.size f cdv)) → sp vs H Q E →
      ∃ t, PSs (cxOf (L2N.CX P w) P w K mg base N qual (defScope st) f cdv A outer s H E) (defBody st) t ∧ t { nx := fun _ H' => Q .non H', rt := Q } (start N vs) H) : CalM P w K mg base (L2N.CX P w) (k + 1) C m ps sp := by
  obtain ⟨f, fd, F, M⟩ := D.ex
  have b := F.binds hb
  obtain ⟨oc, od, kV, doc, pm, an, cdv, ct, osl, rfl, lk, hcd⟩ := F.ex
  refine ⟨f, _, ?_, M, b⟩
  exact fn_of lk hcd S len fun A outer s H vs Q E hr hsp => hbody f cdv A outer s H vs Q E hr hsp
theorem IDef.okN (D : IDef K C qual st) (S : FnScope N ps (defScope st)) (hb : BindsQ "__init__" qual st ps) (len : ∀ vs H Q E, sp vs H Q E → vs.length = ps.length)
    (hbody : ∀ (f : Addr) (cdv : Value) (A : Around) (outer : List Env) (s : Shared) (H : Hp) (vs : List V) (Q : VK) (E : XK), Room k (A.deeper (envOfC qual (defScope st) s.heap.objs.size f cdv)) → sp vs H Q E →
      ∃ t, PSs (cxOf (L2N.CX P w) P w K mg base N qual (defScope st) f cdv A outer s H E) (defBody st) t ∧ t { nx := fun _ H' => Q .non H', rt := Q } (start N vs) H) : CalI P w K mg base (L2N.CX P w) (k + 1) C ps sp := by
  obtain ⟨f, fd, F, M⟩ := D.ex
  have b := F.binds hb
  obtain ⟨oc, od, kV, doc, pm, an, cdv, ct, osl, rfl, lk, hcd⟩ := F.ex
  refine ⟨f, _, ?_, M, b⟩
  exact fn_of lk hcd S len fun A outer s H vs Q E hr hsp => hbody f cdv A outer s H vs Q E hr hsp
end
section
variable {X : Cx} {CX : CXT} {k : Nat} {C : Addr} {ps : List Str} {sp : Sp} {x m : Str} {p pos apos : Pos} {e o : Expr} {es : List Expr} {ta : TE} {t : TA}
/-- o.m(e, ..) -/
theorem pe_mcal {E : XK} {pl : Sem Bool} (he : PE X o ta) (c : Cls X.K C) (hm : CalM X.prog X.w X.K X.mg X.base CX k C m ps sp) (hr : Room k X.A) (hx : Passes CX X E) (ha : PA X (e :: es) t)
    (hst : starEach (e :: es) X.env = (false, eval e X.env) :: starEach es X.env := by rfl) (hpl : (backTo pos (starEach es X.env)).any (·.1) = false := by rfl)
    (ht : eval (.Call (.Attribute o m apos) (e :: es) [] pos) X.env = (do
      let ov ← eval o X.env
      standAt apos.atName
      let (f, first) ← holding [ov] (getMethod ov m pl)
      callWith pos f first (backTo pos (starEach (e :: es) X.env)) (backToKw pos (keywordEach [] X.env))) := by rfl) :
    PE X (.Call (.Attribute o m apos) (e :: es) [] pos) (tMeth C m sp [] E ta t) := by
  obtain ⟨f, fd, F, M, b⟩ := hm.ex
  exact pe_meth he c M F hr b .nil hx ha hst hpl ht
/-- o.m() -/
theorem pe_mcal0 {E : XK} {pl : Sem Bool} (he : PE X o ta) (c : Cls X.K C) (hm : CalM X.prog X.w X.K X.mg X.base CX k C m ps sp) (hr : Room k X.A) (hx : Passes CX X E)
    (ht : eval (.Call (.Attribute o m apos) [] [] pos) X.env = (do
      let ov ← eval o X.env
      standAt apos.atName
      let (f, first) ← holding [ov] (getMethod ov m pl)
      callWith pos f first (backTo pos (starEach [] X.env)) (backToKw pos (keywordEach [] X.env))) := by rfl) :
    PE X (.Call (.Attribute o m apos) [] [] pos) (tMeth C m sp [] E ta tNil) := by
  obtain ⟨f, fd, F, M, b⟩ := hm.ex
  exact pe_meth0 he c M F hr b .nil hx ht
/-- the same in a try's body -/
def tMethT (C : Addr) (m : Str) (sp : Sp) (E : L2.St → XK) (ta : TE) (t : TA) : TE := fun σ H Q => ta σ H fun x H1 => ∃ a dx fs, x = .ref a ∧ H1 a = some (.ins C dx fs) ∧ fs.lookup m = none ∧ t σ H1 fun vs H2 => sp (x :: vs) H2 Q (E σ)
theorem pe_mcalS {E : L2.St → XK} {pl : Sem Bool} (he : PE X o ta) (c : Cls X.K C) (hm : CalM X.prog X.w X.K X.mg X.base CX k C m ps sp) (hr : Room k X.A) (hx : ∀ σ, PassesAt CX X σ (E σ)) (ha : PA X (e :: es) t)
    (hst : starEach (e :: es) X.env = (false, eval e X.env) :: starEach es X.env := by rfl) (hpl : (backTo pos (starEach es X.env)).any (·.1) = false := by rfl)
    (ht : eval (.Call (.Attribute o m apos) (e :: es) [] pos) X.env = (do
      let ov ← eval o X.env
      standAt apos.atName
      let (f, first) ← holding [ov] (getMethod ov m pl)
      callWith pos f first (backTo pos (starEach (e :: es) X.env)) (backToKw pos (keywordEach [] X.env))) := by rfl) :
    PE X (.Call (.Attribute o m apos) (e :: es) [] pos) (tMethT C m sp E ta t) := by
  obtain ⟨f, fd, F, M, b⟩ := hm.ex
  refine ⟨fun pins s σ H Q I h => ?_⟩
  refine PySem.W.methodCall_KW (pl := pl) (thn (he.run pins s σ H _ I h) fun u s1 ⟨x, H1, I1, rx, a, dx, fs, ex, ea, l, q⟩ => ?_) ht
  subst ex
  obtain rfl : u = Value.ref a := rx
  refine getmeth_ok I1 ea c M l ?_
  refine PySem.W.callWith_K (first := [.ref a]) (h₀ := X.base) I.ok.mod.kin M.kp (thn (ha.run pos pins s1 σ H1 _ I1 q) fun us s2 ⟨vs, H2, I2, r, q2⟩ => ⟨I2.kIn, ?_⟩) hst hpl
  exact run_fnS (us := .ref a :: us) (vs := .ref a :: vs) F hr b (hx σ) I2 (.cons rfl r) q2
/-- C(e, ..) -/
theorem pe_mak {E : XK} (M : CalI X.prog X.w X.K X.mg X.base CX k C ps sp) (hr : Room (k + 1) X.A) (hg : Gl X x) (hm : X.mg x = some (.ref C)) (hx : Passes CX X E)
    (ha : PA X (e :: es) t) (hdb : (x == ("__debug__" : Str)) = false := by decide) (he : starEach (e :: es) X.env = (false, eval e X.env) :: starEach es X.env := by rfl) (hpl : (backTo pos (starEach es X.env)).any (·.1) = false := by rfl) :
    PE X (.Call (.Name x p) (e :: es) [] pos) (tMake C sp [] E t) := by
  obtain ⟨f, fd, F, M, b⟩ := M.ex
  exact pe_make M F hr hg hm b .nil hx ha hdb he hpl
/-- the same in a try's body -/
def tMakeS (C : Addr) (sp : Sp) (E : L2.St → XK) (t : TA) : TE := fun σ H Q => t σ H fun vs H1 => ∀ x dx, H1 x = none → H1 dx = none → dx ≠ x →
  sp (.ref x :: vs) (upd (upd H1 dx (.own x)) x (.ins C dx [])) (fun v H2 => v = .non ∧ Q (.ref x) H2) (E σ)
theorem run_makeS {E : L2.St → XK} {f : Addr} {fd : FuncData} {pins : List (Addr × Obj)} {σ : L2.St} {H : Hp} {s : Shared} {Q : VK} {us : List Value} {vs : List V} (M : Mk X.K C f) (F : FnOk X.prog X.w X.K X.mg X.base CX k f fd ps sp) (hr : Room (k + 1) X.A) (hb : Binds X.K fd ps [])
    (hx : PassesAt CX X σ (E σ)) (I : L2.Inv X pins σ H s) (r : Vals vs us)
    (h : ∀ x dx, H x = none → H dx = none → dx ≠ x → sp (.ref x :: vs) (upd (upd H dx (.own x)) x (.ins C dx [])) (fun v H2 => v = .non ∧ Q (.ref x) H2) (E σ)) :
    wpAny (model X.prog X.w) X.A (call (.ref C) us) (EP X pins σ Q) X.xe s := by
  have hq := h (s.heap.objs.size + 1) s.heap.objs.size (I.hok.fresh (Nat.le_succ _)) (I.hok.fresh (Nat.le_refl _)) (Nat.ne_of_lt (Nat.lt_succ_self _))
  have I2 := Inv.made (C := C) I
  have r2 : Vals (V.ref (s.heap.objs.size + 1) :: vs) (Value.ref (s.heap.objs.size + 1) :: us) := .cons rfl r
  have hl : (Value.ref (s.heap.objs.size + 1) :: us).length = ps.length := by
    have e := r2.length
    rw [F.len _ _ _ _ hq] at e
    exact e.symm
  have b2 := hb (s := { s with heap := (s.heap.push _).push _ }) (Value.ref (s.heap.objs.size + 1) :: us) I2.kIn (by rw [List.append_nil]; exact hl)
  rw [List.append_nil] at b2
  refine wpAny_call (make_map (f := f) I.kIn M.makes M.init (beq_iff_eq.mp M.fn) (codeAny_mono (F.run _ X.stack _ _ ⟨Value.ref (s.heap.objs.size + 1) :: us, []⟩ (Value.ref (s.heap.objs.size + 1) :: us) _ _ (E σ) (hr.make C us [])
    (I2.env0.make C us []) b2 r2 hq) fun r s' hq' => ?_))
  cases r with
  | error e => exact hx pins _ _ e s' I2 hq'
  | ok fl =>
    cases fl with
    | ret u =>
      obtain ⟨v, H', I3, rv, ev, q3⟩ := I2.after hq'
      subst ev
      exact ⟨rv, ⟨V.ref (s.heap.objs.size + 1), H', I3, rfl, q3⟩⟩
    | next => exact False.elim hq'
    | brk => exact False.elim hq'
    | cont => exact False.elim hq'
theorem pe_makS {E : L2.St → XK} (M : CalI X.prog X.w X.K X.mg X.base CX k C ps sp) (hr : Room (k + 1) X.A) (hg : Gl X x) (hm : X.mg x = some (.ref C)) (hx : ∀ σ, PassesAt CX X σ (E σ))
    (ha : PA X (e :: es) t) (hdb : (x == ("__debug__" : Str)) = false := by decide) (he : starEach (e :: es) X.env = (false, eval e X.env) :: starEach es X.env := by rfl) (hpl : (backTo pos (starEach es X.env)).any (·.1) = false := by rfl) :
    PE X (.Call (.Name x p) (e :: es) [] pos) (tMakeS C sp E t) := by
  obtain ⟨f, fd, F, M, b⟩ := M.ex
  refine ⟨fun pins s σ H Q I h => ?_⟩
  refine wpAny_Call_Name_kw (ld_glob I hg hm ?_ hdb)
  refine PySem.W.callWith_K (h₀ := X.base) I.ok.mod.kin M.kp (thn (ha.run pos pins s σ H _ I h) fun us s1 ⟨vs, H1, I1, r, q⟩ => ⟨I1.kIn, ?_⟩) he hpl
  exact run_makeS M F hr b (hx σ) I1 r q
end
section
variable {X : Cx} {e : Expr} {f : Str} {pos : Pos} {ta : TE}
theorem pe_fldA {K : PySem.W.Frag} (he : PE X e ta) (hK : X.K = K := by rfl) (hb : attributeBase e f X.env (eval e X.env) = eval e X.env := by rfl) : PE X (.Attribute e f pos) (tFld K ta f) := by
  subst hK
  exact pe_fld he hb
end
end Cd

/-! Clearday: a day as an object. -/
namespace Cd
open PySem PySem.Spec PyProof.Rows L2

theorem n_cp : ¬ (("_count" : Str) = "_pairs") := by decide +kernel
theorem n_cr : ¬ (("_count" : Str) = "_rests") := by decide +kernel
theorem n_pr : ¬ (("_pairs" : Str) = "_rests") := by decide +kernel
def dayF (n : Int) (lp lr : Addr) : List (Str × V) := putF "_rests" (.ref lr) (putF "_pairs" (.ref lp) (putF "_count" (.int n) []))
section
variable {n : Int} {lp lr : Addr}
theorem dayF_count : (dayF n lp lr).lookup ("_count" : Str) = some (.int n) := by
  unfold dayF
  rw [lookup_putF, if_neg n_cr, lookup_putF, if_neg n_cp, lookup_putF, if_pos rfl]
theorem dayF_pairs : (dayF n lp lr).lookup ("_pairs" : Str) = some (.ref lp) := by
  unfold dayF
  rw [lookup_putF, if_neg n_pr, lookup_putF, if_pos rfl]
theorem dayF_rests : (dayF n lp lr).lookup ("_rests" : Str) = some (.ref lr) := by
  unfold dayF
  rw [lookup_putF, if_pos rfl]
theorem dayF_no {m : Str} (h1 : ¬ m = "_count") (h2 : ¬ m = "_pairs") (h3 : ¬ m = "_rests") : (dayF n lp lr).lookup m = none := by
  unfold dayF
  rw [lookup_putF, if_neg h3, lookup_putF, if_neg h2, lookup_putF, if_neg h1]
  rfl
theorem dayF_owe : (dayF n lp lr).lookup ("owe" : Str) = none := dayF_no (by decide +kernel) (by decide +kernel) (by decide +kernel)
theorem dayF_rest : (dayF n lp lr).lookup ("rest" : Str) = none := dayF_no (by decide +kernel) (by decide +kernel) (by decide +kernel)
theorem dayF_pay : (dayF n lp lr).lookup ("pay" : Str) = none := dayF_no (by decide +kernel) (by decide +kernel) (by decide +kernel)
theorem dayF_balance : (dayF n lp lr).lookup ("balance" : Str) = none := dayF_no (by decide +kernel) (by decide +kernel) (by decide +kernel)
theorem dayF_standing : (dayF n lp lr).lookup ("standing" : Str) = none := dayF_no (by decide +kernel) (by decide +kernel) (by decide +kernel)
theorem dayF_clear : (dayF n lp lr).lookup ("clear" : Str) = none := dayF_no (by decide +kernel) (by decide +kernel) (by decide +kernel)
end
theorem putF_len (f : Str) (v : V) : ∀ fs : List (Str × V), (putF f v fs).length ≤ fs.length + 1
  | [] => Nat.le_refl _
  | p :: fs => by
    have ih := putF_len f v fs
    unfold putF
    split
    · rw [List.length_cons, List.length_cons]
      omega
    · rw [List.length_cons, List.length_cons]
      omega
theorem putF_1 (f : Str) (v : V) : (putF f v []).length < 1000 := Nat.lt_of_le_of_lt (putF_len f v []) (by decide)
theorem putF_2 (f g : Str) (v u : V) : (putF g u (putF f v [])).length < 1000 := by
  have a := putF_len f v []
  have b := putF_len g u (putF f v [])
  rw [List.length_nil] at a
  omega
/-- what is known of the class -/
structure DayC (K : PySem.W.Frag) (mg : Str → Option Value) (C : Addr) : Prop where
  cl : Cls K C
  nc : NoAttr K C "_count"
  np : NoAttr K C "_pairs"
  nr : NoAttr K C "_rests"
  mgC : mg "Day" = some (.ref C)
/-- what was outside of these stands as it was -/
def Fr (S : List Addr) (H H' : Hp) : Prop := ∀ a o, H a = some o → a ∉ S → H' a = some o
theorem Fr.trans {S : List Addr} {H H' H'' : Hp} (h : Fr S H H') (h' : Fr S H' H'') : Fr S H H'' := fun a o e n => h' a o (h a o e n) n
theorem fr_same {S : List Addr} {H H' : Hp} (h : Same H H') : Fr S H H' := fun a o e _ => h a o e
theorem Fr.mono {S T : List Addr} {H H' : Hp} (h : Fr S H H') (st : ∀ a ∈ S, a ∈ T) : Fr T H H' := fun a o e n => h a o e fun z => n (st a z)
theorem fr_upd {S : List Addr} {H : Hp} {a : Addr} {o : HO} (h : a ∈ S) : Fr S H (upd H a o) := fun b x e n => by
  have ne : b ≠ a := fun z => by
    rw [z] at n
    exact n h
  rw [upd_ne ne]
  exact e
theorem Fr.same {S : List Addr} {F H H' : Hp} (h : Fr S H H') (s : Same F H) (n : ∀ a ∈ S, F a = none) : Same F H' := fun a o e => h a o (s a o e) fun z => by
  rw [n a z] at e
  cases e
/-- lists may change: tuples of flat data don't lean on them -/
theorem fr_tup {S : List Addr} {K : PySem.W.Frag} {H H' : Hp} {a : Addr} {xs : List V} (h : Fr S H H') (hS : ∀ l ∈ S, ∃ vs, H l = some (.lst vs)) (t : SqT K H a xs) : SqT K H' a xs := by
  have ne : ∀ {o : HO}, H a = some o → (∀ vs, o ≠ .lst vs) → a ∉ S := fun e no z => by
    obtain ⟨vs, ev⟩ := hS a z
    rw [ev] at e
    exact no vs (Option.some.inj e).symm
  rcases t with (t | ⟨ob, t⟩) | t
  · exact .inl (.inl (h a _ t (ne t fun vs z => nomatch z)))
  · exact .inl (.inr ⟨ob, h a _ t (ne t fun vs z => nomatch z)⟩)
  · exact .inr t
theorem fr_tvs {α : Type} {enc : α → List V} {S : List Addr} {K : PySem.W.Frag} {H H' : Hp} (h : Fr S H H') (hS : ∀ l ∈ S, ∃ vs, H l = some (.lst vs)) {vs : List V} {as : List α} (t : TVs enc K H vs as) : TVs enc K H' vs as :=
  paired_imp (fun v a ⟨p, e, x⟩ => ⟨p, e, fr_tup h hS x⟩) t
/-- a debt that came; something of it may be paid -/
structure Owed (n : Int) (d : Debt) : Prop where
  a0 : 0 ≤ d.1
  an : d.1 < n
  b0 : 0 ≤ d.2.1
  bn : d.2.1 < n
  ne : d.1 ≠ d.2.1
  m0 : 0 ≤ d.2.2
  mM : d.2.2 ≤ 1000000000
theorem Good.owed {n : Int} {d : Debt} (g : Good n d) : Owed n d := ⟨g.a0, g.an, g.b0, g.bn, g.ne, by have := g.m1; omega, g.mM⟩
def pV (d : Debt) : List V := [.int d.1, .int d.2.1]
def amts (ds : List Debt) : List Int := ds.map fun d => d.2.2
theorem amts_len (ds : List Debt) : (amts ds).length = ds.length := List.length_map _
theorem amts_at {ds : List Debt} {i : Nat} (h : i < ds.length) : atI ((amts ds).map V.int) ((i : Nat) : Int) = some (.int (dbt ds i).2.2) := by
  refine atI_nat ?_
  unfold amts
  rw [List.getElem?_map, List.getElem?_map, dbt_at h]
  rfl
structure DayAt (K : PySem.W.Frag) (C : Addr) (H : Hp) (p : Addr) (n : Int) (lp lr : Addr) (ds : List Debt) : Prop where
  obj : ∃ dx, H p = some (.ins C dx (dayF n lp lr))
  prs : ∃ vs, H lp = some (.lst vs) ∧ TVs pV K H vs ds
  rs : H lr = some (.lst ((amts ds).map V.int))
  ne : lp ≠ lr
  n1 : 1 ≤ n
  nM : n ≤ 20
  ok : ∀ d ∈ ds, Owed n d
  few : ds.length ≤ 70
section
variable {K : PySem.W.Frag} {C : Addr} {H H' : Hp} {p lp lr : Addr} {n : Int} {ds : List Debt}
theorem DayAt.same (D : DayAt K C H p n lp lr ds) (s : Same H H') : DayAt K C H' p n lp lr ds := by
  obtain ⟨⟨dx, h1⟩, ⟨vs, h2, h3⟩, h4, h5, h6, h7, h8, h9⟩ := D
  exact ⟨⟨dx, s _ _ h1⟩, ⟨vs, s _ _ h2, s.tvs h3⟩, s _ _ h4, h5, h6, h7, h8, h9⟩
/-- what happens elsewhere leaves a day as it is -/
theorem DayAt.fr {S : List Addr} (D : DayAt K C H p n lp lr ds) (f : Fr S H H') (hS : ∀ l ∈ S, ∃ vs, H l = some (.lst vs)) (n1 : lp ∉ S) (n2 : lr ∉ S) : DayAt K C H' p n lp lr ds := by
  obtain ⟨⟨dx, h1⟩, ⟨vs, h2, h3⟩, h4, h5, h6, h7, h8, h9⟩ := D
  refine ⟨⟨dx, f _ _ h1 fun z => ?_⟩, ⟨vs, f _ _ h2 n1, fr_tvs f hS h3⟩, f _ _ h4 n2, h5, h6, h7, h8, h9⟩
  obtain ⟨ws, ew⟩ := hS p z
  rw [ew] at h1
  cases h1
end
/-- of the debts' numbers those of which something is left -/
def standTo (ds : List Debt) (k : Nat) : List (Nat × Debt) := (List.range k).filterMap fun i => if 0 < (dbt ds i).2.2 then some (i, dbt ds i) else none
theorem standTo_add (ds : List Debt) (k : Nat) : standTo ds (k + 1) = standTo ds k ++ if 0 < (dbt ds k).2.2 then [(k, dbt ds k)] else [] := by
  unfold standTo
  rw [List.range_succ, List.filterMap_append]
  congr 1
  by_cases h : 0 < (dbt ds k).2.2
  · simp [h]
  · simp [h]
theorem standTo_len (ds : List Debt) (k : Nat) : (standTo ds k).length ≤ k := by
  unfold standTo
  have := List.length_filterMap_le (fun i => if 0 < (dbt ds i).2.2 then some (i, dbt ds i) else none) (List.range k)
  rw [List.length_range] at this
  exact this
def standL (ds : List Debt) : List (Nat × Debt) := standTo ds ds.length
def stV (q : Nat × Debt) : List V := [.int (q.1 : Int), .int q.2.1, .int q.2.2.1, .int q.2.2.2]
theorem standTo_mem {ds : List Debt} {k : Nat} {q : Nat × Debt} (h : q ∈ standTo ds k) : q.1 < k ∧ q.2 = dbt ds q.1 ∧ 0 < q.2.2.2 := by
  unfold standTo at h
  obtain ⟨i, hi, e⟩ := List.mem_filterMap.mp h
  by_cases z : 0 < (dbt ds i).2.2
  · rw [if_pos z] at e
    cases e
    exact ⟨List.mem_range.mp hi, rfl, z⟩
  · rw [if_neg z] at e
    cases e
/-- the debts that stand give each house its balance -/
theorem moves_zero (h : Int) (d : Debt) (z : d.2.2 = 0) : moves h d = 0 := by
  unfold moves
  rw [z]
  split <;> split <;> rfl
theorem stand_moves (h : Int) (ds : List Debt) : ∀ k, k ≤ ds.length → (∀ d ∈ ds, 0 ≤ d.2.2) → (((standTo ds k).map fun q => q.2).map (moves h)).sum = ((ds.take k).map (moves h)).sum
  | 0, _, _ => rfl
  | k + 1, hk, h0 => by
    have ih := stand_moves h ds k (by omega) h0
    rw [standTo_add, List.take_add_one, dbt_at (show k < ds.length by omega), List.map_append, List.map_append, List.sum_append, ih, List.map_append, List.sum_append]
    congr 1
    by_cases z : 0 < (dbt ds k).2.2
    · rw [if_pos z]
      rfl
    · rw [if_neg z]
      have e : (dbt ds k).2.2 = 0 := by
        have := h0 _ (List.mem_of_getElem? (dbt_at (show k < ds.length by omega)))
        omega
      show 0 = ((some (dbt ds k)).toList.map (moves h)).sum
      show 0 = moves h (dbt ds k) + 0
      rw [moves_zero h _ e]
      rfl
theorem stand_bal {n : Int} {ds : List Debt} (hd : ∀ d ∈ ds, Owed n d) : bal n ((standL ds).map fun q => q.2) = bal n ds := by
  have l1 := bal_len n ((standL ds).map fun q => q.2)
  have l2 := bal_len n ds
  have hin : ∀ d ∈ ds, InB n d := fun d h => ⟨(hd d h).a0, (hd d h).an, (hd d h).b0, (hd d h).bn⟩
  refine List.ext_getElem (by omega) fun i h1 h2 => ?_
  have e1 := bal_get (n := n) (ds := (standL ds).map fun q => q.2) (fun d h => by
    obtain ⟨q, hq, rfl⟩ := List.mem_map.mp h
    obtain ⟨a, b, _⟩ := standTo_mem hq
    rw [b]
    exact hin _ (List.mem_of_getElem? (dbt_at a))) i
  have e2 := bal_get hin i
  have sm := stand_moves (i : Int) ds ds.length (Nat.le_refl _) (fun d h => (hd d h).m0)
  rw [List.take_length] at sm
  have e1 : (bal n ((standL ds).map fun q => q.2)).getD i 0 = (((standTo ds ds.length).map fun q => q.2).map (moves (i : Int))).sum := e1
  rw [sm] at e1
  rw [List.getD_eq_getElem?_getD, List.getElem?_eq_getElem h1] at e1
  rw [List.getD_eq_getElem?_getD, List.getElem?_eq_getElem h2] at e2
  have e1 : (bal n ((standL ds).map fun q => q.2))[i] = _ := e1
  have e2 : (bal n ds)[i] = _ := e2
  rw [e1, e2]
end Cd

/-! Clearday: a day, and the law's own rows of it. -/
namespace Cd
open PySem PySem.Spec PyProof.Rows L2

def setRest (ds : List Debt) (k : Nat) (r : Int) : List Debt := ds.set k ((dbt ds k).1, (dbt ds k).2.1, r)
theorem setRest_len (ds : List Debt) (k : Nat) (r : Int) : (setRest ds k r).length = ds.length := List.length_set
theorem amts_set (ds : List Debt) (k : Nat) (r : Int) : amts (setRest ds k r) = (amts ds).set k r := by
  unfold amts setRest
  rw [List.map_set]
theorem dbt_set {ds : List Debt} {k j : Nat} {r : Int} (h : k < ds.length) : dbt (setRest ds k r) j = if k = j then ((dbt ds k).1, (dbt ds k).2.1, r) else dbt ds j := by
  unfold dbt setRest
  by_cases e : k = j
  · subst e
    rw [if_pos rfl, List.getD_eq_getElem?_getD, List.getElem?_set_self h]
    rfl
  · rw [if_neg e, List.getD_eq_getElem?_getD, List.getElem?_set_ne e, ← List.getD_eq_getElem?_getD]
theorem dbt_app {ds : List Debt} {d : Debt} {j : Nat} : dbt (ds ++ [d]) j = if j < ds.length then dbt ds j else if j = ds.length then d else (0, 0, 0) := by
  unfold dbt
  rw [List.getD_eq_getElem?_getD]
  by_cases h : j < ds.length
  · rw [if_pos h, List.getElem?_append_left h, List.getD_eq_getElem?_getD]
  · rw [if_neg h, List.getElem?_append_right (by omega)]
    by_cases e : j = ds.length
    · subst e
      rw [if_pos rfl, Nat.sub_self]
      rfl
    · rw [if_neg e, List.getElem?_eq_none (by rw [List.length_singleton]; omega)]
      rfl
/-- the law's rows: a list of lists of three numbers -/
structure Rows (H : Hp) (R : Addr) (rs : List Addr) (ds : List Debt) : Prop where
  top : H R = some (.lst (rs.map V.ref))
  len : rs.length = ds.length
  at_ : ∀ (j : Nat) (r : Addr), rs[j]? = some r → H r = some (.lst (tV (dbt ds j)))
theorem Rows.same {H H' : Hp} {R : Addr} {rs : List Addr} {ds : List Debt} (h : Rows H R rs ds) (s : Same H H') : Rows H' R rs ds := ⟨s _ _ h.top, h.len, fun j r e => s _ _ (h.at_ j r e)⟩
theorem Rows.fr {S : List Addr} {H H' : Hp} {R : Addr} {rs : List Addr} {ds : List Debt} (h : Rows H R rs ds) (f : Fr S H H') (n : R ∉ S) (n2 : ∀ r ∈ rs, r ∉ S) : Rows H' R rs ds := ⟨f _ _ h.top n, h.len, fun j r e => f _ _ (h.at_ j r e) (n2 r (List.mem_of_getElem? e))⟩
theorem Rows.get {H : Hp} {R : Addr} {rs : List Addr} {ds : List Debt} (h : Rows H R rs ds) {j : Nat} (hj : j < ds.length) : ∃ r, rs[j]? = some r ∧ (rs.map V.ref)[j]? = some (.ref r) ∧ H r = some (.lst (tV (dbt ds j))) := by
  have hl := h.len
  have e : rs[j]? = some (rs[j]'(by omega)) := List.getElem?_eq_getElem (by omega)
  exact ⟨_, e, by rw [List.getElem?_map, e]; rfl, h.at_ j _ e⟩
/-- the addresses of what changes -/
abbrev foot (lp lr R : Addr) (rs : List Addr) : List Addr := lp :: lr :: R :: rs
structure Side (K : PySem.W.Frag) (C : Addr) (H : Hp) (p R : Addr) (n : Int) (lp lr : Addr) (rs : List Addr) (ds : List Debt) : Prop where
  day : DayAt K C H p n lp lr ds
  rows : Rows H R rs ds
  nd : (foot lp lr R rs).Nodup
section
variable {K : PySem.W.Frag} {C : Addr} {H H' : Hp} {p R lp lr : Addr} {n : Int} {rs : List Addr} {ds : List Debt}
theorem Side.lists (S : Side K C H p R n lp lr rs ds) : ∀ a ∈ foot lp lr R rs, ∃ vs, H a = some (.lst vs) := fun a ha => by
  rcases List.mem_cons.mp ha with rfl | ha
  · obtain ⟨vs, h, _⟩ := S.day.prs
    exact ⟨vs, h⟩
  · rcases List.mem_cons.mp ha with rfl | ha
    · exact ⟨_, S.day.rs⟩
    · rcases List.mem_cons.mp ha with rfl | ha
      · exact ⟨_, S.rows.top⟩
      · obtain ⟨j, hj⟩ := List.mem_iff_getElem?.mp ha
        exact ⟨_, S.rows.at_ j a hj⟩
theorem Side.same (S : Side K C H p R n lp lr rs ds) (s : Same H H') : Side K C H' p R n lp lr rs ds := ⟨S.day.same s, S.rows.same s, S.nd⟩
theorem Side.fr {T : List Addr} (S : Side K C H p R n lp lr rs ds) (f : Fr T H H') (hT : ∀ l ∈ T, ∃ vs, H l = some (.lst vs)) (dis : ∀ a ∈ foot lp lr R rs, a ∉ T) : Side K C H' p R n lp lr rs ds :=
  ⟨S.day.fr f hT (dis _ List.mem_cons_self) (dis _ (List.mem_cons_of_mem _ List.mem_cons_self)), S.rows.fr f (dis _ (List.mem_cons_of_mem _ (List.mem_cons_of_mem _ List.mem_cons_self))) fun r hr => dis r (List.mem_cons_of_mem _ (List.mem_cons_of_mem _ (List.mem_cons_of_mem _ hr))), S.nd⟩
/-- a list of numbers or so that stands elsewhere -/
theorem Side.off (S : Side K C H p R n lp lr rs ds) {a : Addr} (h : H a = none) : a ∉ foot lp lr R rs := fun z => by
  obtain ⟨vs, e⟩ := S.lists a z
  rw [h] at e
  cases e
theorem Side.inj (S : Side K C H p R n lp lr rs ds) : lp ≠ lr ∧ lp ≠ R ∧ lr ≠ R ∧ (∀ r ∈ rs, r ≠ lp ∧ r ≠ lr ∧ r ≠ R) ∧ rs.Nodup := by
  have h := S.nd
  rw [List.nodup_cons, List.nodup_cons, List.nodup_cons] at h
  obtain ⟨h1, h2, h3, h4⟩ := h
  refine ⟨fun z => h1 (z ▸ List.mem_cons_self), fun z => h1 (z ▸ List.mem_cons_of_mem _ List.mem_cons_self), fun z => h2 (z ▸ List.mem_cons_self), fun r hr => ⟨fun z => h1 (z ▸ List.mem_cons_of_mem _ (List.mem_cons_of_mem _ hr)), fun z => h2 (z ▸ List.mem_cons_of_mem _ hr), fun z => h3 (z ▸ hr)⟩, h4⟩
/-- one debt more -/
theorem Side.more (S : Side K C H p R n lp lr rs ds) {H1 : Hp} {d : Debt} {r : Addr} (f : Fr [lp, lr] H H1) (D : DayAt K C H1 p n lp lr (ds ++ [d])) (hr : H1 r = none) :
    Side K C (upd (upd H1 r (.lst (tV d))) R (.lst (rs.map V.ref ++ [.ref r]))) p R n lp lr (rs ++ [r]) (ds ++ [d]) ∧ Fr (foot lp lr R rs) H (upd (upd H1 r (.lst (tV d))) R (.lst (rs.map V.ref ++ [.ref r]))) ∧ H r = none := by
  obtain ⟨i1, i2, i3, i4, i5⟩ := S.inj
  obtain ⟨ps, hlp, _⟩ := D.prs
  have hlr := D.rs
  have nR : R ∉ [lp, lr] := fun z => by
    rcases List.mem_cons.mp z with e | e
    · exact i2 e.symm
    · rw [List.mem_singleton] at e
      exact i3 e.symm
  have nr : ∀ x ∈ rs, x ∉ [lp, lr] := fun x hx z => by
    rcases List.mem_cons.mp z with e | e
    · exact (i4 x hx).1 e
    · rw [List.mem_singleton] at e
      exact (i4 x hx).2.1 e
  have R1 := S.rows.fr f nR nr
  have hr0 : H r = none := by
    cases e : H r with
    | none => rfl
    | some o =>
      by_cases z : r ∈ [lp, lr]
      · rcases List.mem_cons.mp z with y | y
        · rw [y, hlp] at hr
          cases hr
        · rw [List.mem_singleton] at y
          rw [y, hlr] at hr
          cases hr
      · rw [f r o e z] at hr
        cases hr
  have nrR : r ≠ R := fun z => by
    rw [z, R1.top] at hr
    cases hr
  have s1 := same_new (o := .lst (tV d)) hr
  have R2 := R1.same s1
  have D2 := D.same s1
  have f2 : Fr [R] (upd H1 r (.lst (tV d))) (upd (upd H1 r (.lst (tV d))) R (.lst (rs.map V.ref ++ [.ref r]))) := fr_upd List.mem_cons_self
  have l2 : ∀ l ∈ [R], ∃ vs, (upd H1 r (.lst (tV d))) l = some (.lst vs) := fun l hl => by
    rw [List.mem_singleton.mp hl]
    exact ⟨_, R2.top⟩
  refine ⟨⟨D2.fr f2 l2 (fun z => i2 (List.mem_singleton.mp z)) (fun z => i3 (List.mem_singleton.mp z)), ⟨by rw [upd_same, List.map_append]; rfl, by rw [List.length_append, List.length_append, S.rows.len]; rfl, fun j x e => ?_⟩, ?_⟩, ?_, hr0⟩
  · have hl := S.rows.len
    rw [dbt_app]
    by_cases hj : j < rs.length
    · rw [List.getElem?_append_left hj] at e
      have hx := List.mem_of_getElem? e
      rw [if_pos (by omega), upd_ne (i4 x hx).2.2, upd_ne (fun z => by rw [z] at hx; have q := R1.at_ j r (by rw [← z]; exact e); rw [hr] at q; cases q)]
      exact R1.at_ j x e
    · have hj2 := (List.getElem?_eq_some_iff.mp e).1
      rw [List.length_append, List.length_singleton] at hj2
      have ej : j = rs.length := by omega
      rw [ej, List.getElem?_append_right (Nat.le_refl _), Nat.sub_self] at e
      cases (Option.some.inj e : _ = _)
      rw [if_neg (by omega), if_pos (by omega), upd_ne nrR, upd_same]
  · have nd := S.nd
    have hoff := S.off hr0
    have e : foot lp lr R (rs ++ [r]) = foot lp lr R rs ++ [r] := rfl
    rw [e, List.nodup_append]
    refine ⟨nd, List.nodup_cons.mpr ⟨List.not_mem_nil, List.nodup_nil⟩, fun a ha b hb z => ?_⟩
    rw [List.mem_singleton] at hb
    rw [z, hb] at ha
    exact hoff ha
  · refine (f.mono fun a ha => ?_).trans ((fr_same s1).trans (f2.mono fun a ha => ?_))
    · rcases List.mem_cons.mp ha with y | y
      · rw [y]
        exact List.mem_cons_self
      · rw [List.mem_singleton.mp y]
        exact List.mem_cons_of_mem _ List.mem_cons_self
    · rw [List.mem_singleton.mp ha]
      exact List.mem_cons_of_mem _ (List.mem_cons_of_mem _ List.mem_cons_self)
/-- a row's rest is another one -/
theorem Rows.put {x : Int} {k : Nat} {r : Addr} (R1 : Rows H R rs ds) (hk : k < ds.length) (er : rs[k]? = some r) (nR : ∀ r ∈ rs, r ≠ R) (nd : rs.Nodup) : Rows (upd H r (.lst [.int (dbt ds k).1, .int (dbt ds k).2.1, .int x])) R rs (setRest ds k x) := by
  have hr := List.mem_of_getElem? er
  refine ⟨by rw [upd_ne (nR r hr).symm]; exact R1.top, by rw [setRest_len]; exact R1.len, fun j y e => ?_⟩
  rw [dbt_set hk]
  by_cases z : k = j
  · subst z
    rw [er] at e
    cases e
    rw [if_pos rfl, upd_same]
    rfl
  · have ne : y ≠ r := fun w => by
      subst w
      obtain ⟨h1, h2⟩ := List.getElem?_eq_some_iff.mp er
      obtain ⟨h3, h4⟩ := List.getElem?_eq_some_iff.mp e
      rw [List.nodup_iff_pairwise_ne, List.pairwise_iff_getElem] at nd
      rcases Nat.lt_or_gt_of_ne z with q | q
      · exact nd k j h1 h3 q (by rw [h2, h4])
      · exact nd j k h3 h1 q (by rw [h2, h4])
    rw [if_neg z, upd_ne ne]
    exact R1.at_ j y e
end
end Cd

/-! Clearday: two days with the law's own rows of them, and the lists that were told, held. -/
namespace Cd
open PySem PySem.Spec PyProof.Rows L2

def encS (q : Nat × Debt) : PyData := .tuple [.int (q.1 : Int), .int q.2.1, .int q.2.2.1, .int q.2.2.2]
theorem dpA_st {K : PySem.W.Frag} {H : Hp} {vs : List V} {qs : List (Nat × Debt)} (h : TVs stV K H vs qs) : DpAll K H vs (qs.map encS) := by
  induction h with
  | nil => exact .nil
  | cons h _ ih =>
    obtain ⟨p, rfl, t⟩ := h
    exact .cons (.tup t (.cons (.int _) (.cons (.int _) (.cons (.int _) (.cons (.int _) .nil))))) ih
theorem sh_st (qs : List (Nat × Debt)) : Sh 2 (.list (qs.map encS)) := sh_list fun d hd => by
  obtain ⟨q, _, rfl⟩ := List.mem_map.mp hd
  refine sh_tuple fun e he => ?_
  simp only [List.mem_cons, List.not_mem_nil, or_false] at he
  rcases he with rfl | rfl | rfl | rfl <;> exact sh_int _
/-- a pair of lists that are equal, where nothing changes -/
def Held (K : PySem.W.Frag) (F : Hp) (h : Addr) : Prop := ∃ (a b : Addr) (d : PyData), SqT K F h [.ref a, .ref b] ∧ Dp K F (.ref a) d ∧ Dp K F (.ref b) d ∧ Sh 2 d
theorem Held.same {K : PySem.W.Frag} {F F' : Hp} {h : Addr} (x : Held K F h) (s : Same F F') : Held K F' h := by
  obtain ⟨a, b, d, t, d1, d2, sh⟩ := x
  exact ⟨a, b, d, s.tup t, s.dp d1, s.dp d2, sh⟩
/-- F: what never changes -/
structure Two (K : PySem.W.Frag) (C : Addr) (F H : Hp) (p R : Addr) (n : Int) (lp lr : Addr) (rs : List Addr) (ds : List Debt) (p' R' : Addr) (n' : Int) (lp' lr' : Addr) (rs' : List Addr) (ds' : List Debt) (L : Addr) (hs : List Addr) : Prop where
  same : Same F H
  s0 : Side K C H p R n lp lr rs ds
  s1 : Side K C H p' R' n' lp' lr' rs' ds'
  dis : ∀ a ∈ foot lp lr R rs, a ∉ foot lp' lr' R' rs'
  h0 : L ∉ foot lp lr R rs
  h1 : L ∉ foot lp' lr' R' rs'
  f0 : ∀ a ∈ foot lp lr R rs, F a = none
  f1 : ∀ a ∈ foot lp' lr' R' rs', F a = none
  fh : F L = none
  held : H L = some (.lst (hs.map V.ref))
  ok : ∀ h ∈ hs, Held K F h
def imm (S : List Addr) (H : Hp) : Hp := fun a => if a ∈ S then none else H a
theorem imm_in {S : List Addr} {H : Hp} {a : Addr} (h : a ∈ S) : imm S H a = none := by
  unfold imm
  rw [if_pos h]
theorem imm_out {S : List Addr} {H : Hp} {a : Addr} (h : a ∉ S) : imm S H a = H a := by
  unfold imm
  rw [if_neg h]
theorem imm_same {S : List Addr} {H : Hp} : Same (imm S H) H := fun a o e => by
  by_cases h : a ∈ S
  · rw [imm_in h] at e
    cases e
  · rw [imm_out h] at e
    exact e
theorem imm_fr {S : List Addr} {H : Hp} : Fr S H (imm S H) := fun a o e n => by
  rw [imm_out n]
  exact e
section
variable {K : PySem.W.Frag} {C : Addr} {F H H' : Hp} {p R lp lr p' R' lp' lr' L : Addr} {n n' : Int} {rs rs' hs : List Addr} {ds ds' : List Debt}
theorem Two.later (J : Two K C F H p R n lp lr rs ds p' R' n' lp' lr' rs' ds' L hs) (s : Same H H') : Two K C F H' p R n lp lr rs ds p' R' n' lp' lr' rs' ds' L hs :=
  ⟨J.same.trans s, J.s0.same s, J.s1.same s, J.dis, J.h0, J.h1, J.f0, J.f1, J.fh, s _ _ J.held, J.ok⟩
theorem Two.swap (J : Two K C F H p R n lp lr rs ds p' R' n' lp' lr' rs' ds' L hs) : Two K C F H p' R' n' lp' lr' rs' ds' p R n lp lr rs ds L hs :=
  ⟨J.same, J.s1, J.s0, fun a h z => J.dis a z h, J.h1, J.h0, J.f1, J.f0, J.fh, J.held, J.ok⟩
theorem foot_new {rs2 : List Addr} (new : ∀ a ∈ rs2, a ∈ rs ∨ H a = none) : ∀ a ∈ foot lp lr R rs2, a ∈ foot lp lr R rs ∨ H a = none := fun a h => by
  rcases List.mem_cons.mp h with rfl | h
  · exact .inl List.mem_cons_self
  · rcases List.mem_cons.mp h with rfl | h
    · exact .inl (List.mem_cons_of_mem _ List.mem_cons_self)
    · rcases List.mem_cons.mp h with rfl | h
      · exact .inl (List.mem_cons_of_mem _ (List.mem_cons_of_mem _ List.mem_cons_self))
      · rcases new a h with y | y
        · exact .inl (List.mem_cons_of_mem _ (List.mem_cons_of_mem _ (List.mem_cons_of_mem _ y)))
        · exact .inr y
/-- a deed at the one day -/
theorem Two.deed {rs2 : List Addr} {ds2 : List Debt} (J : Two K C F H p R n lp lr rs ds p' R' n' lp' lr' rs' ds' L hs) (f : Fr (foot lp lr R rs) H H') (S : Side K C H' p R n lp lr rs2 ds2) (new : ∀ a ∈ rs2, a ∈ rs ∨ H a = none) :
    Two K C F H' p R n lp lr rs2 ds2 p' R' n' lp' lr' rs' ds' L hs := by
  have fn := foot_new (lp := lp) (lr := lr) (R := R) new
  refine ⟨f.same J.same J.f0, S, J.s1.fr f J.s0.lists (fun a h z => J.dis a z h), fun a h z => ?_, fun h => ?_, J.h1, fun a h => ?_, J.f1, J.fh, f _ _ J.held J.h0, J.ok⟩
  · rcases fn a h with y | y
    · exact J.dis a y z
    · exact J.s1.off y z
  · rcases fn L h with y | y
    · exact J.h0 y
    · rw [J.held] at y
      cases y
  · rcases fn a h with y | y
    · exact J.f0 a y
    · exact J.same.free y
/-- a told list is held -/
theorem Two.told {H2 : Hp} {a b t : Addr} {vs : List V} {qs : List (Nat × Debt)} (J : Two K C F H p R n lp lr rs ds p' R' n' lp' lr' rs' ds' L hs) (s : Same H H2) (ha : H a = none) (ea : H2 a = some (.lst vs)) (tv : TVs stV K H2 vs qs) (hb : H b = none) (eb : H2 b = some (.lst vs)) (tt : SqT K H2 t [.ref a, .ref b]) :
    ∃ F', Same F F' ∧ Two K C F' (upd H2 L (.lst (hs.map V.ref ++ [.ref t]))) p R n lp lr rs ds p' R' n' lp' lr' rs' ds' L (hs ++ [t]) := by
  have S0 := J.s0.same s
  have S1 := J.s1.same s
  have hL := s _ _ J.held
  have lists : ∀ l ∈ (L :: (foot lp lr R rs ++ foot lp' lr' R' rs')), ∃ vs, H l = some (.lst vs) := fun l h => by
    rcases List.mem_cons.mp h with rfl | h
    · exact ⟨_, J.held⟩
    · rcases List.mem_append.mp h with h | h
      · exact J.s0.lists l h
      · exact J.s1.lists l h
  have lists2 : ∀ l ∈ (L :: (foot lp lr R rs ++ foot lp' lr' R' rs')), ∃ vs, H2 l = some (.lst vs) := fun l h => by
    obtain ⟨vs, e⟩ := lists l h
    exact ⟨vs, s _ _ e⟩
  have off : ∀ {x : Addr}, H x = none → x ∉ (L :: (foot lp lr R rs ++ foot lp' lr' R' rs')) := fun {x} e z => by
    obtain ⟨vs, y⟩ := lists x z
    rw [e] at y
    cases y
  have Fn : ∀ x ∈ (L :: (foot lp lr R rs ++ foot lp' lr' R' rs')), F x = none := fun x h => by
    rcases List.mem_cons.mp h with rfl | h
    · exact J.fh
    · rcases List.mem_append.mp h with h | h
      · exact J.f0 x h
      · exact J.f1 x h
  have FF : Same F (imm (L :: (foot lp lr R rs ++ foot lp' lr' R' rs')) H2) := fun x o e => by
    rw [imm_out fun z => by rw [Fn x z] at e; cases e]
    exact s _ _ (J.same _ _ e)
  have f2 : Fr [L] H2 (upd H2 L (.lst (hs.map V.ref ++ [.ref t]))) := fr_upd List.mem_cons_self
  have l2 : ∀ l ∈ [L], ∃ vs, H2 l = some (.lst vs) := fun l h => by
    rw [List.mem_singleton.mp h]
    exact ⟨_, hL⟩
  refine ⟨_, FF, ⟨fun x o e => ?_, S0.fr f2 l2 (fun x h z => ?_), S1.fr f2 l2 (fun x h z => ?_), J.dis, J.h0, J.h1, fun x h => imm_in (List.mem_cons_of_mem _ (List.mem_append_left _ h)), fun x h => imm_in (List.mem_cons_of_mem _ (List.mem_append_right _ h)), imm_in List.mem_cons_self, by rw [upd_same, List.map_append]; rfl, fun h hh => ?_⟩⟩
  · have ne : x ≠ L := fun z => by
      rw [z, imm_in List.mem_cons_self] at e
      cases e
    rw [upd_ne ne]
    exact imm_same _ _ e
  · rw [List.mem_singleton.mp z] at h
    exact J.h0 h
  · rw [List.mem_singleton.mp z] at h
    exact J.h1 h
  · rcases List.mem_append.mp hh with h' | h'
    · exact (J.ok h h').same FF
    · rw [List.mem_singleton.mp h']
      have tv' := fr_tvs imm_fr lists2 tv
      refine ⟨a, b, _, fr_tup imm_fr lists2 tt, .lst (SqL.of (by rw [imm_out (off ha)]; exact ea)) (dpA_st tv'), .lst (SqL.of (by rw [imm_out (off hb)]; exact eb)) (dpA_st tv'), sh_st _⟩
/-- empty lists, no two the same -/
structure Emp (H : Hp) (l : List Addr) : Prop where
  nd : l.Nodup
  e : ∀ x ∈ l, H x = some (.lst [])
theorem Emp.same {l : List Addr} (h : Emp H l) (s : Same H H') : Emp H' l := ⟨h.nd, fun x hx => s _ _ (h.e x hx)⟩
theorem Emp.new {l : List Addr} {r : Addr} (h : Emp H l) (hr : H r = none) (s : Same H H') (er : H' r = some (.lst [])) : Emp H' (l ++ [r]) := by
  refine ⟨?_, fun x hx => ?_⟩
  · rw [List.nodup_append]
    refine ⟨h.nd, List.nodup_cons.mpr ⟨List.not_mem_nil, List.nodup_nil⟩, fun a ha b hb z => ?_⟩
    rw [List.mem_singleton] at hb
    rw [z, hb] at ha
    rw [h.e r ha] at hr
    cases hr
  · rcases List.mem_append.mp hx with y | y
    · exact s _ _ (h.e x y)
    · rw [List.mem_singleton.mp y]
      exact er
theorem Two.init (h : Emp H [lp, lr, lp', lr', R, R', L]) (D0 : DayAt K C H p n lp lr []) (D1 : DayAt K C H p' n' lp' lr' []) : Two K C (imm [lp, lr, lp', lr', R, R', L] H) H p R n lp lr [] [] p' R' n' lp' lr' [] [] L [] := by
  have nd := h.nd
  have e := h.e
  simp only [List.nodup_cons, List.mem_cons, List.not_mem_nil, or_false, not_or, not_false_eq_true, List.nodup_nil, and_true] at nd
  obtain ⟨⟨a1, a2, a3, a4, a5, a6⟩, ⟨b1, b2, b3, b4, b5⟩, ⟨c1, c2, c3, c4⟩, ⟨d1, d2, d3⟩, ⟨e1, e2⟩, f1⟩ := nd
  have mR : R ∈ [lp, lr, lp', lr', R, R', L] := by simp
  have mR' : R' ∈ [lp, lr, lp', lr', R, R', L] := by simp
  have mL : L ∈ [lp, lr, lp', lr', R, R', L] := by simp
  refine ⟨imm_same, ⟨D0, ⟨e R mR, rfl, fun j r z => by cases z⟩, ?_⟩, ⟨D1, ⟨e R' mR', rfl, fun j r z => by cases z⟩, ?_⟩, fun a ha hb => ?_, fun ha => ?_, fun ha => ?_, fun a ha => imm_in ?_, fun a ha => imm_in ?_, imm_in mL, e L mL, fun x hx => absurd hx List.not_mem_nil⟩
  · simp only [foot, List.nodup_cons, List.mem_cons, List.not_mem_nil, or_false, not_or, not_false_eq_true, List.nodup_nil, and_true]
    exact ⟨⟨a1, a4⟩, b3⟩
  · simp only [foot, List.nodup_cons, List.mem_cons, List.not_mem_nil, or_false, not_or, not_false_eq_true, List.nodup_nil, and_true]
    exact ⟨⟨c1, c3⟩, d2⟩
  · simp only [foot, List.mem_cons, List.not_mem_nil, or_false] at ha hb
    rcases ha with rfl | rfl | rfl
    · rcases hb with y | y | y
      · exact a2 y
      · exact a3 y
      · exact a5 y
    · rcases hb with y | y | y
      · exact b1 y
      · exact b2 y
      · exact b4 y
    · rcases hb with y | y | y
      · exact c2 y.symm
      · exact d1 y.symm
      · exact e1 y
  · simp only [foot, List.mem_cons, List.not_mem_nil, or_false] at ha
    rcases ha with y | y | y
    · exact a6 y.symm
    · exact b5 y.symm
    · exact e2 y.symm
  · simp only [foot, List.mem_cons, List.not_mem_nil, or_false] at ha
    rcases ha with y | y | y
    · exact c4 y.symm
    · exact d3 y.symm
    · exact f1 y.symm
  · simp only [foot, List.mem_cons, List.not_mem_nil, or_false] at ha
    rcases ha with rfl | rfl | rfl <;> simp
  · simp only [foot, List.mem_cons, List.not_mem_nil, or_false] at ha
    rcases ha with rfl | rfl | rfl <;> simp
end
/-! ### the class, as the row says it -/
theorem dayC_mk {K : PySem.W.Frag} {mg : Str → Option Value} {h : Heap} {C : Addr} (X : K.In h) (G : h.Ns mainGlobals mg) (a : PySem.W.nsIn K mainGlobals "Day" = some (some (.ref C))) (pg : PySem.W.plainGet K C Str.empty = true) (hd : PySem.W.hasDictIn K C = true) (po : PySem.W.plainOver K C = true)
    (sa : PySem.W.findIn K (.ref C) "__setattr__" = some (some (.builtin "object.__setattr__"))) (nc : PySem.W.findIn K (.ref C) "_count" = some none) (np : PySem.W.findIn K (.ref C) "_pairs" = some none) (nr : PySem.W.findIn K (.ref C) "_rests" = some none) : DayC K mg C :=
  ⟨⟨pg, hd, po, sa⟩, nc, np, nr, PySem.W.mg_of X G a⟩
theorem mdef_mk {K : PySem.W.Frag} {mg : Str → Option Value} {C : Addr} {m qual : Str} {st : Stmt} {f : Addr} {oc : Value} {od an : Option Addr} {osl : Array (Option Value)} {kV doc pm cdv ct : Value} (T : DayC K mg C) (a : PySem.W.findIn K (.ref C) m = some (some (.ref f))) (fn : PySem.W.isFn K (.ref f) = true)
    (l : K.lookup f = some ⟨oc, od, .func (PySem.W.fnOf m qual (defArgs st) (defBody st) (defScope st) .none kV doc pm an cdv ct), osl⟩) (c : PySem.W.codeIn K cdv qual = true) (k : PySem.W.keepIn K (.ref f) = true) : MDef K C m qual st := ⟨f, _, fun_mk l c k, ⟨a, fn, k⟩⟩
theorem idef_mk {K : PySem.W.Frag} {mg : Str → Option Value} {C : Addr} {qual : Str} {st : Stmt} {f : Addr} {oc : Value} {od an : Option Addr} {osl : Array (Option Value)} {kV doc pm cdv ct : Value} (T : DayC K mg C) (a : PySem.W.findIn K (.ref C) "__init__" = some (some (.ref f))) (fn : PySem.W.isFn K (.ref f) = true)
    (l : K.lookup f = some ⟨oc, od, .func (PySem.W.fnOf "__init__" qual (defArgs st) (defBody st) (defScope st) .none kV doc pm an cdv ct), osl⟩) (c : PySem.W.codeIn K cdv qual = true) (k : PySem.W.keepIn K (.ref f) = true) (mk : PySem.W.makesIn K C = true) (kc : PySem.W.keepIn K (.ref C) = true) : IDef K C qual st := ⟨f, _, fun_mk l c k, ⟨mk, a, fn, kc⟩⟩
end Cd

/-! Clearday: a day is cleared. -/
namespace Cd
open PySem PySem.Spec PyProof.Rows L2

def listF (f : Nat → Int) (k : Nat) : List Int := (List.range k).map f
theorem listF_len (f : Nat → Int) (k : Nat) : (listF f k).length = k := by unfold listF; rw [List.length_map, List.length_range]
theorem listF_at {f : Nat → Int} {k i : Nat} (h : i < k) : (listF f k)[i]? = some (f i) := by
  unfold listF
  rw [List.getElem?_map, List.getElem?_range h]
  rfl
/-- what is told of a cut: the numbers, rising, and what is cut off -/
def tellF (f : Nat → Int) (k : Nat) : List (Nat × Int) := (List.range k).filterMap fun i => if 0 < f i then some (i, f i) else none
theorem tellF_add (f : Nat → Int) (k : Nat) : tellF f (k + 1) = tellF f k ++ if 0 < f k then [(k, f k)] else [] := by
  unfold tellF
  rw [List.range_succ, List.filterMap_append]
  congr 1
  by_cases h : 0 < f k
  · simp [h]
  · simp [h]
theorem tellF_mem {f : Nat → Int} {k : Nat} {q : Nat × Int} (h : q ∈ tellF f k) : q.1 < k ∧ q.2 = f q.1 ∧ 0 < q.2 := by
  unfold tellF at h
  obtain ⟨i, hi, e⟩ := List.mem_filterMap.mp h
  by_cases z : 0 < f i
  · rw [if_pos z] at e
    cases e
    exact ⟨List.mem_range.mp hi, rfl, z⟩
  · rw [if_neg z] at e
    cases e
theorem tellF_len (f : Nat → Int) (k : Nat) : (tellF f k).length ≤ k := by
  unfold tellF
  have := List.length_filterMap_le (fun i => if 0 < f i then some (i, f i) else none) (List.range k)
  rw [List.length_range] at this
  exact this
theorem tellF_rise (f : Nat → Int) : ∀ k, (tellF f k).Pairwise fun a b => a.1 < b.1
  | 0 => List.Pairwise.nil
  | k + 1 => by
    rw [tellF_add, List.pairwise_append]
    refine ⟨tellF_rise f k, ?_, fun a ha b hb => ?_⟩
    · split
      · exact List.pairwise_singleton _ _
      · exact List.Pairwise.nil
    · split at hb
      · rw [List.mem_singleton.mp hb]
        exact (tellF_mem ha).1
      · cases hb
theorem tellF_zero {f : Nat → Int} : ∀ {k : Nat}, (∀ i, i < k → f i = 0) → tellF f k = []
  | 0, _ => rfl
  | k + 1, h => by
    rw [tellF_add, tellF_zero fun i hi => h i (by omega), h k (by omega)]
    rfl
/-- the debts, lessened by the first k numbers of a cut -/
def lessF (ds : List Debt) (f : Nat → Int) (k : Nat) : List Debt := (List.range ds.length).map fun i => ((dbt ds i).1, (dbt ds i).2.1, (dbt ds i).2.2 - if i < k then f i else 0)
theorem lessF_len (ds : List Debt) (f : Nat → Int) (k : Nat) : (lessF ds f k).length = ds.length := by unfold lessF; rw [List.length_map, List.length_range]
theorem lessF_dbt {ds : List Debt} {f : Nat → Int} {k i : Nat} (h : i < ds.length) : dbt (lessF ds f k) i = ((dbt ds i).1, (dbt ds i).2.1, (dbt ds i).2.2 - if i < k then f i else 0) := by
  have e : (lessF ds f k)[i]? = some ((dbt ds i).1, (dbt ds i).2.1, (dbt ds i).2.2 - if i < k then f i else 0) := by
    unfold lessF
    rw [List.getElem?_map, List.getElem?_range h]
    rfl
  exact dbt_of e
theorem dbt_ext {ds es : List Debt} (hl : ds.length = es.length) (h : ∀ i, i < ds.length → dbt ds i = dbt es i) : ds = es := by
  refine List.ext_getElem hl fun i h1 h2 => ?_
  have a := dbt_at h1
  have b := dbt_at h2
  rw [List.getElem?_eq_getElem h1] at a
  rw [List.getElem?_eq_getElem h2] at b
  rw [Option.some.inj a, Option.some.inj b, h i h1]
theorem lessF_zero (ds : List Debt) (f : Nat → Int) : lessF ds f 0 = ds := by
  refine dbt_ext (lessF_len _ _ _) fun i h => ?_
  rw [lessF_len] at h
  rw [lessF_dbt h, if_neg (Nat.not_lt_zero _), Int.sub_zero]
theorem lessF_step {ds : List Debt} {f : Nat → Int} {k : Nat} (hk : k < ds.length) : setRest (lessF ds f k) k ((dbt (lessF ds f k) k).2.2 - f k) = lessF ds f (k + 1) := by
  refine dbt_ext (by rw [setRest_len, lessF_len, lessF_len]) fun i h => ?_
  rw [setRest_len, lessF_len] at h
  rw [dbt_set (by rw [lessF_len]; exact hk), lessF_dbt h, lessF_dbt hk, if_neg (Nat.lt_irrefl k), lessF_dbt h]
  by_cases e : k = i
  · subst e
    rw [if_pos rfl, if_pos (Nat.lt_succ_self _)]
    dsimp only
    rw [Int.sub_zero]
  · rw [if_neg e]
    by_cases z : i < k
    · rw [if_pos z, if_pos (by omega)]
    · rw [if_neg z, if_neg (by omega)]
theorem lessF_still {ds : List Debt} {f : Nat → Int} {k : Nat} (h0 : f k = 0) : lessF ds f (k + 1) = lessF ds f k := by
  refine dbt_ext (by rw [lessF_len, lessF_len]) fun i h => ?_
  rw [lessF_len] at h
  rw [lessF_dbt h, lessF_dbt h]
  by_cases z : i < k
  · rw [if_pos z, if_pos (by omega)]
  · rw [if_neg z]
    by_cases e : i = k
    · subst e
      rw [if_pos (by omega), h0]
    · rw [if_neg (by omega)]
/-- the same, told by told -/
def lessTo (ds : List Debt) (T : List (Nat × Int)) : List Debt := T.foldl (fun es q => setRest es q.1 ((dbt es q.1).2.2 - q.2)) ds
theorem lessTo_snoc (ds : List Debt) (T : List (Nat × Int)) (q : Nat × Int) : lessTo ds (T ++ [q]) = setRest (lessTo ds T) q.1 ((dbt (lessTo ds T) q.1).2.2 - q.2) := by
  unfold lessTo
  rw [List.foldl_append]
  rfl
theorem lessTo_len (ds : List Debt) (T : List (Nat × Int)) : (lessTo ds T).length = ds.length := by
  unfold lessTo
  induction T generalizing ds with
  | nil => rfl
  | cons q T ih => rw [List.foldl_cons, ih, setRest_len]
theorem lessTo_tell {ds : List Debt} {f : Nat → Int} (f0 : ∀ i, 0 ≤ f i) : ∀ k, k ≤ ds.length → lessTo ds (tellF f k) = lessF ds f k
  | 0, _ => (lessF_zero ds f).symm
  | k + 1, hk => by
    have ih := lessTo_tell (ds := ds) f0 k (by omega)
    rw [tellF_add]
    by_cases z : 0 < f k
    · rw [if_pos z, lessTo_snoc, ih]
      exact lessF_step (ds := ds) (f := f) (k := k) (by omega)
    · rw [if_neg z, List.append_nil, ih, lessF_still (k := k) (by have := f0 k; omega)]
/-- numbers put into zeros, told by told -/
def putTo (l : List Int) (T : List (Nat × Int)) : List Int := T.foldl (fun l q => l.set q.1 q.2) l
theorem putTo_snoc (l : List Int) (T : List (Nat × Int)) (q : Nat × Int) : putTo l (T ++ [q]) = (putTo l T).set q.1 q.2 := by
  unfold putTo
  rw [List.foldl_append]
  rfl
theorem putTo_len (l : List Int) (T : List (Nat × Int)) : (putTo l T).length = l.length := by
  unfold putTo
  induction T generalizing l with
  | nil => rfl
  | cons q T ih => rw [List.foldl_cons, ih, List.length_set]
theorem putTo_tell {f : Nat → Int} {n : Nat} (f0 : ∀ i, 0 ≤ f i) : ∀ k, k ≤ n → putTo (List.replicate n 0) (tellF f k) = (List.range n).map fun i => if i < k then f i else 0
  | 0, _ => by
    refine List.ext_getElem? fun i => ?_
    show (List.replicate n (0 : Int))[i]? = _
    rw [List.getElem?_replicate, List.getElem?_map]
    by_cases h : i < n
    · rw [if_pos h, List.getElem?_range h]
      rfl
    · rw [if_neg h, List.getElem?_eq_none (by rw [List.length_range]; omega)]
      rfl
  | k + 1, hk => by
    have ih := putTo_tell (n := n) f0 k (by omega)
    rw [tellF_add]
    have st : ((List.range n).map fun i => if i < k then f i else 0).set k (f k) = (List.range n).map fun i => if i < k + 1 then f i else 0 := by
      refine List.ext_getElem? fun i => ?_
      by_cases e : k = i
      · subst e
        have hk' : k < ((List.range n).map fun i => if i < k then f i else 0).length := by
          rw [List.length_map, List.length_range]
          omega
        rw [List.getElem?_set_self hk', List.getElem?_map, List.getElem?_range (show k < n by omega)]
        show some (f k) = some (if k < k + 1 then f k else 0)
        rw [if_pos (by omega)]
      · rw [List.getElem?_set_ne e, List.getElem?_map, List.getElem?_map]
        by_cases h : i < n
        · rw [List.getElem?_range h]
          show some (if i < k then f i else 0) = some (if i < k + 1 then f i else 0)
          by_cases z : i < k
          · rw [if_pos z, if_pos (by omega)]
          · rw [if_neg z, if_neg (by omega)]
        · rw [List.getElem?_eq_none (by rw [List.length_range]; omega)]
          rfl
    by_cases z : 0 < f k
    · rw [if_pos z, putTo_snoc, ih, st]
    · rw [if_neg z, List.append_nil, ih, ← st]
      have e0 : f k = 0 := by have := f0 k; omega
      refine List.ext_getElem? fun i => ?_
      by_cases e : k = i
      · subst e
        have hk' : k < ((List.range n).map fun i => if i < k then f i else 0).length := by
          rw [List.length_map, List.length_range]
          omega
        rw [List.getElem?_set_self hk', List.getElem?_map, List.getElem?_range (show k < n by omega), e0]
        show some (if k < k then f k else 0) = some 0
        rw [if_neg (by omega)]
      · rw [List.getElem?_set_ne e]
theorem putTo_all {f : Nat → Int} {n : Nat} (f0 : ∀ i, 0 ≤ f i) : putTo (List.replicate n 0) (tellF f n) = listF f n := by
  rw [putTo_tell f0 n (Nat.le_refl _)]
  unfold listF
  refine List.map_congr_left fun i hi => ?_
  rw [if_pos (List.mem_range.mp hi)]
/-! ### a cut of what stands as one of all -/
def fullF (ds : List Debt) (cs : List Int) (i : Nat) : Int := if 0 < (dbt ds i).2.2 then cs.getD (standTo ds i).length 0 else 0
theorem standTo_at {ds : List Debt} {i : Nat} (h0 : 0 < (dbt ds i).2.2) : ∀ {k : Nat}, i < k → (standTo ds k)[(standTo ds i).length]? = some (i, dbt ds i)
  | k + 1, hi => by
    rw [standTo_add]
    by_cases e : i = k
    · subst e
      rw [if_pos h0, List.getElem?_append_right (Nat.le_refl _), Nat.sub_self]
      rfl
    · have ih := standTo_at h0 (k := k) (by omega)
      have hl := (List.getElem?_eq_some_iff.mp ih).1
      rw [List.getElem?_append_left hl]
      exact ih
theorem zip_snoc {α β : Type} (b0 : β) : ∀ (l : List α) (x : α) (cs : List β), l.length < cs.length → (l ++ [x]).zip cs = l.zip cs ++ [(x, cs.getD l.length b0)]
  | [], x, c :: cs, _ => by
    show [(x, c)] = [(x, (c :: cs).getD 0 b0)]
    rfl
  | [], x, [], h => absurd h (Nat.lt_irrefl _)
  | a :: l, x, [], h => absurd h (Nat.not_lt_zero _)
  | a :: l, x, c :: cs, h => by
    have ih := zip_snoc b0 l x cs (Nat.lt_of_succ_lt_succ h)
    rw [List.cons_append, List.zip_cons_cons, ih]
    rfl
theorem zst_add {ds : List Debt} {cs : List Int} {k : Nat} (hk : k < ds.length) (hl : cs.length = (standL ds).length) : (standTo ds (k + 1)).zip cs = (standTo ds k).zip cs ++ if 0 < (dbt ds k).2.2 then [((k, dbt ds k), fullF ds cs k)] else [] := by
  rw [standTo_add]
  by_cases z : 0 < (dbt ds k).2.2
  · rw [if_pos z, if_pos z]
    have h := (List.getElem?_eq_some_iff.mp (standTo_at z hk)).1
    rw [zip_snoc (0 : Int) _ _ _ (by rw [hl]; exact h)]
    unfold fullF
    rw [if_pos z]
  · rw [if_neg z, if_neg z, List.append_nil, List.append_nil]
def tellS (l : List ((Nat × Debt) × Int)) : List (Nat × Int) := l.filterMap fun q => if 0 < q.2 then some (q.1.1, q.2) else none
theorem tell_full {ds : List Debt} {cs : List Int} (hl : cs.length = (standL ds).length) : ∀ k, k ≤ ds.length → tellS ((standTo ds k).zip cs) = tellF (fullF ds cs) k
  | 0, _ => rfl
  | k + 1, hk => by
    have ih := tell_full hl k (by omega)
    rw [zst_add (by omega) hl, tellF_add]
    unfold tellS at ih ⊢
    rw [List.filterMap_append, ih]
    congr 1
    by_cases z : 0 < (dbt ds k).2.2
    · rw [if_pos z]
      by_cases y : 0 < fullF ds cs k
      · simp [y]
      · simp [y]
    · rw [if_neg z]
      have e : fullF ds cs k = 0 := by unfold fullF; rw [if_neg z]
      rw [e]
      rfl
/-- a sum over numbers -/
def sumN (g : Debt → Int) (h : Int) (ds : List Debt) (f : Nat → Int) (k : Nat) : Int := ((List.range k).map fun i => if g (dbt ds i) = h then f i else 0).sum
theorem sumN_add (g : Debt → Int) (h : Int) (ds : List Debt) (f : Nat → Int) (k : Nat) : sumN g h ds f (k + 1) = sumN g h ds f k + if g (dbt ds k) = h then f k else 0 := by
  unfold sumN
  rw [List.range_succ, List.map_append, List.sum_append]
  show _ + ((if g (dbt ds k) = h then f k else 0) + 0) = _
  rw [Int.add_zero]
theorem zip_listF {ds : List Debt} {f : Nat → Int} : ds.zip (listF f ds.length) = (List.range ds.length).map fun i => (dbt ds i, f i) := by
  refine List.ext_getElem? fun i => ?_
  rw [List.getElem?_map]
  by_cases h : i < ds.length
  · rw [List.getElem?_range h, List.getElem?_zip_eq_some (z := (dbt ds i, f i)) |>.mpr ⟨dbt_at h, listF_at h⟩]
    rfl
  · rw [List.getElem?_eq_none (by rw [List.length_zip, listF_len]; omega), List.getElem?_eq_none (by rw [List.length_range]; omega)]
    rfl
theorem sumBy_listF (g : Debt → Int) (h : Int) (ds : List Debt) (f : Nat → Int) : sumBy g h ds (listF f ds.length) = sumN g h ds f ds.length := by
  unfold sumBy sumN
  rw [zip_listF, List.map_map]
  rfl
theorem sumBy_stand (g : Debt → Int) (h : Int) {ds : List Debt} {cs : List Int} (hl : cs.length = (standL ds).length) : ∀ k, k ≤ ds.length → sumBy g h ((standTo ds k).map fun q => q.2) cs = sumN g h ds (fullF ds cs) k
  | 0, _ => rfl
  | k + 1, hk => by
    have ih := sumBy_stand g h hl k (by omega)
    rw [sumN_add, ← ih]
    unfold sumBy
    rw [List.zip_map_left, List.zip_map_left, zst_add (by omega) hl, List.map_append, List.map_append, List.sum_append]
    congr 1
    by_cases z : 0 < (dbt ds k).2.2
    · rw [if_pos z]
      show (if g (dbt ds k) = h then fullF ds cs k else 0) + 0 = _
      rw [Int.add_zero]
    · rw [if_neg z]
      have e : fullF ds cs k = 0 := by unfold fullF; rw [if_neg z]
      rw [e]
      split <;> rfl
/-- a cut, even, that prices show: of what stands, and so of all -/
structure BestCut (ds : List Debt) (cs : List Int) : Prop where
  cut : IsCut ds cs
  even : EvenC ds cs
  sh : ∃ p, Shows p ds cs
theorem full_best {ds : List Debt} {cs : List Int} (h0 : ∀ d ∈ ds, 0 ≤ d.2.2) (b : BestCut ((standL ds).map fun q => q.2) cs) : BestCut ds (listF (fullF ds cs) ds.length) := by
  have hl : cs.length = (standL ds).length := by rw [b.cut.len, List.length_map]
  have st : ∀ i, i < ds.length → 0 < (dbt ds i).2.2 → ((standL ds).map fun q => q.2)[(standTo ds i).length]? = some (dbt ds i) ∧ cs[(standTo ds i).length]? = some (fullF ds cs i) := fun i hi z => by
    have e := standTo_at z hi
    have hj := (List.getElem?_eq_some_iff.mp e).1
    refine ⟨?_, ?_⟩
    · rw [List.getElem?_map]
      show ((standTo ds ds.length)[(standTo ds i).length]?).map (fun q => q.2) = _
      rw [e]
      rfl
    · unfold fullF
      have hj : (standTo ds i).length < cs.length := by rw [hl]; exact hj
      rw [if_pos z, List.getD_eq_getElem?_getD, List.getElem?_eq_getElem hj]
      rfl
  have zero : ∀ i, ¬ 0 < (dbt ds i).2.2 → fullF ds cs i = 0 := fun i z => by unfold fullF; rw [if_neg z]
  refine ⟨⟨listF_len _ _, fun i d c e1 e2 => ?_⟩, fun h => ?_, ?_⟩
  · have hi := (List.getElem?_eq_some_iff.mp e1).1
    have ed := dbt_of e1
    rw [listF_at hi] at e2
    cases e2
    have m0 := h0 d (List.mem_of_getElem? e1)
    rw [← ed] at m0 ⊢
    by_cases z : 0 < (dbt ds i).2.2
    · obtain ⟨a1, a2⟩ := st i hi z
      exact b.cut.at_ _ _ _ a1 a2
    · rw [zero i z]
      omega
  · rw [sumBy_listF, sumBy_listF, ← sumBy_stand _ _ hl _ (Nat.le_refl _), ← sumBy_stand _ _ hl _ (Nat.le_refl _)]
    exact b.even h
  · obtain ⟨p, sh⟩ := b.sh
    refine ⟨p, fun i d c e1 e2 => ?_⟩
    have hi := (List.getElem?_eq_some_iff.mp e1).1
    have ed := dbt_of e1
    rw [listF_at hi] at e2
    cases e2
    have m0 := h0 d (List.mem_of_getElem? e1)
    rw [← ed] at m0 ⊢
    by_cases z : 0 < (dbt ds i).2.2
    · obtain ⟨a1, a2⟩ := st i hi z
      exact sh _ _ _ a1 a2
    · rw [zero i z]
      omega
/-! ### what stands then -/
theorem moves_less (h a b x y : Int) : moves h (a, b, x - y) = moves h (a, b, x) - moves h (a, b, y) := by
  unfold moves
  dsimp only
  split <;> split <;> omega
theorem sum_range_sub (f g : Nat → Int) : ∀ k, ((List.range k).map fun i => f i - g i).sum = ((List.range k).map f).sum - ((List.range k).map g).sum
  | 0 => rfl
  | k + 1 => by
    have ih := sum_range_sub f g k
    rw [List.range_succ, List.map_append, List.map_append, List.map_append, List.sum_append, List.sum_append, List.sum_append, ih]
    show _ + ((f k - g k) + 0) = _ + (f k + 0) - (_ + (g k + 0))
    omega
theorem range_dbt {α : Type} (g : Debt → α) (ds : List Debt) : ds.map g = (List.range ds.length).map fun i => g (dbt ds i) := by
  refine List.ext_getElem? fun i => ?_
  rw [List.getElem?_map, List.getElem?_map]
  by_cases h : i < ds.length
  · rw [List.getElem?_range h, dbt_at h]
    rfl
  · rw [List.getElem?_eq_none (by omega), List.getElem?_eq_none (by rw [List.length_range]; omega)]
    rfl
theorem less_moves (h : Int) (ds : List Debt) (f : Nat → Int) : ((lessF ds f ds.length).map (moves h)).sum = (ds.map (moves h)).sum - ((withAmounts ds (listF f ds.length)).map (moves h)).sum := by
  have e1 : (lessF ds f ds.length).map (moves h) = (List.range ds.length).map fun i => moves h (dbt ds i) - moves h ((dbt ds i).1, (dbt ds i).2.1, f i) := by
    unfold lessF
    rw [List.map_map]
    refine List.map_congr_left fun i hi => ?_
    show moves h ((dbt ds i).1, (dbt ds i).2.1, (dbt ds i).2.2 - if i < ds.length then f i else 0) = _
    rw [if_pos (List.mem_range.mp hi), moves_less]
  have e2 : (withAmounts ds (listF f ds.length)).map (moves h) = (List.range ds.length).map fun i => moves h ((dbt ds i).1, (dbt ds i).2.1, f i) := by
    unfold withAmounts
    rw [← List.map_uncurry_zip_eq_zipWith, zip_listF, List.map_map, List.map_map]
    rfl
  rw [e1, e2, sum_range_sub, range_dbt (moves h) ds]
section
variable {n : Int} {ds : List Debt} {f : Nat → Int}
theorem less_inb (hd : ∀ d ∈ ds, InB n d) (k : Nat) : ∀ d ∈ lessF ds f k, InB n d := fun d h => by
  unfold lessF at h
  obtain ⟨i, hi, rfl⟩ := List.mem_map.mp h
  have q := hd _ (List.mem_of_getElem? (dbt_at (List.mem_range.mp hi)))
  exact ⟨q.a0, q.an, q.b0, q.bn⟩
theorem less_bal (hd : ∀ d ∈ ds, InB n d) (he : EvenC ds (listF f ds.length)) : bal n (lessF ds f ds.length) = bal n ds := by
  have l1 := bal_len n (lessF ds f ds.length)
  have l2 := bal_len n ds
  refine List.ext_getElem (by omega) fun i h1 h2 => ?_
  have e1 := bal_get (less_inb (f := f) hd ds.length) i
  have e2 := bal_get hd i
  rw [less_moves, sum_moves, he (i : Int)] at e1
  rw [List.getD_eq_getElem?_getD, List.getElem?_eq_getElem h1] at e1
  rw [List.getD_eq_getElem?_getD, List.getElem?_eq_getElem h2] at e2
  have e1 : (bal n (lessF ds f ds.length))[i] = _ := e1
  have e2 : (bal n ds)[i] = _ := e2
  rw [e1, e2]
  omega
theorem less_owed (hd : ∀ d ∈ ds, Owed n d) (hc : IsCut ds (listF f ds.length)) (k : Nat) : ∀ d ∈ lessF ds f k, Owed n d := fun d h => by
  unfold lessF at h
  obtain ⟨i, hi, rfl⟩ := List.mem_map.mp h
  have hi := List.mem_range.mp hi
  have q := hd _ (List.mem_of_getElem? (dbt_at hi))
  have c := hc.at_ i _ _ (dbt_at hi) (listF_at hi)
  have m0 := q.m0
  have mM := q.mM
  refine ⟨q.a0, q.an, q.b0, q.bn, q.ne, ?_, ?_⟩
  · show 0 ≤ (dbt ds i).2.2 - if i < k then f i else 0
    split <;> omega
  · show (dbt ds i).2.2 - (if i < k then f i else 0) ≤ 1000000000
    split <;> omega
/-- each debt of which something is left leads to a dearer house -/
def Rises (p : Int → Int) (ds : List Debt) : Prop := ∀ d ∈ ds, 0 < d.2.2 → p d.1 < p d.2.1
theorem less_rises {p : Int → Int} (sh : Shows p ds (listF f ds.length)) : Rises p (lessF ds f ds.length) := fun d h z => by
  unfold lessF at h
  obtain ⟨i, hi, rfl⟩ := List.mem_map.mp h
  have hi := List.mem_range.mp hi
  have q := (sh i _ _ (dbt_at hi) (listF_at hi)).2
  have z : 0 < (dbt ds i).2.2 - if i < ds.length then f i else 0 := z
  rw [if_pos hi] at z
  unfold lure at q
  show p (dbt ds i).1 < p (dbt ds i).2.1
  omega
theorem zeros_isCut {ds : List Debt} (h : ∀ d ∈ ds, 0 ≤ d.2.2) : IsCut ds (listF (fun _ => 0) ds.length) := ⟨listF_len _ _, fun i d c e1 e2 => by
  rw [listF_at (List.getElem?_eq_some_iff.mp e1).1] at e2
  cases e2
  exact ⟨Int.le_refl _, h d (List.mem_of_getElem? e1)⟩⟩
theorem sumN_zero (g : Debt → Int) (h : Int) (ds : List Debt) : ∀ k, sumN g h ds (fun _ => 0) k = 0
  | 0 => rfl
  | k + 1 => by
    rw [sumN_add, sumN_zero g h ds k]
    split <;> rfl
theorem zeros_evenC (ds : List Debt) : EvenC ds (listF (fun _ => 0) ds.length) := fun h => by rw [sumBy_listF, sumBy_listF, sumN_zero, sumN_zero]
theorem sum0 : ∀ k : Nat, (listF (fun _ => 0) k).sum = 0
  | 0 => rfl
  | k + 1 => by
    have ih := sum0 k
    unfold listF at ih ⊢
    rw [List.range_succ, List.map_append, List.sum_append, ih]
    rfl
theorem sum_pos {f : Nat → Int} : ∀ k : Nat, (∀ i, i < k → 0 ≤ f i) → 0 ≤ (listF f k).sum ∧ ((listF f k).sum ≤ 0 → ∀ i, i < k → f i = 0)
  | 0, _ => ⟨Int.le_refl _, fun _ i h => absurd h (Nat.not_lt_zero _)⟩
  | k + 1, h0 => by
    have ih := sum_pos k fun i hi => h0 i (by omega)
    have e : (listF f (k + 1)).sum = (listF f k).sum + f k := by
      unfold listF
      rw [List.range_succ, List.map_append, List.sum_append]
      show _ + (f k + 0) = _
      omega
    have hk := h0 k (Nat.lt_succ_self _)
    rw [e]
    refine ⟨by omega, fun z i hi => ?_⟩
    by_cases q : i = k
    · rw [q]
      omega
    · exact ih.2 (by omega) i (by omega)
/-- where each debt that stands leads to a dearer house, nothing can be cut off evenly -/
theorem rises_zero {p : Int → Int} (hd : ∀ d ∈ ds, Owed n d) (r : Rises p ds) (hc : IsCut ds (listF f ds.length)) (he : EvenC ds (listF f ds.length)) : ∀ i, i < ds.length → f i = 0 := by
  have h0 : ∀ d ∈ ds, 0 ≤ d.2.2 := fun d h => (hd d h).m0
  have sh : Shows p ds (listF (fun _ => 0) ds.length) := fun i d c e1 e2 => by
    rw [listF_at (List.getElem?_eq_some_iff.mp e1).1] at e2
    cases e2
    refine ⟨fun _ => Int.le_refl _, fun z => ?_⟩
    have m := h0 d (List.mem_of_getElem? e1)
    by_cases q : 0 < d.2.2
    · have := r d (List.mem_of_getElem? e1) q
      unfold lure at z
      omega
    · omega
  have b := shows_best (n := n) (fun d h => ⟨(hd d h).a0, (hd d h).an, (hd d h).b0, (hd d h).bn⟩) (zeros_isCut h0) sh (zeros_evenC ds) hc he
  rw [sum0] at b
  exact (sum_pos ds.length fun i hi => (hc.at_ i _ _ (dbt_at hi) (listF_at hi)).1).2 b
end
end Cd

/-! Clearday: one day with the law's own rows of it, and the lists that were told, held. -/
namespace Cd
open PySem PySem.Spec PyProof.Rows L2

def tdV (q : Nat × Int) : List V := [.int (q.1 : Int), .int q.2]
def encP (q : Nat × Int) : PyData := .tuple [.int (q.1 : Int), .int q.2]
theorem dp_td {K : PySem.W.Frag} {H : Hp} {v : V} {q : Nat × Int} (h : TV tdV K H v q) : Dp K H v (encP q) := by
  obtain ⟨p, rfl, t⟩ := h
  exact .tup t (.cons (.int _) (.cons (.int _) .nil))
theorem dp_st {K : PySem.W.Frag} {H : Hp} {v : V} {q : Nat × Debt} (h : TV stV K H v q) : Dp K H v (encS q) := by
  obtain ⟨p, rfl, t⟩ := h
  exact .tup t (.cons (.int _) (.cons (.int _) (.cons (.int _) (.cons (.int _) .nil))))
theorem sh_td (qs : List (Nat × Int)) : Sh 2 (.list (qs.map encP)) := sh_list fun d hd => by
  obtain ⟨q, _, rfl⟩ := List.mem_map.mp hd
  refine sh_tuple fun e he => ?_
  simp only [List.mem_cons, List.not_mem_nil, or_false] at he
  rcases he with rfl | rfl <;> exact sh_int _
theorem dpA_tv {α : Type} {enc : α → List V} {dat : α → PyData} {K : PySem.W.Frag} {H : Hp} (hd : ∀ v a, TV enc K H v a → Dp K H v (dat a)) : ∀ {vs : List V} {as : List α}, TVs enc K H vs as → DpAll K H vs (as.map dat)
  | _, _, .nil => .nil
  | _, _, .cons h t => .cons (hd _ _ h) (dpA_tv hd t)
theorem dpA_td {K : PySem.W.Frag} {H : Hp} {vs : List V} {qs : List (Nat × Int)} (h : TVs tdV K H vs qs) : DpAll K H vs (qs.map encP) := dpA_tv (fun _ _ => dp_td) h
theorem fr_mut {S : List Addr} {H H1 : Hp} {t : Addr} {o : HO} (f : Fr S H H1) (ht : H t = none) : Fr S H (upd H1 t o) := fun a u e n => by
  have ne : a ≠ t := fun z => by
    rw [z, ht] at e
    cases e
  rw [upd_ne ne]
  exact f a u e n
/-- what stood in F, and what of H2 wasn't a list in H -/
def grow (F H H2 : Hp) : Hp := fun a => match F a with
  | some o => some o
  | none => match H a with
    | some (.lst _) => none
    | _ => H2 a
section
variable {K : PySem.W.Frag} {C : Addr} {F H H1 H2 : Hp} {p R lp lr L : Addr} {n : Int} {rs hs : List Addr} {ds : List Debt}
theorem grow_same : Same F (grow F H H2) := fun a o e => by
  unfold grow
  rw [e]
theorem grow_not {a : Addr} {ws : List V} (e : H a = some (.lst ws)) (f : F a = none) : grow F H H2 a = none := by
  unfold grow
  rw [f, e]
theorem grow_of {a : Addr} {o : HO} (s : Same F H2) (e : H2 a = some o) (no : ∀ ws, H a ≠ some (.lst ws)) : grow F H H2 a = some o := by
  unfold grow
  cases f : F a with
  | some u =>
    have := s a u f
    rw [this] at e
    exact e
  | none =>
    dsimp only
    split
    · next w h => exact absurd h (no w)
    · exact e
theorem grow_le (s : Same F H2) : Same (grow F H H2) H2 := fun a o e => by
  unfold grow at e
  cases f : F a with
  | some u =>
    rw [f] at e
    rw [← (Option.some.inj e : u = o)]
    exact s a u f
  | none =>
    rw [f] at e
    dsimp only at e
    split at e
    · cases e
    · exact e
theorem grow_tup {t : Addr} {xs : List V} (s : Same F H2) (hl : ∀ x ws, H x = some (.lst ws) → ∃ ws', H2 x = some (.lst ws')) (h : SqT K H2 t xs) : SqT K (grow F H H2) t xs := by
  rcases h with (h | ⟨ob, h⟩) | h
  · refine .inl (.inl (grow_of s h fun ws z => ?_))
    obtain ⟨_, e⟩ := hl _ _ z
    rw [e] at h
    cases h
  · refine .inl (.inr ⟨ob, grow_of s h fun ws z => ?_⟩)
    obtain ⟨_, e⟩ := hl _ _ z
    rw [e] at h
    cases h
  · exact .inr h
/-- lists that are held -/
structure Hld (K : PySem.W.Frag) (F H : Hp) (L : Addr) (hs : List Addr) : Prop where
  same : Same F H
  fh : F L = none
  held : H L = some (.lst (hs.map V.ref))
  ok : ∀ h ∈ hs, Held K F h
theorem Hld.later (J : Hld K F H L hs) (s : Same H H1) : Hld K F H1 L hs := ⟨J.same.trans s, J.fh, s _ _ J.held, J.ok⟩
theorem Hld.fr {S : List Addr} (J : Hld K F H L hs) (f : Fr S H H1) (h : ∀ a ∈ S, F a = none) (n : L ∉ S) : Hld K F H1 L hs := ⟨f.same J.same h, J.fh, f _ _ J.held n, J.ok⟩
theorem Hld.told {α : Type} {enc : α → List V} {dat : α → PyData} {as : List α} {a b t : Addr} {vs vs' : List V} (J : Hld K F H2 L hs) (hL : ∃ ws, H L = some (.lst ws)) (hl : ∀ x ws, H x = some (.lst ws) → ∃ ws', H2 x = some (.lst ws'))
    (hd : ∀ (F : Hp) v a, TV enc K F v a → Dp K F v (dat a)) (sh : Sh 2 (.list (as.map dat))) (ha : H a = none) (ea : H2 a = some (.lst vs)) (tv : TVs enc K H2 vs as) (hb : H b = none) (eb : H2 b = some (.lst vs')) (tv' : TVs enc K H2 vs' as) (tt : SqT K H2 t [.ref a, .ref b]) :
    ∃ F', Same F F' ∧ (∀ x ws, H x = some (.lst ws) → F x = none → F' x = none) ∧ Hld K F' (upd H2 L (.lst (hs.map V.ref ++ [.ref t]))) L (hs ++ [t]) := by
  obtain ⟨wL, eL⟩ := hL
  have s := J.same
  have gt : ∀ {ws : List V}, TVs enc K H2 ws as → DpAll K (grow F H H2) ws (as.map dat) := fun h => dpA_tv (fun v a h => hd _ v a h) (paired_imp (fun v a ⟨p, e, x⟩ => ⟨p, e, grow_tup s hl x⟩) h)
  refine ⟨grow F H H2, grow_same, fun x ws e f => grow_not e f, ⟨fun x o e => ?_, grow_not eL J.fh, by rw [upd_same, List.map_append]; rfl, fun h hh => ?_⟩⟩
  · have ne : x ≠ L := fun z => by
      rw [z, grow_not eL J.fh] at e
      cases e
    rw [upd_ne ne]
    exact grow_le s _ _ e
  · rcases List.mem_append.mp hh with h' | h'
    · exact (J.ok h h').same grow_same
    · rw [List.mem_singleton.mp h']
      exact ⟨a, b, _, grow_tup s hl tt, .lst (SqL.of (grow_of s ea fun ws z => by rw [ha] at z; cases z)) (gt tv), .lst (SqL.of (grow_of s eb fun ws z => by rw [hb] at z; cases z)) (gt tv'), sh⟩
/-- a day, the law's rows of it, and the held lists -/
structure One (K : PySem.W.Frag) (C : Addr) (F H : Hp) (p R : Addr) (n : Int) (lp lr : Addr) (rs : List Addr) (ds : List Debt) (L : Addr) (hs : List Addr) : Prop where
  hl : Hld K F H L hs
  s0 : Side K C H p R n lp lr rs ds
  h0 : L ∉ foot lp lr R rs
  f0 : ∀ a ∈ foot lp lr R rs, F a = none
theorem One.later (J : One K C F H p R n lp lr rs ds L hs) (s : Same H H1) : One K C F H1 p R n lp lr rs ds L hs := ⟨J.hl.later s, J.s0.same s, J.h0, J.f0⟩
/-- a deed -/
theorem One.deed {rs2 : List Addr} {ds2 : List Debt} (J : One K C F H p R n lp lr rs ds L hs) (f : Fr (foot lp lr R rs) H H1) (S : Side K C H1 p R n lp lr rs2 ds2) (new : ∀ a ∈ rs2, a ∈ rs ∨ H a = none) : One K C F H1 p R n lp lr rs2 ds2 L hs := by
  have fn := foot_new (lp := lp) (lr := lr) (R := R) new
  refine ⟨J.hl.fr f J.f0 J.h0, S, fun h => ?_, fun a h => ?_⟩
  · rcases fn L h with y | y
    · exact J.h0 y
    · rw [J.hl.held] at y
      cases y
  · rcases fn a h with y | y
    · exact J.f0 a y
    · exact J.hl.same.free y
/-- a told list is held -/
theorem One.told {α : Type} {enc : α → List V} {dat : α → PyData} {as : List α} {a b t : Addr} {vs vs' : List V} (J : One K C F H p R n lp lr rs ds L hs) (sm : Same H H2)
    (hd : ∀ (F : Hp) v a, TV enc K F v a → Dp K F v (dat a)) (sh : Sh 2 (.list (as.map dat))) (ha : H a = none) (ea : H2 a = some (.lst vs)) (tv : TVs enc K H2 vs as) (hb : H b = none) (eb : H2 b = some (.lst vs')) (tv' : TVs enc K H2 vs' as) (tt : SqT K H2 t [.ref a, .ref b]) :
    ∃ F', Same F F' ∧ One K C F' (upd H2 L (.lst (hs.map V.ref ++ [.ref t]))) p R n lp lr rs ds L (hs ++ [t]) := by
  obtain ⟨F', h1, h2, h3⟩ := (J.hl.later sm).told (H := H) ⟨_, J.hl.held⟩ (fun x ws e => ⟨ws, sm _ _ e⟩) hd sh ha ea tv hb eb tv' tt
  have S := J.s0.same sm
  refine ⟨F', h1, ⟨h3, S.fr (T := [L]) (fr_upd List.mem_cons_self) (fun l hl => ?_) (fun x h z => ?_), J.h0, fun x h => ?_⟩⟩
  · rw [List.mem_singleton.mp hl]
    exact ⟨_, sm _ _ J.hl.held⟩
  · rw [List.mem_singleton.mp z] at h
    exact J.h0 h
  · obtain ⟨ws, e⟩ := J.s0.lists x h
    exact h2 x ws e (J.f0 x h)
end
def rLenD : List V → Hp → VK → Prop := fun xs H Q => ∃ a kvs, xs = [V.ref a] ∧ H a = some (.dK kvs) ∧ Q (.int kvs.length) H
end Cd

namespace Cd
open PySem PySem.Spec PyProof.Rows L2
def topS (i : Nat) : Stmt := PySem.Challenge.pw_clearday_k11_whole_days_cleared.main.body.getD i (.Pass ⟨0, 0, 0, 0⟩)
local macro_rules | `(tactic| walk_at "rd") => `(tactic| repeat (first | refine ⟨_, rfl, ?_⟩ | refine ⟨_, _, rfl, rfl, ?_⟩ | (refine And.intro ?_ ?_; focus ((try dsimp only [CMul, CDiv]); omega)) | refine ⟨rfl, ?_⟩))
local macro_rules | `(tactic| walk_at "rdx") => `(tactic| repeat' (first | refine ⟨_, rfl, ?_⟩ | refine ⟨_, _, rfl, rfl, ?_⟩ | (refine And.intro ?_ ?_; focus ((try dsimp only [CMul, CDiv]); omega)) | refine ⟨rfl, ?_⟩ | refine ite2 (fun _ => ?_) (fun _ => ?_)))
local macro_rules | `(tactic| walk_at "nf") => `(tactic| dsimp only [gName, L2.start, List.set, List.map, List.replicate, List.length_cons, List.length_nil, List.cons_append, List.nil_append, Nat.reduceAdd, Nat.reduceSub, Nat.add_eq])
local macro_rules | `(tactic| walk_at "ev") => `(tactic| repeat' (first | exact evda_nil | refine' evda_cons ?_ ?_ | refine' evd_tup ?_ ?_ | refine' evm_lst ?_ ?_ | exact evd_int _ | exact evd_bl _ | exact evd_str _ | exact evd_non | exact evd_vint (by rfl) | exact evd_var (by rfl) (by assumption) | exact evl_var (by rfl) (by assumption) (by assumption) | refine' evd_neg ?_ | refine' evd_I0 ?_ ?_ | refine' evd_I ?_ ?_ (by first | decide | omega) | refine' evm_cat ?_ ?_ ?_ | refine' EvM.l ?_ | refine' evd_lst ?_ ?_ | exact lb rfl))
section
variable {P : Program} {w : World} {K : PySem.W.Frag} {mg : Str → Option Value} {base : Heap}

abbrev s_L_cell_at : Stmt := topS 25
theorem sc_L_cell_at : FnScope ["_law_script", "_law_k"] ["_law_script", "_law_k"] (defScope s_L_cell_at) := ⟨rfl, rfl, rfl, by decide +kernel, rfl, by decide +kernel, by decide +kernel⟩
def spCell (K : PySem.W.Frag) : Sp := fun vs H Q _ => ∃ (a : Addr) (ns : List Int) (k : Int), vs = [.ref a, .int k] ∧ SqL K H a (ns.map V.int) ∧ 0 ≤ k ∧ Q (.int (cell ns k)) H
theorem ok_L_cell_at (D : DefAt K mg "_law_cell_at" s_L_cell_at) (B : Blt mg) : Cal P w K mg base CX0 1 "_law_cell_at" ["_law_script", "_law_k"] (spCell K) := by
  refine D.ok sc_L_cell_at (fun _ _ _ _ _ _ us hl => match us, hl with | [_, _], _ => rfl) (fun vs H Q E h => ?_) (fun f cdv A outer s H vs Q E hr h => ?_)
  · obtain ⟨a, ns, k, rfl, _⟩ := h
    rfl
  · obtain ⟨a, ns, k, rfl, hS, h0, q⟩ := h
    refine ⟨_, (pss_cons (ps_if (pt_cmpR op_lt (pv 1) (pe_callB (r := rLenQ K) call_len_seq (by rfl) B.len (by decide +kernel) (pa_cons (pv 0) pa_nil)) (nomark _)) (pss_one (ps_ret (pe_ix (r := rIxL K) ix_list (pv 0) (pv 1) (fun _ _ => rfl)))) pss_nil)
      (pss_one (ps_ret pe_int))), ?_⟩
    refine ⟨_, rfl, _, rfl, a, _, rfl, .inl hS, _, _, rfl, rfl, _, rfl, ite2 (fun e => ?_) (fun e => ?_)⟩
    · have hk : k < (ns.length : Int) := by
        have := of_decide_eq_true e
        rw [List.length_map] at this
        exact this
      have hg : ns[k.toNat]? = some (ns.getD k.toNat 0) := by
        rw [List.getD_eq_getElem?_getD, List.getElem?_eq_getElem (by omega)]
        rfl
      refine ⟨_, rfl, _, rfl, a, _, k, .int (ns.getD k.toNat 0), rfl, rfl, hS, at_of (j := k.toNat) (by omega) ?_, ?_⟩
      · rw [List.getElem?_map, hg]
        rfl
      · have ec : cell ns k = ns.getD k.toNat 0 := if_pos hk
        rw [← ec]
        exact q
    · have hk : ¬ k < (ns.length : Int) := by
        have := of_decide_eq_false (Bool.eq_false_iff.mpr e)
        rw [List.length_map] at this
        exact this
      have ec : cell ns k = 0 := if_neg hk
      rw [ec] at q
      exact q

abbrev s_L_whole : Stmt := topS 26
theorem sc_L_whole : FnScope ["_law_found"] ["_law_found"] (defScope s_L_whole) := ⟨rfl, rfl, rfl, by decide +kernel, rfl, by decide +kernel, by decide +kernel⟩
def spWhole (K : PySem.W.Frag) : Sp := fun vs H Q _ => ∃ (v : V) (d : PyData), vs = [v] ∧ Dp K H v d ∧ Q (.bl (isInt d)) H
theorem ok_L_whole (D : DefAt K mg "_law_whole" s_L_whole) (B : Blt mg) : Cal P w K mg base CX0 1 "_law_whole" ["_law_found"] (spWhole K) := by
  refine D.ok sc_L_whole (fun _ _ _ _ _ _ us hl => match us, hl with | [_], _ => rfl) (fun vs H Q E h => ?_) (fun f cdv A outer s H vs Q E hr h => ?_)
  · obtain ⟨v, d, rfl, _⟩ := h
    rfl
  · obtain ⟨v, d, rfl, hd, q⟩ := h
    refine ⟨_, (pss_one (ps_ret (pe_and (pe_callB (r := rIsi K) call_isi (by rfl) B.isinstance (by decide +kernel) (pa_cons (pv 0) (pa_cons (pe_bltn (v := .ty "int") (by rfl) B.int (by decide +kernel) rfl) pa_nil))) (pe_one (pe_not (pe_callB (r := rIsi K) call_isi (by rfl) B.isinstance (by decide +kernel) (pa_cons (pv 0) (pa_cons (pe_bltn (v := .ty "bool") (by rfl) B.bool (by decide +kernel) rfl) pa_nil)))))))), ?_⟩
    refine ⟨_, rfl, _, _, _, _, _, rfl, .ty "int", tyx_of hd, kit_int d, _, rfl, ?_⟩
    cases ei : isI d with
    | false =>
      have e : isInt d = false := by cases d <;> first | rfl | cases ei
      rw [e] at q
      exact iteF q
    | true =>
      refine iteT ⟨_, rfl, _, _, _, _, _, rfl, .ty "bool", tyx_of hd, kit_bool d, _, rfl, ?_⟩
      have e : isInt d = !isB d := by cases d <;> first | rfl | cases ei
      rw [e] at q
      exact q

abbrev s_is_whole : Stmt := topS 10
theorem sc_is_whole : FnScope ["value"] ["value"] (defScope s_is_whole) := ⟨rfl, rfl, rfl, by decide +kernel, rfl, by decide +kernel, by decide +kernel⟩
def spIsWhole (K : PySem.W.Frag) : Sp := fun vs H Q _ => ∃ (v : V) (d : PyData), vs = [v] ∧ Dp K H v d ∧ Q (.bl (isInt d)) H
theorem ok_is_whole (D : DefAt K mg "is_whole" s_is_whole) (B : Blt mg) : Cal P w K mg base CX0 1 "is_whole" ["value"] (spIsWhole K) := by
  refine D.ok sc_is_whole (fun _ _ _ _ _ _ us hl => match us, hl with | [_], _ => rfl) (fun vs H Q E h => ?_) (fun f cdv A outer s H vs Q E hr h => ?_)
  · obtain ⟨v, d, rfl, _⟩ := h
    rfl
  · obtain ⟨v, d, rfl, hd, q⟩ := h
    refine ⟨_, (pss_one (ps_ret (pe_and (pe_callB (r := rIsi K) call_isi (by rfl) B.isinstance (by decide +kernel) (pa_cons (pv 0) (pa_cons (pe_bltn (v := .ty "int") (by rfl) B.int (by decide +kernel) rfl) pa_nil))) (pe_one (pe_not (pe_callB (r := rIsi K) call_isi (by rfl) B.isinstance (by decide +kernel) (pa_cons (pv 0) (pa_cons (pe_bltn (v := .ty "bool") (by rfl) B.bool (by decide +kernel) rfl) pa_nil)))))))), ?_⟩
    refine ⟨_, rfl, _, _, _, _, _, rfl, .ty "int", tyx_of hd, kit_int d, _, rfl, ?_⟩
    cases ei : isI d with
    | false =>
      have e : isInt d = false := by cases d <;> first | rfl | cases ei
      rw [e] at q
      exact q
    | true =>
      refine ⟨_, rfl, _, _, _, _, _, rfl, .ty "bool", tyx_of hd, kit_bool d, _, rfl, ?_⟩
      have e : isInt d = !isB d := by cases d <;> first | rfl | cases ei
      rw [e] at q
      exact q

abbrev s_is_number : Stmt := topS 11
theorem sc_is_number : FnScope ["value", "low", "high"] ["value", "low", "high"] (defScope s_is_number) := ⟨rfl, rfl, rfl, by decide +kernel, rfl, by decide +kernel, by decide +kernel⟩
def spIsNumber (K : PySem.W.Frag) : Sp := fun vs H Q _ => ∃ (v : V) (d : PyData) (lo hi : Int), vs = [v, .int lo, .int hi] ∧ Dp K H v d ∧ Q (.bl (isNum d lo hi)) H
theorem ok_is_number (D : DefAt K mg "is_number" s_is_number) (c_is_whole : Cal P w K mg base CX0 1 "is_whole" ["value"] (spIsWhole K)) : Cal P w K mg base CX0 2 "is_number" ["value", "low", "high"] (spIsNumber K) := by
  refine D.ok sc_is_number (fun _ _ _ _ _ _ us hl => match us, hl with | [_, _, _], _ => rfl) (fun vs H Q E h => ?_) (fun f cdv A outer s H vs Q E hr h => ?_)
  · obtain ⟨v, d, lo, hi, rfl, _⟩ := h
    rfl
  · obtain ⟨v, d, lo, hi, rfl, hd, q⟩ := h
    refine ⟨_, (pss_one (ps_ret (pe_and (pe_cal c_is_whole (hr.mono (by decide)) (by rfl) pass0 (pa_cons (pv 0) pa_nil)) (pe_one (pe_chain op_le op_le (pv 1) (pv 0) (pv 2)))))), ?_⟩
    refine ⟨_, rfl, v, d, rfl, hd, ?_⟩
    cases ei : isInt d with
    | false =>
      have e : isNum d lo hi = false := by cases d <;> first | rfl | cases ei
      rw [e] at q
      exact ⟨_, rfl, q⟩
    | true =>
      obtain ⟨i, rfl⟩ : ∃ i, d = .int i := by cases d <;> first | exact ⟨_, rfl⟩ | (cases ei; done)
      cases hd
      refine ⟨_, rfl, ?_⟩
      refine ⟨_, rfl, _, rfl, _, _, rfl, rfl, _, rfl, ?_⟩
      refine ite2 (fun h1 => ?_) (fun h1 => ?_)
      · refine ⟨_, rfl, _, _, rfl, rfl, ?_⟩
        have e : isNum (.int i) lo hi = decide (i ≤ hi) := by
          show (decide (lo ≤ i) && decide (i ≤ hi)) = _
          rw [h1]
          rfl
        rw [e] at q
        exact q
      · have e : isNum (.int i) lo hi = false := by
          show (decide (lo ≤ i) && decide (i ≤ hi)) = _
          rw [Bool.eq_false_iff.mpr h1]
          rfl
        rw [e] at q
        exact q

abbrev s_is_debt : Stmt := topS 12
theorem sc_is_debt : FnScope ["count", "value", "debtor", "creditor", "amount"] ["count", "value"] (defScope s_is_debt) := ⟨rfl, rfl, rfl, by decide +kernel, rfl, by decide +kernel, by decide +kernel⟩
def isDebt (n : Int) (d : PyData) : Bool := match d with
  | .tuple [a, b, c] => isNum a 0 (n - 1) && (isNum b 0 (n - 1) && (!(PyData.eqv a b) && isNum c 1 1000000000))
  | _ => false
def spIsDebt (K : PySem.W.Frag) : Sp := fun vs H Q _ => ∃ (v : V) (d : PyData) (n : Int), vs = [.int n, v] ∧ Dp K H v d ∧ Q (.bl (isDebt n d)) H
theorem num_inv {d : PyData} {lo hi : Int} (h : isNum d lo hi = true) : ∃ i, d = .int i ∧ lo ≤ i ∧ i ≤ hi := by
  cases d with
  | int i =>
    have h' : (decide (lo ≤ i) && decide (i ≤ hi)) = true := h
    rw [Bool.and_eq_true] at h'
    exact ⟨i, rfl, of_decide_eq_true h'.1, of_decide_eq_true h'.2⟩
  | _ => cases h
theorem eqv_int (i j : Int) : PyData.eqv (.int i) (.int j) = decide (i = j) := by
  rw [← Bool.beq_eq_decide_eq]
  rfl
theorem ok_is_debt (D : DefAt K mg "is_debt" s_is_debt) (B : Blt mg) {tk : Tok} (g_MOST_AMOUNT : mg "MOST_AMOUNT" = some (.int 1000000000 tk)) (c_is_number : Cal P w K mg base CX0 2 "is_number" ["value", "low", "high"] (spIsNumber K)) :
    Cal P w K mg base CX0 3 "is_debt" ["count", "value"] (spIsDebt K) := by
  refine D.ok sc_is_debt (fun _ _ _ _ _ _ us hl => match us, hl with | [_, _], _ => rfl) (fun vs H Q E h => ?_) (fun f cdv A outer s H vs Q E hr h => ?_)
  · obtain ⟨v, d, n, rfl, _⟩ := h
    rfl
  · obtain ⟨v, d, n, rfl, hd, q⟩ := h
    refine ⟨_, (pss_cons (ps_if (PW.pt (pw_or (pt_not (pt_val (pe_callB (r := rIsi K) call_isi (by rfl) B.isinstance (by decide +kernel) (pa_cons (pv 1) (pa_cons (pe_bltn (v := .ty "tuple") (by rfl) B.tuple (by decide +kernel) rfl) pa_nil))))) (pw_or1 (pt_cmpR op_ne (pe_callB (r := rLenQ K) call_len_seq (by rfl) B.len (by decide +kernel) (pa_cons (pv 1) pa_nil)) pe_int (nomark _))))) (pss_one (ps_ret pe_bl)) pss_nil)
      (pss_cons (ps_asg (pv 1) (pg_tup rfl (pgs_cons (pg_name (i := 2) sc_is_debt.nd rfl (.inl rfl)) (pgs_cons (pg_name (i := 3) sc_is_debt.nd rfl (.inl rfl)) (pgs_cons (pg_name (i := 4) sc_is_debt.nd rfl (.inl rfl)) pgs_nil)))))
      (pss_cons (ps_if (PW.pt (pw_or (pt_not (pt_val (pe_cal c_is_number (hr.mono (by decide)) (by rfl) pass0 (pa_cons (pv 2) (pa_cons pe_int (pa_cons (pe_op op_sub (pv 0) pe_int) pa_nil)))))) (pw_or1 (pt_not (pt_val (pe_cal c_is_number (hr.mono (by decide)) (by rfl) pass0 (pa_cons (pv 3) (pa_cons pe_int (pa_cons (pe_op op_sub (pv 0) pe_int) pa_nil))))))))) (pss_one (ps_ret pe_bl)) pss_nil)
      (pss_one (ps_ret (pe_and (pe_cmpR op_ne (pv 2) (pv 3) (nomark _)) (pe_one (pe_cal c_is_number (hr.mono (by decide)) (by rfl) pass0 (pa_cons (pv 4) (pa_cons pe_int (pa_cons (pe_glob (v := .int 1000000000) (by rfl) g_MOST_AMOUNT ⟨_, rfl⟩) pa_nil))))))))))), ?_⟩
    refine ⟨_, rfl, _, _, _, _, _, rfl, .ty "tuple", tyx_of hd, kit_tuple d, _, rfl, ?_⟩
    cases et : isT d with
    | false =>
      have e : isDebt n d = false := by cases d <;> first | rfl | cases et
      rw [e] at q
      exact q
    | true =>
      obtain ⟨ds, rfl⟩ : ∃ ds, d = .tuple ds := by cases d <;> first | exact ⟨_, rfl⟩ | cases et
      cases hd with
      | @tup a xs _ hs ha =>
      have hlen := dpA_len ha
      refine ⟨_, rfl, a, xs, rfl, .inr hs, rfl, _, rfl, ite2 (fun e => ?_) (fun e => ?_)⟩
      · have hne : ds.length ≠ 3 := fun z => by
          rw [hlen, z] at e
          cases e
        have e : isDebt n (.tuple ds) = false := by
          match ds, hne with
          | [], _ => rfl
          | [_], _ => rfl
          | [_, _], _ => rfl
          | [_, _, _], h => exact absurd rfl h
          | _ :: _ :: _ :: _ :: _, _ => rfl
        rw [e] at q
        exact q
      · have h3 : ds.length = 3 := by
          have z := Bool.eq_false_iff.mpr e
          rw [hlen] at z
          have z2 : decide (V.int (ds.length : Int) = V.int 3) = true := by
            cases h : decide (V.int (ds.length : Int) = V.int 3) with
            | true => rfl
            | false =>
              rw [h] at z
              cases z
          have z3 := V.int.inj (of_decide_eq_true z2)
          omega
        obtain ⟨d1, d2, d3, rfl⟩ : ∃ d1 d2 d3, ds = [d1, d2, d3] := by
          match ds, h3 with
          | [d1, d2, d3], _ => exact ⟨d1, d2, d3, rfl⟩
        obtain ⟨v1, v2, v3, rfl, h1, h2, g3⟩ := dpA_3 ha
        refine ⟨_, rfl, a, _, rfl, hs, rfl, v1, _, rfl, v2, _, rfl, v3, _, rfl, rfl, ?_⟩
        have eD : isDebt n (.tuple [d1, d2, d3]) = (isNum d1 0 (n - 1) && (isNum d2 0 (n - 1) && (!(PyData.eqv d1 d2) && isNum d3 1 1000000000))) := rfl
        rw [eD] at q
        refine ⟨_, rfl, _, rfl, _, _, rfl, rfl, v1, d1, 0, n - 1, rfl, h1, _, rfl, ?_⟩
        cases e1 : isNum d1 0 (n - 1) with
        | false =>
          rw [e1] at q
          exact q
        | true =>
          refine ⟨_, rfl, _, rfl, _, _, rfl, rfl, v2, d2, 0, n - 1, rfl, h2, _, rfl, ?_⟩
          cases e2 : isNum d2 0 (n - 1) with
          | false =>
            rw [e1, e2] at q
            exact q
          | true =>
            obtain ⟨i1, rfl, _⟩ := num_inv e1
            obtain ⟨i2, rfl, _⟩ := num_inv e2
            cases h1
            cases h2
            rw [e1, e2, eqv_int] at q
            refine ⟨_, rfl, _, rfl, rfl, _, rfl, ite2 (fun e => ?_) (fun e => ?_)⟩
            · have en : decide (i1 = i2) = false := decide_eq_false fun z => by
                rw [z] at e
                simp at e
              rw [en] at q
              exact ⟨_, rfl, v3, d3, 1, 1000000000, rfl, g3, q⟩
            · have en : decide (i1 = i2) = true := decide_eq_true (by
                by_cases z : i1 = i2
                · exact z
                · exact absurd (by rw [decide_eq_false (fun y => z (V.int.inj y))] <;> rfl) e)
              rw [en] at q
              exact q

abbrev s_check_count : Stmt := topS 13
theorem sc_check_count : FnScope ["count"] ["count"] (defScope s_check_count) := ⟨rfl, rfl, rfl, by decide +kernel, rfl, by decide +kernel, by decide +kernel⟩
def spCheckCount (K : PySem.W.Frag) (C1 : Addr) : Sp := fun vs H Q E => ∃ (c : V) (dc : PyData), vs = [c] ∧ Dp K H c dc ∧ (isNum dc 1 20 = false → E (.ref C1) none H) ∧ (isNum dc 1 20 = true → Q .non H)
theorem ok_check_count {C1 : Addr} (D : DefAt K mg "check_count" s_check_count) {tk : Tok} (g_MOST_HOUSES : mg "MOST_HOUSES" = some (.int 20 tk)) (x_BadCount : ExcOf K mg "BadCount" C1)
    (c_is_number : Cal P w K mg base CX0 2 "is_number" ["value", "low", "high"] (spIsNumber K)) : Cal P w K mg base (L2N.CX P w) 3 "check_count" ["count"] (spCheckCount K C1) := by
  refine D.okN sc_check_count (fun _ _ _ _ _ _ us hl => match us, hl with | [_], _ => rfl) (fun vs H Q E h => ?_) (fun f cdv A outer s H vs Q E hr h => ?_)
  · obtain ⟨c, dc, rfl, _⟩ := h
    rfl
  · obtain ⟨c, dc, rfl, hc, e1, q⟩ := h
    refine ⟨_, (pss_one (ps_if (pt_not (pt_val (pe_cal c_is_number (hr.mono (by decide)) (by rfl) pass0 (pa_cons (pv 0) (pa_cons pe_int (pa_cons (pe_glob (v := .int 20) (by rfl) g_MOST_HOUSES ⟨_, rfl⟩) pa_nil)))))) (pss_one (L2N.ps_raise rfl (L2N.takes_of rfl rfl rfl rfl) (pmk_x x_BadCount (pa_cons (pe_joined (.cons pe_str (.cons (pe_fmt (pe_glob (v := .int 20) (by rfl) g_MOST_HOUSES ⟨_, rfl⟩)) .nil))) pa_nil) (by rfl)))) pss_nil)), ?_⟩
    refine ⟨_, rfl, c, dc, 1, 20, rfl, hc, _, rfl, ?_⟩
    cases en : isNum dc 1 20 with
    | false =>
      exact js_c (m := 0) (n := 60) (Nat.le_refl _) (by decide +kernel) (by decide) fun a ha => js_k ha (small_pow (by decide)) (by decide) fun a ha => js_end ⟨by show 1 ≤ 100; decide, e1 en⟩
    | true => exact q en

abbrev s_balances : Stmt := topS 14
theorem sc_balances : FnScope ["count", "debts", "sums", "debtor", "creditor", "amount"] ["count", "debts"] (defScope s_balances) := ⟨rfl, rfl, rfl, by decide +kernel, rfl, by decide +kernel, by decide +kernel⟩
def spBalances (K : PySem.W.Frag) : Sp := fun vs H Q _ => ∃ (n : Int) (a : Addr) (ds : List Debt), vs = [.int n, .ref a] ∧ 0 ≤ n ∧ n ≤ 20 ∧ DL K H a ds ∧ (∀ d ∈ ds, InB n d) ∧
  ∀ H' p, Same H H' → H p = none → H' p = some (.lst ((bal n ds).map V.int)) → Q (.ref p) H'
theorem ok_balances (D : DefAt K mg "balances" s_balances) : Cal P w K mg base CX0 1 "balances" ["count", "debts"] (spBalances K) := by
  refine D.ok sc_balances (fun _ _ _ _ _ _ us hl => match us, hl with | [_, _], _ => rfl) (fun vs H Q E h => ?_) (fun f cdv A outer s H vs Q E hr h => ?_)
  · obtain ⟨n, a, ds, rfl, _⟩ := h
    rfl
  · obtain ⟨n, a, ds, rfl, n0, nM, ⟨xs, hS, hD⟩, hin, q⟩ := h
    refine ⟨_, (pss_cons (ps_set (i := 2) sc_balances.nd rfl (.inl rfl) (pe_op op_rep (pe_lst (pa_cons pe_int pa_nil)) (pv 0)))
      (pss_cons (ps_for PassesOwn.never rfl (pi_list (pv 1)) (pg_tup rfl (pgs_cons (pg_name (i := 3) sc_balances.nd rfl (.inl rfl)) (pgs_cons (pg_name (i := 4) sc_balances.nd rfl (.inl rfl)) (pgs_cons (pg_name (i := 5) sc_balances.nd rfl (.inl rfl)) pgs_nil)))) (pss_cons (ps_augS (pv 2) (pv 3) get_list (pv 5) ip_sub set_list)
        (pss_one (ps_augS (pv 2) (pv 4) get_list (pv 5) ip_add set_list))))
      (pss_one (ps_ret (pv 2))))), ?_⟩
    refine ⟨szn (by show 1 ≤ 100000; decide), fun p hp => ⟨_, rfl, p, n, _, rfl, rfl, upd_same, by omega, by omega, szn (by show 1 * n.toNat ≤ 100000; omega), fun L hL => ?_⟩⟩
    have s1 := (same_new (o := .lst [.int 0]) hp).trans (same_new (o := .lst (List.replicate n.toNat [V.int 0]).flatten) hL)
    have hL0 : H L = none := (same_new (o := .lst [.int 0]) hp).free hL
    have e0 : (List.replicate n.toNat [V.int 0]).flatten = (bal n (ds.take 0)).map V.int := by
      show _ = (List.replicate n.toNat (0 : Int)).map V.int
      rw [List.map_replicate]
      generalize n.toNat = m
      induction m with
      | zero => rfl
      | succ m ih =>
        rw [List.replicate_succ, List.flatten_cons, ih]
        rfl
    refine ⟨_, rfl, a, rfl, ⟨xs, s1.seq hS⟩, for_list (xs := xs) (fun i σ H1 => ∃ y3 y4 y5, σ = [some (.int n), some (.ref a), some (.ref L), y3, y4, y5] ∧ Same H H1 ∧ H1 L = some (.lst ((bal n (ds.take i)).map V.int)))
      ⟨_, _, _, rfl, s1, by rw [upd_same, e0]⟩ ?_ ?_ ?_⟩
    · rintro i σ H1 _ ⟨_, _, _, _, sm, _⟩
      exact sm.seq hS
    · rintro i x σ H1 hx ⟨y3, y4, y5, rfl, sm, eL⟩
      obtain ⟨d, ed, t, rfl, hT⟩ := dvs_get (sm.dvs hD) hx
      have hi := hin d (List.mem_of_getElem? ed)
      obtain ⟨a0, an, b0, bn⟩ := hi
      have hl := bal_len n (ds.take i)
      refine ⟨t, _, rfl, hT, rfl, _, _, rfl, _, _, rfl, _, _, rfl, rfl, ?_⟩
      -- sums[debtor] -= amount
      refine ⟨_, rfl, _, rfl, L, _, d.1, _, rfl, rfl, SqL.of eL, at_int a0 (by omega), _, rfl, _, _, rfl, rfl, L, _, _, _, rfl, rfl, eL, ix_int a0 (by omega), ?_⟩
      have e1 : ((bal n (ds.take i)).map V.int).set d.1.toNat (.int ((bal n (ds.take i)).getD d.1.toNat 0 - d.2.2)) = (addAt (bal n (ds.take i)) d.1 (-d.2.2)).map V.int := by
        rw [set_int]
        rfl
      have hl1 := addAt_len (bal n (ds.take i)) d.1 (-d.2.2)
      -- sums[creditor] += amount
      refine ⟨_, rfl, _, rfl, L, (addAt (bal n (ds.take i)) d.1 (-d.2.2)).map V.int, d.2.1, _, rfl, rfl, SqL.of (by rw [upd_same]; exact congrArg some (congrArg HO.lst e1)), at_int b0 (by omega), _, rfl, _, _, rfl, rfl, L, _, _, _, rfl, rfl, (by rw [upd_same]; exact congrArg some (congrArg HO.lst e1)), ix_int b0 (by omega), ?_⟩
      refine ⟨_, _, _, rfl, same_mut (same_mut sm hL0) hL0, ?_⟩
      rw [upd_same, set_int, bal_take ed]
      rfl
    · rintro σ H1 ⟨y3, y4, y5, rfl, sm, eL⟩
      rw [dvs_len hD, List.take_length] at eL
      exact ⟨_, rfl, q H1 L sm hL0 eL⟩

abbrev s_circle : Stmt := topS 16
theorem sc_circle : FnScope ["count", "before", "house", "_", "houses"] ["count", "before", "house"] (defScope s_circle) := ⟨rfl, rfl, rfl, by decide +kernel, rfl, by decide +kernel, by decide +kernel⟩
/-- a circle told: the houses of the way back from the place where n steps lead, turned round -/
def spCircle (K : PySem.W.Frag) : Sp := fun vs H Q _ => ∃ (n : Int) (a : Addr) (v : Nat) (b : List (Option Nat)) (c m : Nat), vs = [.int n, .ref a, .int (v : Int)] ∧ 0 ≤ n ∧ n ≤ 20 ∧ SqL K H a (b.map bV) ∧ walk (nxB b) n.toNat v = some c ∧ Round (nxB b) m c ∧ m ≤ 100 ∧
  ∀ H' p, Same H H' → H p = none → H' p = some (.lst (idxV (rnd (nxB b) c m).reverse)) → Q (.ref p) H'
theorem ok_circle (D : DefAt K mg "circle" s_circle) (B : Blt mg) : Cal P w K mg base CX0 1 "circle" ["count", "before", "house"] (spCircle K) := by
  refine D.ok sc_circle (fun _ _ _ _ _ _ us hl => match us, hl with | [_, _, _], _ => rfl) (fun vs H Q E h => ?_) (fun f cdv A outer s H vs Q E hr h => ?_)
  · obtain ⟨n, a, v, b, c, m, rfl, _⟩ := h
    rfl
  · obtain ⟨n, a, v, b, c, m, rfl, n0, nM, hA, hW, R, mM, q⟩ := h
    refine ⟨_, (pss_cons (ps_for PassesOwn.never rfl (pi_range1 (by rfl) B.range (pa_cons (pv 0) pa_nil)) (pg_name (i := 3) sc_circle.nd rfl (.inl rfl)) (pss_one (ps_set (i := 2) sc_circle.nd rfl (.inl rfl) (pe_ix (r := rIxL K) ix_list (pv 1) (pv 2) (fun _ _ => rfl)))))
      (pss_cons (ps_set (i := 4) sc_circle.nd rfl (.inl rfl) (pe_lst (pa_cons (pv 2) pa_nil)))
      (pss_cons (ps_while PassesOwn.never (pt_cmpR op_ne (pe_ix (r := rIxL K) ix_list (pv 1) (pe_ix (r := rIxL K) ix_list (pv 4) (pe_un un_neg pe_int) (fun _ _ => rfl)) (fun _ _ => rfl)) (pv 2) (nomark _)) (pss_one (ps_expr (pe_bm PySem.F.plainAttrs_list PySem.F.slot_list_append PySem.F.type_list_append mt_append (pv 4) (pa_cons (pe_ix (r := rIxL K) ix_list (pv 1) (pe_ix (r := rIxL K) ix_list (pv 4) (pe_un un_neg pe_int) (fun _ _ => rfl)) (fun _ _ => rfl)) pa_nil)))))
      (pss_one (ps_ret (pe_revL (pv 4))))))), ?_⟩
    have lt_b : ∀ {x y : Nat}, nxB b x = some y → x < b.length := fun {x y} e => by
      unfold nxB at e
      rcases Nat.lt_or_ge x b.length with z | z
      · exact z
      · rw [List.getD_eq_getElem?_getD, List.getElem?_eq_none z] at e
        cases e
    have get : ∀ {x y : Nat}, nxB b x = some y → atI (b.map bV) (x : Int) = some (.int (y : Int)) := fun {x y} e => bV_at e (lt_b e)
    have seq : ∀ {H1 : Hp} (sm : Same H H1), SqL K H1 a (b.map bV) := by
      intro H1 sm
      exact sm.seq hA
    refine ⟨_, rfl, _, rfl, by omega, by omega, for_range (lo := 0) (n := n.toNat) (fun i σ H1 => H1 = H ∧ ∃ (y : Nat) (y3 : Option V), walk (nxB b) i v = some y ∧ σ = [some (.int n), some (.ref a), some (.int (y : Int)), y3, none])
      ⟨rfl, v, _, rfl, rfl⟩ ?_ ?_⟩
    · rintro i σ H1 hi ⟨rfl, y, y3, hy, rfl⟩
      obtain ⟨z, hz⟩ := walk_some hW (i + 1) (by omega)
      have e1 : walk (nxB b) (i + 1) v = (walk (nxB b) i v).bind (nxB b) := rfl
      have hz' := hz
      rw [e1, hy] at hz'
      refine ⟨_, rfl, _, rfl, a, _, _, _, rfl, rfl, seq (Same.refl _), get hz', rfl, z, _, hz, rfl⟩
    · rintro σ H1 ⟨rfl, y, y3, hy, rfl⟩
      rw [hW] at hy
      cases hy
      refine ⟨_, rfl, lb rfl, fun L hL => ?_⟩
      have gt1 : ∀ {i : Nat}, i < m → nxB b (wAt (nxB b) c i) = some (wAt (nxB b) c (i + 1)) := fun hi => R.next hi
      refine ⟨fun k σ H2 => ∃ i, i < m ∧ k = m - i ∧ σ = [some (.int n), some (.ref a), some (.int (c : Int)), y3, some (.ref L)] ∧ Same H1 H2 ∧ H2 L = some (.lst (idxV (rnd (nxB b) c (i + 1)))), ⟨_, 0, R.pos, rfl, rfl, same_new hL, upd_same⟩, ?_⟩
      rintro k σ H2 ⟨i, hi, rfl, rfl, sm, eL⟩
      have el : atI (idxV (rnd (nxB b) c (i + 1))) (-1) = some (.int (wAt (nxB b) c i : Int)) := by
        rw [rnd_add, idxV_app]
        exact atI_last _ _
      refine ⟨_, rfl, _, rfl, 1, rfl, L, _, -1, _, rfl, rfl, SqL.of eL, el, a, _, _, _, rfl, rfl, seq sm, get (gt1 hi), _, rfl, rfl, _, rfl, ite2 (fun e => ?_) (fun e => ?_)⟩
      · have ne : wAt (nxB b) c (i + 1) ≠ c := fun z => by
          rw [z] at e
          simp at e
        have hi1 : i + 1 < m := by
          rcases Nat.lt_or_ge (i + 1) m with z | z
          · exact z
          · exact absurd (by rw [show i + 1 = m by omega]; exact R.end_) ne
        refine ⟨fun σ H3 => σ = [some (.int n), some (.ref a), some (.int (c : Int)), y3, some (.ref L)] ∧ Same H1 H3 ∧ H3 L = some (.lst (idxV (rnd (nxB b) c (i + 1 + 1)))), ?_, ?_⟩
        · rintro σ' H3 ⟨rfl, sm3, eL3⟩
          exact ⟨m - (i + 1), by omega, i + 1, hi1, rfl, rfl, sm3, eL3⟩
        · refine ⟨_, rfl, .inl ⟨rfl, _, SqL.of eL⟩, ?_⟩
          refine ⟨_, rfl, _, rfl, 1, rfl, L, _, -1, _, rfl, rfl, SqL.of eL, el, a, _, _, _, rfl, rfl, seq sm, get (gt1 hi), L, _, _, rfl, rfl, eL, ?_, rfl, ?_, ?_⟩
          · exact szl (by rw [idxV_len, rnd_len]; omega)
          · exact same_mut sm hL
          · rw [upd_same, rnd_add (nxB b) c (i + 1), idxV_app]
      · have ee : wAt (nxB b) c (i + 1) = c := by
          by_cases z : wAt (nxB b) c (i + 1) = c
          · exact z
          · exfalso
            refine e ?_
            rw [decide_eq_false (fun y => z (Int.ofNat.inj (V.int.inj y)) : ¬ V.int (wAt (nxB b) c (i + 1) : Int) = V.int (c : Int))]
            rfl
        have hm : i + 1 = m := by
          rcases Nat.lt_or_ge (i + 1) m with z | z
          · exact absurd ee (R.ne (by omega) z)
          · omega
        rw [hm] at eL
        refine ⟨_, rfl, L, _, rfl, SqL.of eL, fun p hp => ?_⟩
        refine q _ p (sm.trans (same_new hp)) (sm.free hp) ?_
        rw [upd_same, idxV_rev]

abbrev s_moves : Stmt := topS 18
theorem sc_moves : FnScope ["debts", "cut", "least", "found", "number", "debtor", "creditor", "amount"] ["debts", "cut", "least"] (defScope s_moves) := ⟨rfl, rfl, rfl, by decide +kernel, rfl, by decide +kernel, by decide +kernel⟩
def spMoves (K : PySem.W.Frag) : Sp := fun vs H Q _ => ∃ (a b : Addr) (ds : List Debt) (cs : List Int) (least : Int), vs = [.ref a, .ref b, .int least] ∧ DL K H a ds ∧ SqL K H b (cs.map V.int) ∧ cs.length = ds.length ∧ ds.length ≤ 100 ∧ (∀ d ∈ ds, 0 ≤ d.1 ∧ 0 ≤ d.2.1) ∧
  ∀ (H' : Hp) (p : Addr) (vs : List V), Same H H' → H p = none → H' p = some (.lst vs) → TVs wV K H' vs (mvs least ds cs ds.length) → Q (.ref p) H'
theorem ok_moves (D : DefAt K mg "moves" s_moves) (B : Blt mg) : Cal P w K mg base CX0 1 "moves" ["debts", "cut", "least"] (spMoves K) := by
  refine D.ok sc_moves (fun _ _ _ _ _ _ us hl => match us, hl with | [_, _, _], _ => rfl) (fun vs H Q E h => ?_) (fun f cdv A outer s H vs Q E hr h => ?_)
  · obtain ⟨a, b, ds, cs, least, rfl, _⟩ := h
    rfl
  · obtain ⟨a, b, ds, cs, least, rfl, ⟨xs, hS, hD⟩, hC, hcl, hlen, hpos, q⟩ := h
    refine ⟨_, (pss_cons (ps_set (i := 3) sc_moves.nd rfl (.inl rfl) (pe_lst pa_nil))
      (pss_cons (ps_for PassesOwn.never rfl (pi_enum (by rfl) B.enumerate (pa_cons (pv 0) pa_nil)) (pg_tup rfl (pgs_cons (pg_name (i := 4) sc_moves.nd rfl (.inl rfl)) (pgs_cons (pg_tup rfl (pgs_cons (pg_name (i := 5) sc_moves.nd rfl (.inl rfl)) (pgs_cons (pg_name (i := 6) sc_moves.nd rfl (.inl rfl)) (pgs_cons (pg_name (i := 7) sc_moves.nd rfl (.inl rfl)) pgs_nil)))) pgs_nil))) (_root_.C8.pss_cut (ps_if (pt_cmpR op_ge (pe_op op_sub (pv 7) (pe_ix (r := rIxL K) ix_list (pv 1) (pv 4) (fun _ _ => rfl))) (pv 2) (nomark _)) (pss_one (ps_expr (pe_bm PySem.F.plainAttrs_list PySem.F.slot_list_append PySem.F.type_list_append mt_append (pv 3) (pa_cons (pe_tup (pa_cons (pv 5) (pa_cons (pv 6) (pa_cons pe_int (pa_cons (pv 4) pa_nil))))) pa_nil)))) pss_nil)
        (pss_one (ps_if (pt_cmpR op_ge (pe_ix (r := rIxL K) ix_list (pv 1) (pv 4) (fun _ _ => rfl)) (pv 2) (nomark _)) (pss_one (ps_expr (pe_bm PySem.F.plainAttrs_list PySem.F.slot_list_append PySem.F.type_list_append mt_append (pv 3) (pa_cons (pe_tup (pa_cons (pv 6) (pa_cons (pv 5) (pa_cons (pe_un un_neg pe_int) (pa_cons (pv 4) pa_nil))))) pa_nil)))) pss_nil))))
      (pss_one (ps_ret (pv 3))))), ?_⟩
    have hxl := dvs_len hD
    refine ⟨lb rfl, fun L hL => ?_⟩
    refine ⟨_, rfl, a, xs, rfl, (same_new hL).seq hS, for_it (walk_enum (xs := xs)) (fun i σ H1 => ∃ y4 y5 y6 y7, σ = [some (.ref a), some (.ref b), some (.int least), some (.ref L), y4, y5, y6, y7] ∧ Same H H1 ∧ ∃ vs, H1 L = some (.lst vs) ∧ TVs wV K H1 vs (mvs least ds cs i))
      ⟨_, _, _, _, rfl, same_new hL, [], upd_same, .nil⟩ ?_ ?_ ?_⟩
    · rintro i σ H1 _ ⟨_, _, _, _, _, sm, _⟩
      exact sm.seq hS
    · rintro i x σ H1 H2 hi ⟨y4, y5, y6, y7, rfl, sm, vs, eL, tv⟩ ⟨T, x1, x2, rfl, nT, rfl, f1, f2⟩
      cases f1
      have s2 := same_new (o := .tup [.int (i : Nat), x2]) nT
      have sm2 := sm.trans s2
      obtain ⟨d, ed, u, rfl, hU⟩ := dvs_get (sm2.dvs hD) f2
      have hi' := (List.getElem?_eq_some_iff.mp ed).1
      have dd := dbt_of ed
      have ml := mvs_len least ds cs i
      have vl := Paired.length tv
      obtain ⟨p0, p1⟩ := hpos d (List.mem_of_getElem? ed)
      have ea : ((d.1.toNat : Nat) : Int) = d.1 := Int.toNat_of_nonneg p0
      have eb : ((d.2.1.toNat : Nat) : Int) = d.2.1 := Int.toNat_of_nonneg p1
      refine ⟨T, _, rfl, SqT.of upd_same, rfl, _, _, rfl, _, _, rfl, ⟨u, _, rfl, hU, rfl, _, _, rfl, _, _, rfl, _, _, rfl, rfl, rfl, ?_⟩⟩
      have eL2 := s2 _ _ eL
      have tv2 := s2.tvs tv
      generalize upd H1 T (.tup [.int (i : Nat), .ref u]) = H3 at sm2 hU eL2 tv2 ⊢
      have ec : atI (cs.map V.int) ((i : Nat) : Int) = some (.int (cs.getD i 0)) := by
        refine atI_nat ?_
        rw [List.getElem?_map, List.getElem?_eq_getElem (by omega), List.getD_eq_getElem?_getD, List.getElem?_eq_getElem (by omega)]
        rfl
      have go : mvs least ds cs (i + 1) = mvs least ds cs i ++ mv2 least i d (cs.getD i 0) := by
        rw [mvs_add, dd]
      generalize cs.getD i 0 = c at ec go
      refine ⟨fun σ' H' => σ' = [some (.ref a), some (.ref b), some (.int least), some (.ref L), some (.int (i : Nat)), some (.int d.1), some (.int d.2.1), some (.int d.2.2)] ∧ Same H H' ∧ ∃ vs, H' L = some (.lst vs) ∧ TVs wV K H' vs (mvs least ds cs i ++ if least ≤ d.2.2 - c then [(d.1.toNat, d.2.1.toNat, 1, i)] else []), ?_, ?_⟩
      · refine ⟨_, rfl, _, rfl, _, rfl, b, _, _, _, rfl, rfl, sm2.seq hC, ec, _, _, rfl, rfl, _, rfl, _, _, rfl, rfl, _, rfl, ite2 (fun e => ?_) (fun e => ?_)⟩
        · have e' : least ≤ d.2.2 - c := of_decide_eq_true e
          rw [if_pos e']
          refine ⟨_, rfl, .inl ⟨rfl, _, SqL.of eL2⟩, ?_⟩
          refine ⟨_, rfl, _, rfl, _, rfl, szn (by show 4 ≤ 100000; decide), fun t ht => ?_⟩
          have s3 := same_new (o := .tup [.int d.1, .int d.2.1, .int 1, .int (i : Nat)]) ht
          refine ⟨L, _, _, rfl, rfl, s3 _ _ eL2, szl (by omega), rfl, same_mut (sm2.trans s3) hL, _, upd_same, ?_⟩
          refine tvs_mut (s3 _ _ eL2) (paired_app (s3.tvs tv2) (.cons ⟨t, rfl, SqT.of ?_⟩ .nil))
          rw [upd_same]
          show _ = some (HO.tup [.int ((d.1.toNat : Nat) : Int), .int ((d.2.1.toNat : Nat) : Int), .int 1, .int (i : Int)])
          rw [ea, eb]
        · rw [if_neg (fun z => e (decide_eq_true z)), List.append_nil]
          exact ⟨rfl, sm2, _, eL2, tv2⟩
      · rintro σ' H' ⟨rfl, s4, vs', eL4, tv4⟩
        have vl4 := Paired.length tv4
        rw [List.length_append] at vl4
        have il : (if least ≤ d.2.2 - c then [(d.1.toNat, d.2.1.toNat, (1 : Int), i)] else []).length ≤ 1 := by
          split
          · exact Nat.le_refl _
          · exact Nat.zero_le _
        refine ⟨_, rfl, _, rfl, b, _, _, _, rfl, rfl, s4.seq hC, ec, _, rfl, _, _, rfl, rfl, _, rfl, ite2 (fun e => ?_) (fun e => ?_)⟩
        · have e' : least ≤ c := of_decide_eq_true e
          refine ⟨_, rfl, .inl ⟨rfl, _, SqL.of eL4⟩, ?_⟩
          refine ⟨_, rfl, _, rfl, 1, rfl, _, rfl, szn (by show 4 ≤ 100000; decide), fun t ht => ?_⟩
          have s5 := same_new (o := .tup [.int d.2.1, .int d.1, .int (-1), .int (i : Nat)]) ht
          refine ⟨L, _, _, rfl, rfl, s5 _ _ eL4, szl (by omega), _, _, _, _, rfl, same_mut (s4.trans s5) hL, _, upd_same, ?_⟩
          rw [go]
          unfold mv2
          rw [if_pos e', ← List.append_assoc]
          refine tvs_mut (s5 _ _ eL4) (paired_app (s5.tvs tv4) (.cons ⟨t, rfl, SqT.of ?_⟩ .nil))
          rw [upd_same]
          show _ = some (HO.tup [.int ((d.2.1.toNat : Nat) : Int), .int ((d.1.toNat : Nat) : Int), .int (-1), .int (i : Int)])
          rw [ea, eb]
        · refine ⟨_, _, _, _, rfl, s4, _, eL4, ?_⟩
          rw [go]
          unfold mv2
          rw [if_neg (show ¬ least ≤ c from fun z => e (decide_eq_true z)), List.append_nil]
          exact tv4
    · rintro σ H1 ⟨y4, y5, y6, y7, rfl, sm, vs, eL, tv⟩
      rw [hxl] at tv
      exact ⟨_, rfl, q H1 L vs sm hL eL tv⟩

abbrev s_climb : Stmt := topS 19
theorem sc_climb : FnScope ["count", "ways", "heights", "before", "last", "raised", "_", "start", "end", "gain", "number", "house"] ["count", "ways"] (defScope s_climb) := ⟨rfl, rfl, rfl, by decide +kernel, rfl, by decide +kernel, by decide +kernel⟩
def spClimb (K : PySem.W.Frag) : Sp := fun vs H Q _ => ∃ (n : Int) (a : Addr) (xs : List V) (ws : List Way), vs = [.int n, .ref a] ∧ 1 ≤ n ∧ n ≤ 20 ∧ SqL K H a xs ∧ TVs wV K H xs ws ∧ ws.length ≤ 1000 ∧ (∀ w ∈ ws, w.1 < n.toNat ∧ w.2.1 < n.toNat) ∧
  ∀ (H' : Hp) (p h q : Addr) (hs : List Int) (ys : List V) (gs : List (Nat × Int)), Same H H' → SqT K H' p [.ref h, .ref q] → H h = none → H q = none → H' h = some (.lst (hs.map V.int)) → (hs.length : Int) = n → H' q = some (.lst ys) → TVs gV K H' ys gs → gs.length ≤ 100 →
    ((gs = [] ∧ ∀ w ∈ ws, hgt hs w.1 + w.2.2.1 ≤ hgt hs w.2.1) ∨ ∃ cs, Cyc ws cs ∧ gs = cs.map pairOf) → Q (.ref p) H'
theorem ok_climb (D : DefAt K mg "climb" s_climb) (B : Blt mg) (c_circle : Cal P w K mg base CX0 1 "circle" ["count", "before", "house"] (spCircle K)) : Cal P w K mg base CX0 2 "climb" ["count", "ways"] (spClimb K) := by
  refine D.ok sc_climb (fun _ _ _ _ _ _ us hl => match us, hl with | [_, _], _ => rfl) (fun vs H Q E h => ?_) (fun f cdv A outer s H vs Q E hr h => ?_)
  · obtain ⟨n, a, xs, ws, rfl, _⟩ := h
    rfl
  · obtain ⟨n, a, xs, ws, rfl, n1, nM, hS, hW, hwl, hwb, q⟩ := h
    refine ⟨_, (pss_cons (ps_set (i := 2) sc_climb.nd rfl (.inl rfl) (pe_op op_rep (pe_lst (pa_cons pe_int pa_nil)) (pv 0)))
      (pss_cons (ps_set (i := 3) sc_climb.nd rfl (.inl rfl) (pe_op op_rep (pe_lst (pa_cons pe_non pa_nil)) (pv 0)))
      (pss_cons (ps_set (i := 4) sc_climb.nd rfl (.inr rfl) (pe_op op_rep (pe_lst (pa_cons pe_non pa_nil)) (pv 0)))
      (pss_cons (ps_set (i := 5) sc_climb.nd rfl (.inl rfl) pe_non)
      (_root_.C8.pss_cut (ps_for PassesOwn.never rfl (pi_range1 (by rfl) B.range (pa_cons (pv 0) pa_nil)) (pg_name (i := 6) sc_climb.nd rfl (.inl rfl)) (pss_cons (ps_set (i := 5) sc_climb.nd rfl (.inl rfl) pe_non)
        (pss_cons (ps_for PassesOwn.never rfl (pi_list (pv 1)) (pg_tup rfl (pgs_cons (pg_name (i := 7) sc_climb.nd rfl (.inl rfl)) (pgs_cons (pg_name (i := 8) sc_climb.nd rfl (.inl rfl)) (pgs_cons (pg_name (i := 9) sc_climb.nd rfl (.inl rfl)) (pgs_cons (pg_name (i := 10) sc_climb.nd rfl (.inl rfl)) pgs_nil))))) (pss_one (ps_if (pt_cmpR op_gt (pe_op op_add (pe_ix (r := rIxL K) ix_list (pv 2) (pv 7) (fun _ _ => rfl)) (pv 9)) (pe_ix (r := rIxL K) ix_list (pv 2) (pv 8) (fun _ _ => rfl)) (nomark _)) (pss_cons (ps_asg (pe_op op_add (pe_ix (r := rIxL K) ix_list (pv 2) (pv 7) (fun _ _ => rfl)) (pv 9)) (pg_sub (pv 2) (pv 8) set_list))
            (pss_cons (ps_asg (pv 7) (pg_sub (pv 3) (pv 8) set_list))
            (pss_cons (ps_asg (pe_tup (pa_cons (pv 10) (pa_cons (pv 9) pa_nil))) (pg_sub (pv 4) (pv 8) set_list))
            (pss_one (ps_set (i := 5) sc_climb.nd rfl (.inl rfl) (pv 8)))))) pss_nil)))
        (pss_one (ps_if (pt_cmpR op_isN (pv 5) pe_non (nomark _)) (pss_one ps_break) pss_nil)))))
      (pss_cons (ps_if (pt_cmpR op_isN (pv 5) pe_non (nomark _)) (pss_one (ps_ret (pe_tup (pa_cons (pv 2) (pa_cons (pe_lst pa_nil) pa_nil))))) pss_nil)
      (pss_one (ps_ret (pe_tup (pa_cons (pv 2) (pa_cons (pe_lc (own := [("house", 11)]) (g := gName 11) rfl sc_climb.nd (pi_list (pe_cal c_circle (hr.mono (by decide)) (by rfl) pass0 (pa_cons (pv 0) (pa_cons (pv 3) (pa_cons (pv 5) pa_nil))))) (blkOk_by (N := ["count", "ways", "heights", "before", "last", "raised", "_", "start", "end", "gain", "number", "house"]) (sc := defScope s_climb) (by decide +kernel)) (fun _ _ _ _ _ => (pg_name (i := 11) sc_climb.nd rfl (.inl rfl))) (fun _ _ _ _ _ => pts_nil) (fun _ _ _ _ _ => (pe_ix (r := rIxL K) ix_list (pv 4) (pv 11) (fun _ _ => rfl)))) pa_nil))))))))))), ?_⟩
    have hxl := Paired.length hW
    refine ⟨szn (by show 1 ≤ 100000; decide), fun p1 hp1 => ⟨_, rfl, p1, n, _, rfl, rfl, upd_same, by omega, by omega, szn (by show 1 * n.toNat ≤ 100000; omega), fun Lh hLh => ?_⟩⟩
    have t1 := (same_new (o := .lst [.int 0]) hp1).trans (same_new (o := .lst (List.replicate n.toNat [V.int 0]).flatten) hLh)
    have hLh0 : H Lh = none := (same_new (o := .lst [.int 0]) hp1).free hLh
    have eh0 : (upd (upd H p1 (.lst [.int 0])) Lh (.lst (List.replicate n.toNat [V.int 0]).flatten)) Lh = some (.lst ((List.replicate n.toNat (0 : Int)).map V.int)) := by
      rw [upd_same, List.map_replicate, flat_rep]
    generalize upd (upd H p1 (.lst [.int 0])) Lh (.lst (List.replicate n.toNat [V.int 0]).flatten) = H1 at t1 eh0 ⊢
    refine ⟨szn (by show 1 ≤ 100000; decide), fun p2 hp2 => ⟨_, rfl, p2, n, _, rfl, rfl, upd_same, by omega, by omega, szn (by show 1 * n.toNat ≤ 100000; omega), fun Lb hLb => ?_⟩⟩
    have t2 := (same_new (o := .lst [.non]) hp2).trans (same_new (o := .lst (List.replicate n.toNat [V.non]).flatten) hLb)
    have hLb1 : H1 Lb = none := (same_new (o := .lst [.non]) hp2).free hLb
    have eb0 : (upd (upd H1 p2 (.lst [.non])) Lb (.lst (List.replicate n.toNat [V.non]).flatten)) Lb = some (.lst ((List.replicate n.toNat (none : Option Nat)).map bV)) := by
      rw [upd_same, List.map_replicate, flat_rep]
      rfl
    generalize upd (upd H1 p2 (.lst [.non])) Lb (.lst (List.replicate n.toNat [V.non]).flatten) = H2 at t2 eb0 ⊢
    refine ⟨szn (by show 1 ≤ 100000; decide), fun p3 hp3 => ⟨_, rfl, p3, n, _, rfl, rfl, upd_same, by omega, by omega, szn (by show 1 * n.toNat ≤ 100000; omega), fun Ll hLl => ?_⟩⟩
    have t3 := (same_new (o := .lst [.non]) hp3).trans (same_new (o := .lst (List.replicate n.toNat [V.non]).flatten) hLl)
    have hLl2 : H2 Ll = none := (same_new (o := .lst [.non]) hp3).free hLl
    have el0 : (upd (upd H2 p3 (.lst [.non])) Ll (.lst (List.replicate n.toNat [V.non]).flatten)) Ll = some (.lst (List.replicate n.toNat V.non)) := by
      rw [upd_same, flat_rep]
    generalize upd (upd H2 p3 (.lst [.non])) Ll (.lst (List.replicate n.toNat [V.non]).flatten) = H3 at t3 el0 ⊢
    have hLb0 : H Lb = none := t1.free hLb1
    have hLl0 : H Ll = none := (t1.trans t2).free hLl2
    have ne1 : Lh ≠ Lb := ne_of_none eh0 hLb1
    have ne2 : Lh ≠ Ll := ne_of_none (t2 _ _ eh0) hLl2
    have ne3 : Lb ≠ Ll := ne_of_none eb0 hLl2
    have C0 : ClH K H H3 Lh Lb Ll (List.replicate n.toNat 0) (List.replicate n.toNat none) (List.replicate n.toNat none) := ⟨(t1.trans t2).trans t3, t3 _ _ (t2 _ _ eh0), t3 _ _ eb0, _, el0, paired_rep (R := LV K H3) (a := none) rfl _⟩
    have T0 : Tn n.toNat ws 1 0 (List.replicate n.toNat 0) (List.replicate n.toNat none) (List.replicate n.toNat none) (fun _ => 0) none := Tn.start (by omega)
    -- behind the turns
    refine ⟨fun σ H4 => ∃ (h : List Int) (b : List (Option Nat)) (l : List (Option (Nat × Int))) (r : Nat → Nat) (up : Option Nat) (y6 y7 y8 y9 y10 : Option V), σ = [some (.int n), some (.ref a), some (.ref Lh), some (.ref Lb), some (.ref Ll), some (bV up), y6, y7, y8, y9, y10, none] ∧ ClH K H H4 Lh Lb Ll h b l ∧ h.length = n.toNat ∧
      ((up = none ∧ ∀ w ∈ ws, hgt h w.1 + w.2.2.1 ≤ hgt h w.2.1) ∨ ∃ v, up = some v ∧ Tn n.toNat ws n.toNat ws.length h b l r (some v)), ?_, ?_⟩
    · refine ⟨_, rfl, _, rfl, by omega, by omega, for_range (lo := 0) (n := n.toNat) (fun k σ H4 => ∃ (h : List Int) (b : List (Option Nat)) (l : List (Option (Nat × Int))) (r : Nat → Nat) (up : Option Nat) (y6 y7 y8 y9 y10 : Option V), σ = [some (.int n), some (.ref a), some (.ref Lh), some (.ref Lb), some (.ref Ll), some (bV up), y6, y7, y8, y9, y10, none] ∧ ClH K H H4 Lh Lb Ll h b l ∧
        Tn n.toNat ws (k + 1) 0 h b l r none ∧ (0 < k → ∃ v, up = some v ∧ Tn n.toNat ws k ws.length h b l r (some v)))
        ⟨_, _, _, _, none, _, _, _, _, _, rfl, C0, T0, fun h => absurd h (Nat.lt_irrefl 0)⟩ ?_ ?_⟩
      · rintro k σ H4 hk ⟨h, b, l, r, up, y6, y7, y8, y9, y10, rfl, C, T, _⟩
        refine ⟨_, rfl, a, rfl, ⟨xs, C.sm.seq hS⟩, for_list (xs := xs) (fun j σ H5 => ∃ (h : List Int) (b : List (Option Nat)) (l : List (Option (Nat × Int))) (r : Nat → Nat) (up : Option Nat) (y7 y8 y9 y10 : Option V), σ = [some (.int n), some (.ref a), some (.ref Lh), some (.ref Lb), some (.ref Ll), some (bV up), some (.int (0 + (k : Int))), y7, y8, y9, y10, none] ∧ ClH K H H5 Lh Lb Ll h b l ∧
          Tn n.toNat ws (k + 1) j h b l r up) ⟨h, b, l, r, none, _, _, _, _, rfl, C, T⟩ ?_ ?_ ?_⟩
        · rintro j σ H5 _ ⟨_, _, _, _, _, _, _, _, _, _, C, _⟩
          exact C.sm.seq hS
        · rintro j x σ H5 hx ⟨h, b, l, r, up, y7, y8, y9, y10, rfl, C, T⟩
          obtain ⟨wy, ew, u, rfl, hU⟩ := paired_get (C.sm.tvs hW) hx
          obtain ⟨u0, v0, g0, k0⟩ := wy
          obtain ⟨hu, hv⟩ := hwb _ (List.mem_of_getElem? ew)
          have hu : u0 < n.toNat := hu
          have hv : v0 < n.toNat := hv
          have hhl := T.cl.hl
          have hbl := T.cl.bl
          have hll := T.cl.ll
          refine ⟨u, _, rfl, hU, rfl, _, _, rfl, _, _, rfl, _, _, rfl, _, _, rfl, rfl, ?_⟩
          have gu : atI (h.map V.int) ((u0 : Nat) : Int) = some (.int (hgt h u0)) := hgt_at (by omega)
          have gv : atI (h.map V.int) ((v0 : Nat) : Int) = some (.int (hgt h v0)) := hgt_at (by omega)
          refine ⟨_, rfl, _, rfl, Lh, _, _, _, rfl, rfl, SqL.of C.eh, gu, _, rfl, _, _, rfl, rfl, _, rfl, _, rfl, Lh, _, _, _, rfl, rfl, SqL.of C.eh, gv, _, _, rfl, rfl, _, rfl, ite2 (fun e => ?_) (fun e => ?_)⟩
          · have e : hgt h v0 < hgt h u0 + g0 := of_decide_eq_true e
            obtain ⟨ls, el, pl⟩ := C.el
            have lsl := Paired.length pl
            have T2 := T.raise_ (by omega) ew hu hv e
            refine ⟨_, rfl, _, rfl, Lh, _, _, _, rfl, rfl, SqL.of C.eh, gu, _, rfl, _, _, rfl, rfl, _, rfl, _, rfl, Lh, _, _, _, rfl, rfl, C.eh, ix_nat (by rw [List.length_map]; omega), ?_⟩
            refine ⟨_, rfl, _, rfl, _, rfl, Lb, _, _, _, rfl, rfl, by rw [upd_ne ne1.symm]; exact C.eb, ix_nat (by rw [List.length_map]; omega), ?_⟩
            refine ⟨_, rfl, _, rfl, szn (by show 2 ≤ 100000; decide), fun t ht => ?_⟩
            refine ⟨_, rfl, _, rfl, Ll, ls, _, _, rfl, rfl, ?_, ix_nat (by omega), ?_⟩
            · rw [upd_ne (ne_of_none (by rw [upd_ne ne3.symm, upd_ne ne2.symm]; exact el) ht), upd_ne ne3.symm, upd_ne ne2.symm]
              exact el
            · exact ⟨_, rfl, _, _, _, _, some v0, _, _, _, _, rfl, C.step el pl ne1 ne2 ne3 hLh0 hLb0 hLl0 ht, T2⟩
          · have e : hgt h u0 + g0 ≤ hgt h v0 := by
              have z : ¬ hgt h v0 < hgt h u0 + g0 := of_decide_eq_false (Bool.eq_false_iff.mpr e)
              omega
            exact ⟨h, b, l, r, up, _, _, _, _, rfl, C, T.skip ew e⟩
        · rintro σ H5 ⟨h, b, l, r, up, y7, y8, y9, y10, rfl, C, T⟩
          rw [hxl] at T
          refine ⟨_, rfl, rfl, _, rfl, ite2 (fun e => ?_) (fun e => ?_)⟩
          · have eu : up = none := by
              cases up with
              | none => rfl
              | some v => exact nomatch of_decide_eq_true e
            subst eu
            exact ⟨h, b, l, r, none, _, _, _, _, _, rfl, C, T.cl.hl, .inl ⟨rfl, T.still⟩⟩
          · cases up with
            | none => exact absurd rfl e
            | some v => exact ⟨h, b, l, r, some v, _, _, _, _, _, rfl, C, T.next, fun _ => ⟨v, rfl, T⟩⟩
      · rintro σ H4 ⟨h, b, l, r, up, y6, y7, y8, y9, y10, rfl, C, T, hup⟩
        obtain ⟨v, rfl, Tv⟩ := hup (by omega)
        exact ⟨h, b, l, r, some v, _, _, _, _, _, rfl, C, T.cl.hl, .inr ⟨v, rfl, Tv⟩⟩
    · rintro σ H4 ⟨h, b, l, r, up, y6, y7, y8, y9, y10, rfl, C, hl, alt⟩
      refine ⟨_, rfl, rfl, _, rfl, ite2 (fun e => ?_) (fun e => ?_)⟩
      · have eu : up = none := by
          cases up with
          | none => rfl
          | some v => exact nomatch of_decide_eq_true e
        subst eu
        have still : ∀ w ∈ ws, hgt h w.1 + w.2.2.1 ≤ hgt h w.2.1 := by
          rcases alt with ⟨_, z⟩ | ⟨v, z, _⟩
          · exact z
          · cases z
        refine ⟨_, rfl, lb rfl, fun q' hq' => ⟨szn (by show 2 ≤ 100000; decide), fun p hp => ?_⟩⟩
        have s1 := same_new (o := .lst []) hq'
        have s2 := s1.trans (same_new (o := .tup [.ref Lh, .ref q']) hp)
        refine q _ p Lh q' h [] [] (C.sm.trans s2) (SqT.of upd_same) hLh0 (C.sm.free hq') (s2 _ _ C.eh) (by omega) ?_ .nil (Nat.zero_le _) (.inl ⟨rfl, still⟩)
        rw [upd_ne (ne_of_none upd_same hp), upd_same]
      · cases up with
        | none => exact absurd rfl e
        | some v =>
          have T : Tn n.toNat ws n.toNat ws.length h b l r (some v) := by
            rcases alt with ⟨z, _⟩ | ⟨v', z, T⟩
            · cases z
            · cases z
              exact T
          obtain ⟨c, m, hWk, R, hm⟩ := T.circle hwb
          have Cy := T.cl.cyc R
          obtain ⟨ls, el, pl⟩ := C.el
          have hll := T.cl.ll
          have lsl := Paired.length pl
          refine ⟨_, rfl, _, rfl, _, rfl, _, rfl, n, Lb, v, b, c, m, rfl, by omega, nM, SqL.of C.eb, hWk, R, by omega, fun H5 p2 s5 hp2 ep2 => ?_⟩
          have mem : ∀ x, x ∈ (rnd (nxB b) c m).reverse → x < n.toNat ∧ ∃ q, l.getD x none = some q := fun x hx => by
            obtain ⟨j, hj⟩ := List.mem_iff_getElem?.mp (List.mem_reverse.mp hx)
            obtain ⟨h1, rfl⟩ := rnd_get hj
            obtain ⟨q, h2, h3, _⟩ := T.cl.edge _ _ (R.next h1)
            exact ⟨(hwb _ h3).2, q, h2⟩
          have rl : (rnd (nxB b) c m).reverse.length = m := by rw [List.length_reverse, rnd_len]
          generalize (rnd (nxB b) c m).reverse = rs at ep2 mem rl Cy
          refine ⟨p2, rfl, ⟨_, SqL.of ep2⟩, fun L hL => lc_list (xs := idxV rs) (fun i H6 => Same H5 H6 ∧ H6 L = some (.lst ((rs.take i).map fun x => ls.getD x .non))) ⟨same_new hL, upd_same⟩ ?_ ?_ ?_⟩
          · rintro i H6 _ ⟨s6, _⟩
            exact SqL.of (s6 _ _ ep2)
          · rintro i x H6 hx ⟨s6, eL⟩
            obtain ⟨y, ey, rfl⟩ := idxV_get hx
            have hy := (mem y (List.mem_of_getElem? ey)).1
            have hlt := (List.getElem?_eq_some_iff.mp ey).1
            have g : atI ls ((y : Nat) : Int) = some (ls.getD y .non) := by
              refine atI_nat ?_
              rw [List.getD_eq_getElem?_getD, List.getElem?_eq_getElem (by omega)]
              rfl
            refine ⟨rfl, ?_⟩
            refine ⟨_, rfl, _, rfl, Ll, _, _, _, rfl, rfl, SqL.of (s6 _ _ (s5 _ _ el)), g, _, eL, szl ?_, same_mut s6 hL, ?_⟩
            · rw [List.length_map, List.length_take]
              omega
            · rw [upd_same, List.take_add_one, ey, List.map_append]
              rfl
          · rintro H6 ⟨s6, eL⟩
            rw [idxV_len, List.take_length] at eL
            have s56 := s5.trans s6
            refine ⟨szn (by show 2 ≤ 100000; decide), fun p hp => ?_⟩
            have s7 := same_new (o := .tup [.ref Lh, .ref L]) hp
            refine q _ p Lh L h _ (rs.map (lsL l)) (C.sm.trans (s56.trans s7)) (SqT.of upd_same) hLh0 ((C.sm.trans s5).free hL) (s7 _ _ (s56 _ _ C.eh)) (by omega) (s7 _ _ eL) ?_ (by rw [List.length_map]; omega) (.inr ⟨_, Cy, ?_⟩)
            · refine paired_map fun x hx => ?_
              obtain ⟨hx1, q, hq⟩ := mem x hx
              have hl2 : l[x]? = some (some q) := by
                rw [List.getD_eq_getElem?_getD] at hq
                rw [List.getElem?_eq_getElem (by omega)] at hq ⊢
                exact congrArg some hq
              obtain ⟨v', ev, hv'⟩ := paired_get' pl hl2
              have e1 : ls.getD x .non = v' := by
                rw [List.getD_eq_getElem?_getD, ev]
                rfl
              have e2 : lsL l x = q := by
                unfold lsL
                rw [hq]
                rfl
              rw [e1, e2]
              exact (s56.trans s7).tv (show TV gV K H4 v' q from hv')
            · rw [List.map_map]
              rfl

abbrev s_changed : Stmt := topS 20
theorem sc_changed : FnScope ["debts", "cut", "gaining", "amount", "told", "number", "gain"] ["debts", "cut", "gaining"] (defScope s_changed) := ⟨rfl, rfl, rfl, by decide +kernel, rfl, by decide +kernel, by decide +kernel⟩
def spChanged (K : PySem.W.Frag) : Sp := fun vs H Q _ => ∃ (a b g : Addr) (ds : List Debt) (cs : List Int) (ys : List V) (gs : List (Nat × Int)), vs = [.ref a, .ref b, .ref g] ∧ DL K H a ds ∧ SqL K H b (cs.map V.int) ∧ IsCut ds cs ∧ Amts ds ∧ ds.length ≤ 100 ∧
  SqL K H g ys ∧ TVs gV K H ys gs ∧ gs ≠ [] ∧ gs.length ≤ 100 ∧ (∀ q ∈ gs, q.1 < ds.length ∧ (q.2 = 1 ∨ q.2 = -1)) ∧
  ∀ (H' : Hp) (p : Addr) (m : Int), Same H H' → H p = none → H' p = some (.lst ((chg m cs gs).map V.int)) → (∃ q ∈ gs, m = roomAt ds cs q) → (∀ q ∈ gs, m ≤ roomAt ds cs q) → Q (.ref p) H'
theorem ok_changed (D : DefAt K mg "changed" s_changed) (B : Blt mg) : Cal P w K mg base CX0 1 "changed" ["debts", "cut", "gaining"] (spChanged K) := by
  refine D.ok sc_changed (fun _ _ _ _ _ _ us hl => match us, hl with | [_, _, _], _ => rfl) (fun vs H Q E h => ?_) (fun f cdv A outer s H vs Q E hr h => ?_)
  · obtain ⟨a, b, g, ds, cs, ys, gs, rfl, _⟩ := h
    rfl
  · obtain ⟨a, b, g, ds, cs, ys, gs, rfl, ⟨xs, hS, hD⟩, hC, hc, hamt, hlen, hG, hT, hne, hgl, hgq, q⟩ := h
    refine ⟨_, (pss_cons (ps_set (i := 3) sc_changed.nd rfl (.inl rfl) (pe_callB (r := rMin K) (cr_min rfl) (by rfl) B.min (by decide +kernel) (pa_cons (pe_lc (own := [("number", 5), ("gain", 6)]) (g := gTup K 2 (gCons (gName 5) (gCons (gName 6) gNil))) rfl sc_changed.nd (pi_list (pv 2)) (blkOk_by (N := ["debts", "cut", "gaining", "amount", "told", "number", "gain"]) (sc := defScope s_changed) (by decide +kernel)) (fun _ _ _ _ _ => (pg_tup rfl (pgs_cons (pg_name (i := 5) sc_changed.nd rfl (.inl rfl)) (pgs_cons (pg_name (i := 6) sc_changed.nd rfl (.inl rfl)) pgs_nil)))) (fun _ _ _ _ _ => pts_nil) (fun _ _ _ _ _ => (pe_ifExp (pt_cmpR op_gt (pv 6) pe_int (nomark _)) (pe_op op_sub (pe_ix (r := rIxT K) ix_tup (pe_ix (r := rIxL K) ix_list (pv 0) (pv 5) (fun _ _ => rfl)) pe_int (fun _ _ => rfl)) (pe_ix (r := rIxL K) ix_list (pv 1) (pv 5) (fun _ _ => rfl))) (pe_ix (r := rIxL K) ix_list (pv 1) (pv 5) (fun _ _ => rfl))))) pa_nil)))
      (pss_cons (ps_set (i := 4) sc_changed.nd rfl (.inl rfl) (pe_callTy (r := rListQ K) call_list_of (by rfl) B.list (by decide +kernel) (pa_cons (pv 1) pa_nil)))
      (pss_cons (ps_for PassesOwn.never rfl (pi_list (pv 2)) (pg_tup rfl (pgs_cons (pg_name (i := 5) sc_changed.nd rfl (.inl rfl)) (pgs_cons (pg_name (i := 6) sc_changed.nd rfl (.inl rfl)) pgs_nil))) (pss_one (ps_augS (pv 4) (pv 5) get_list (pe_op op_mul (pv 6) (pv 3)) ip_add set_list)))
      (pss_one (ps_ret (pv 4)))))), ?_⟩
    have hxl := dvs_len hD
    have hyl := Paired.length hT
    have hcl := hc.len
    have ec : ∀ {i : Nat}, i < ds.length → atI (cs.map V.int) ((i : Nat) : Int) = some (.int (cs.getD i 0)) := fun {i} hi => by
      refine atI_nat ?_
      rw [List.getElem?_map, List.getElem?_eq_getElem (by omega), List.getD_eq_getElem?_getD, List.getElem?_eq_getElem (by omega)]
      rfl
    have room_b : ∀ q ∈ gs, 0 ≤ roomAt ds cs q ∧ roomAt ds cs q ≤ 1000000000 := fun q hq => by
      have h1 := (hgq q hq).1
      have z := hc.at_ q.1 _ (cs.getD q.1 0) (dbt_at h1) (by
        rw [List.getD_eq_getElem?_getD, List.getElem?_eq_getElem (by omega)]
        rfl)
      have z2 := hamt _ (List.mem_of_getElem? (dbt_at h1))
      unfold roomAt
      split <;> omega
    refine ⟨_, rfl, g, rfl, ⟨ys, hG⟩, fun M hM => lc_list (xs := ys) (fun i H1 => Same H H1 ∧ H1 M = some (.lst (((gs.take i).map (roomAt ds cs)).map V.int))) ⟨same_new hM, upd_same⟩ ?_ ?_ ?_⟩
    · rintro i H1 _ ⟨sm, _⟩
      exact sm.seq hG
    · rintro i x H1 hx ⟨sm, eM⟩
      obtain ⟨q, eq, u, rfl, hU⟩ := paired_get (sm.tvs hT) hx
      obtain ⟨q1, q2⟩ := hgq q (List.mem_of_getElem? eq)
      have hlt := (List.getElem?_eq_some_iff.mp eq).1
      obtain ⟨v, ev, t, rfl, hV⟩ := dvs_get' (sm.dvs hD) (dbt_at q1)
      have step : (((gs.take (i + 1)).map (roomAt ds cs)).map V.int) = ((gs.take i).map (roomAt ds cs)).map V.int ++ [V.int (roomAt ds cs q)] := by
        rw [List.take_add_one, eq, List.map_append, List.map_append]
        rfl
      have lz : (((gs.take i).map (roomAt ds cs)).map V.int).length < 100000 := by
        rw [List.length_map, List.length_map, List.length_take]
        omega
      refine ⟨u, _, rfl, hU, rfl, _, _, rfl, _, _, rfl, rfl, rfl, ?_⟩
      refine ⟨_, rfl, _, _, rfl, rfl, _, rfl, ite2 (fun e => ?_) (fun e => ?_)⟩
      · have e : 0 < q.2 := of_decide_eq_true e
        have er : roomAt ds cs q = (dbt ds q.1).2.2 - cs.getD q.1 0 := by
          unfold roomAt
          rw [if_pos e]
        refine ⟨_, rfl, _, rfl, a, xs, _, _, rfl, rfl, sm.seq hS, atI_nat ev, t, _, 2, _, rfl, rfl, hV, rfl, _, rfl, _, rfl, b, _, _, _, rfl, rfl, sm.seq hC, ec q1, _, _, rfl, rfl, _, eM, szl lz, same_mut sm hM, ?_⟩
        rw [upd_same, step, er]
      · have e : ¬ 0 < q.2 := of_decide_eq_false (Bool.eq_false_iff.mpr e)
        have er : roomAt ds cs q = cs.getD q.1 0 := by
          unfold roomAt
          rw [if_neg e]
        refine ⟨_, rfl, _, rfl, b, _, _, _, rfl, rfl, sm.seq hC, ec q1, _, eM, szl lz, same_mut sm hM, ?_⟩
        rw [upd_same, step, er]
    · rintro H1 ⟨sm, eM⟩
      rw [hyl, List.take_length] at eM
      have pos : 0 < (gs.map (roomAt ds cs)).length := by
        rw [List.length_map]
        exact List.length_pos_iff.mpr hne
      refine ⟨M, _, rfl, SqL.of eM, pos, fun m hm hle => ?_⟩
      obtain ⟨q0, hq0, em⟩ := List.mem_map.mp hm
      have mle : ∀ q ∈ gs, m ≤ roomAt ds cs q := fun q hq => hle _ (List.mem_map_of_mem hq)
      have mb := room_b q0 hq0
      rw [em] at mb
      refine ⟨_, rfl, b, _, rfl, .inl (sm.seq hC), fun L hL => ?_⟩
      have s2 := sm.trans (same_new (o := .lst (cs.map V.int)) hL)
      have hLH : H L = none := sm.free hL
      have eL0 : (upd H1 L (.lst (cs.map V.int))) L = some (.lst (cs.map V.int)) := upd_same
      generalize upd H1 L (.lst (cs.map V.int)) = H2 at s2 eL0 ⊢
      refine ⟨_, rfl, g, rfl, ⟨ys, s2.seq hG⟩, for_list (xs := ys) (fun i σ H3 => ∃ y5 y6, σ = [some (.ref a), some (.ref b), some (.ref g), some (.int m), some (.ref L), y5, y6] ∧ Same H H3 ∧ H3 L = some (.lst ((chg m cs (gs.take i)).map V.int))) ⟨_, _, rfl, s2, eL0⟩ ?_ ?_ ?_⟩
      · rintro i σ H3 _ ⟨_, _, _, s3, _⟩
        exact s3.seq hG
      · rintro i x σ H3 hx ⟨y5, y6, rfl, s3, eL⟩
        obtain ⟨q, eq, u, rfl, hU⟩ := paired_get (s3.tvs hT) hx
        obtain ⟨q1, q2⟩ := hgq q (List.mem_of_getElem? eq)
        have cl := chg_len m (gs.take i) cs
        have lt : q.1 < (chg m cs (gs.take i)).length := by omega
        have at1 : atI ((chg m cs (gs.take i)).map V.int) ((q.1 : Nat) : Int) = some (.int ((chg m cs (gs.take i)).getD q.1 0)) := by
          refine atI_nat ?_
          rw [List.getElem?_map, List.getElem?_eq_getElem lt, List.getD_eq_getElem?_getD, List.getElem?_eq_getElem lt]
          rfl
        refine ⟨u, _, rfl, hU, rfl, _, _, rfl, _, _, rfl, rfl, ?_⟩
        refine ⟨_, rfl, _, rfl, L, _, _, _, rfl, rfl, SqL.of eL, at1, _, rfl, _, rfl, _, _, rfl, rfl, .inl ?_, _, _, rfl, rfl, L, _, _, _, rfl, rfl, eL, ix_int (by omega) (by omega), ?_⟩
        · rcases q2 with e | e <;> rw [e] <;> decide
        · refine ⟨_, _, rfl, same_mut s3 hLH, ?_⟩
          rw [upd_same, List.take_add_one, eq]
          show _ = some (HO.lst ((chg m cs (gs.take i ++ [q])).map V.int))
          rw [chg_add, Int.toNat_natCast, set_int]
      · rintro σ H3 ⟨y5, y6, rfl, s3, eL⟩
        rw [hyl, List.take_length] at eL
        exact ⟨_, rfl, q H3 L m s3 hLH eL ⟨q0, hq0, em.symm⟩ mle⟩

abbrev s_best : Stmt := topS 21
theorem sc_best : FnScope ["count", "debts", "cut", "least", "_", "gaining", "debt"] ["count", "debts"] (defScope s_best) := ⟨rfl, rfl, rfl, by decide +kernel, rfl, by decide +kernel, by decide +kernel⟩
theorem zeros_cut {ds : List Debt} (h : ∀ d ∈ ds, 0 ≤ d.2.2) : IsCut ds (List.replicate ds.length 0) where
  len := List.length_replicate
  at_ := fun i d c e1 e2 => by
    rw [List.getElem?_replicate] at e2
    split at e2
    · cases e2
      exact ⟨Int.le_refl _, h d (List.mem_of_getElem? e1)⟩
    · cases e2
theorem zeros_even (ds : List Debt) : EvenC ds (List.replicate ds.length 0) := fun x => by
  have zero : ∀ (f : Debt → Int) (l : List Debt), sumBy f x l (List.replicate l.length 0) = 0 := by
    intro f l
    induction l with
    | nil => rfl
    | cons d l ih =>
      unfold sumBy at ih ⊢
      rw [List.length_cons, List.replicate_succ, List.zip_cons_cons, List.map_cons, List.sum_cons, ih]
      dsimp only
      split <;> rfl
  rw [zero, zero]
theorem isCut_sum : ∀ {ds : List Debt} {cs : List Int}, IsCut ds cs → cs.sum ≤ (ds.map fun d => d.2.2).sum
  | [], [], _ => Int.le_refl _
  | [], _ :: _, h => by cases h.len
  | _ :: _, [], h => by cases h.len
  | d :: ds, c :: cs, h => by
    have ih := isCut_sum (ds := ds) (cs := cs) ⟨by simpa using h.len, fun i d c e1 e2 => h.at_ (i + 1) d c e1 e2⟩
    have z := h.at_ 0 d c rfl rfl
    rw [List.sum_cons, List.map_cons, List.sum_cons]
    omega
def spBest (K : PySem.W.Frag) : Sp := fun vs H Q _ => ∃ (n : Int) (a : Addr) (ds : List Debt), vs = [.int n, .ref a] ∧ 1 ≤ n ∧ n ≤ 20 ∧ Goods n ds ∧ DL K H a ds ∧ ds.length ≤ 60 ∧
  ∀ (H' : Hp) (p : Addr) (cs : List Int), Same H H' → H p = none → H' p = some (.lst (cs.map V.int)) → IsCut ds cs → EvenC ds cs → (∃ pr, Shows pr ds cs) → Q (.ref p) H'
theorem ok_best (D : DefAt K mg "best" s_best) (B : Blt mg) (c_moves : Cal P w K mg base CX0 1 "moves" ["debts", "cut", "least"] (spMoves K)) (c_climb : Cal P w K mg base CX0 2 "climb" ["count", "ways"] (spClimb K)) (c_changed : Cal P w K mg base CX0 1 "changed" ["debts", "cut", "gaining"] (spChanged K)) :
    Cal P w K mg base CX0 3 "best" ["count", "debts"] (spBest K) := by
  refine D.ok sc_best (fun _ _ _ _ _ _ us hl => match us, hl with | [_, _], _ => rfl) (fun vs H Q E h => ?_) (fun f cdv A outer s H vs Q E hr h => ?_)
  · obtain ⟨n, a, ds, rfl, _⟩ := h
    rfl
  · obtain ⟨n, a, ds, rfl, n1, nM, hg, ⟨xs, hS, hD⟩, hlen, q⟩ := h
    refine ⟨_, (pss_cons (ps_set (i := 2) sc_best.nd rfl (.inl rfl) (pe_op op_rep (pe_lst (pa_cons pe_int pa_nil)) (pe_callB (r := rLenQ K) call_len_seq (by rfl) B.len (by decide +kernel) (pa_cons (pv 1) pa_nil))))
      (_root_.C8.pss_cut (ps_set (i := 3) sc_best.nd rfl (.inl rfl) (pe_callBK (r := rMaxDf K) (cr_maxDf rfl) (by rfl) B.max (by decide +kernel) (pa_cons (pe_lc (own := [("debt", 6)]) (g := gName 6) rfl sc_best.nd (pi_list (pv 1)) (blkOk_by (N := ["count", "debts", "cut", "least", "_", "gaining", "debt"]) (sc := defScope s_best) (by decide +kernel)) (fun _ _ _ _ _ => (pg_name (i := 6) sc_best.nd rfl (.inl rfl))) (fun _ _ _ _ _ => pts_nil) (fun _ _ _ _ _ => (pe_ix (r := rIxT K) ix_tup (pv 6) pe_int (fun _ _ => rfl)))) pa_nil) (pk_cons pe_int pk_nil)))
      (pss_cons (ps_while PassesOwn.never (pt_cmpR op_gt (pv 3) pe_int (nomark _)) (pss_cons (ps_asg (pe_cal c_climb (hr.mono (by decide)) (by rfl) pass0 (pa_cons (pv 0) (pa_cons (pe_cal c_moves (hr.mono (by decide)) (by rfl) pass0 (pa_cons (pv 1) (pa_cons (pv 2) (pa_cons (pv 3) pa_nil)))) pa_nil))) (pg_tup rfl (pgs_cons (pg_name (i := 4) sc_best.nd rfl (.inl rfl)) (pgs_cons (pg_name (i := 5) sc_best.nd rfl (.inl rfl)) pgs_nil))))
        (pss_one (ps_if (pt_truth (pv 5) (by intro _; rfl)) (pss_one (ps_set (i := 2) sc_best.nd rfl (.inl rfl) (pe_cal c_changed (hr.mono (by decide)) (by rfl) pass0 (pa_cons (pv 1) (pa_cons (pv 2) (pa_cons (pv 5) pa_nil)))))) (pss_one (ps_aug (i := 3) sc_best.nd rfl (.inl rfl) pe_int iop_fdiv))))))
      (pss_one (ps_ret (pv 2)))))), ?_⟩
    have hxl := dvs_len hD
    have hin : ∀ d ∈ ds, InB n d := fun d hd => (hg d hd).inb
    have hamt : Amts ds := fun d hd => ⟨by have := (hg d hd).m1; omega, (hg d hd).mM⟩
    refine ⟨szn (by show 1 ≤ 100000; decide), fun p1 hp1 => ⟨_, rfl, a, xs, rfl, .inl ((same_new hp1).seq hS), p1, (xs.length : Int), _, rfl, rfl, upd_same, by omega, by omega, szn (by show 1 * (xs.length : Int).toNat ≤ 100000; omega), fun L hL => ?_⟩⟩
    have s1 := (same_new (o := .lst [.int 0]) hp1).trans (same_new (o := .lst (List.replicate (xs.length : Int).toNat [V.int 0]).flatten) hL)
    have hL0 : H L = none := (same_new (o := .lst [.int 0]) hp1).free hL
    have eL0 : (upd (upd H p1 (.lst [.int 0])) L (.lst (List.replicate (xs.length : Int).toNat [V.int 0]).flatten)) L = some (.lst ((List.replicate ds.length (0 : Int)).map V.int)) := by
      rw [upd_same, List.map_replicate, flat_rep, hxl, Int.toNat_natCast]
    generalize upd (upd H p1 (.lst [.int 0])) L (.lst (List.replicate (xs.length : Int).toNat [V.int 0]).flatten) = H1 at s1 eL0 ⊢
    -- the greatest amount
    refine ⟨fun σ' H' => ∃ l0 : Int, σ' = [some (.int n), some (.ref a), some (.ref L), some (.int l0), none, none, none] ∧ 0 ≤ l0 ∧ (l0 = 0 → ds = []) ∧ Same H H' ∧ H' L = some (.lst ((List.replicate ds.length (0 : Int)).map V.int)), ?_, ?_⟩
    · refine ⟨_, rfl, a, rfl, ⟨xs, s1.seq hS⟩, fun M hM => lc_list (xs := xs) (fun i H2 => Same H1 H2 ∧ H2 M = some (.lst (((ds.take i).map fun d => d.2.2).map V.int))) ⟨same_new hM, upd_same⟩ ?_ ?_ ?_⟩
      · rintro i H2 _ ⟨sm, _⟩
        exact (s1.trans sm).seq hS
      · rintro i x H2 hx ⟨sm, eM⟩
        obtain ⟨d, ed, t, rfl, hT⟩ := dvs_get ((s1.trans sm).dvs hD) hx
        refine ⟨rfl, ?_⟩
        refine ⟨_, rfl, t, _, 2, .int d.2.2, rfl, rfl, hT, rfl, _, eM, szl ?_, same_mut sm hM, ?_⟩
        · rw [List.length_map, List.length_map, List.length_take]
          omega
        · rw [upd_same, List.take_add_one, ed, List.map_append, List.map_append]
          rfl
      rintro H2 ⟨sm, eM⟩
      rw [hxl, List.take_length] at eM
      refine ⟨M, _, 0, rfl, rfl, SqL.of eM, fun e => ?_, fun m hm hle => ?_⟩
      · exact ⟨0, rfl, Int.le_refl _, fun _ => List.map_eq_nil_iff.mp e, s1.trans sm, sm _ _ eL0⟩
      · obtain ⟨d, hd, rfl⟩ := List.mem_map.mp hm
        have m1 := (hg d hd).m1
        exact ⟨d.2.2, rfl, by omega, fun z => by omega, s1.trans sm, sm _ _ eL0⟩
    rintro σ' H2 ⟨l0, rfl, l00, lnil, s2, eL2⟩
    have start : l0 = 0 → ∃ pr, Shows pr ds (List.replicate ds.length 0) := fun z => by
      rw [lnil z]
      exact ⟨fun _ => 0, fun i d c e => by simp at e⟩
    refine ⟨fun k σ H3 => ∃ (cs : List Int) (l : Int) (C : Addr) (y4 y5 : Option V), k = ((ds.map fun d => d.2.2).sum - cs.sum).toNat + l.toNat ∧ σ = [some (.int n), some (.ref a), some (.ref C), some (.int l), y4, y5, none] ∧ Same H H3 ∧ H C = none ∧ H3 C = some (.lst (cs.map V.int)) ∧
      IsCut ds cs ∧ EvenC ds cs ∧ 0 ≤ l ∧ (l = 0 → ∃ pr, Shows pr ds cs), ⟨_, _, l0, L, none, none, rfl, rfl, s2, hL0, eL2, zeros_cut fun d hd => (hamt d hd).1, zeros_even ds, l00, start⟩, ?_⟩
    rintro k σ H3 ⟨cs, l, C, y4, y5, rfl, rfl, s3, hC0, eC, hc, he, hl0, hsh⟩
    have csum := isCut_sum hc
    refine ⟨_, rfl, _, _, rfl, rfl, _, rfl, ite2 (fun e => ?_) (fun e => ?_)⟩
    · have lpos : 0 < l := of_decide_eq_true e
      refine ⟨_, fun _ _ h => h, ?_⟩
      have dl3 : DL K H3 a ds := ⟨xs, s3.seq hS, s3.dvs hD⟩
      refine ⟨_, rfl, _, rfl, _, rfl, _, rfl, a, C, ds, cs, l, rfl, dl3, SqL.of eC, hc.len, by omega, fun d hd => ⟨(hin d hd).a0, (hin d hd).b0⟩, fun H4 p vs s4 hp ep tv => ?_⟩
      have ml := mvs_len l ds cs ds.length
      refine ⟨n, p, vs, _, rfl, n1, nM, SqL.of ep, tv, by omega, mvs_in hin, fun H5 pt h g hs ys gs s5 ht hh hgn eh hlh eg tg gl alt => ?_⟩
      have s35 := s4.trans s5
      refine ⟨pt, _, rfl, ht, rfl, _, _, rfl, _, _, rfl, rfl, ?_⟩
      have yl := Paired.length tg
      refine ⟨_, rfl, !ys.isEmpty, .inl ⟨ys, SqL.of eg, rfl⟩, ?_⟩
      rcases alt with ⟨rfl, still⟩ | ⟨ws, Cy, rfl⟩
      · cases tg
        refine ⟨_, rfl, _, _, rfl, rfl, ⟨by decide, by decide⟩, _, by omega, cs, l / 2, C, _, _, rfl, rfl, s3.trans s35, hC0, s35 _ _ eC, hc, he, by omega, fun z => ?_⟩
        have l1 : l = 1 := by omega
        rw [l1] at still
        exact ⟨_, shows_of_still hin hc still⟩
      · have ye : ys.isEmpty = false := by
          cases ys with
          | nil => exact absurd (List.map_eq_nil_iff.mp (List.eq_nil_of_length_eq_zero yl.symm)) Cy.ne
          | cons _ _ => rfl
        rw [ye]
        have gne : ws.map pairOf ≠ [] := fun z => Cy.ne (List.map_eq_nil_iff.mp z)
        refine ⟨_, rfl, _, rfl, _, rfl, a, C, g, ds, cs, ys, _, rfl, s35.dl dl3, s35.seq (SqL.of eC), hc, hamt, by omega, SqL.of eg, tg, gne, gl, Cy.pairs, fun H6 p6 m s6 hp6 ep6 hm hle => ?_⟩
        obtain ⟨bc, be, bw⟩ := Cy.better hin hc he (by have := Cy.least_of hm; omega) fun w hw => hle _ (List.mem_map_of_mem hw)
        have bsum := isCut_sum bc
        have s36 := s3.trans (s35.trans s6)
        exact ⟨_, by omega, chg m cs (ws.map pairOf), l, p6, _, _, rfl, rfl, s36, (s3.trans s35).free hp6, ep6, bc, be, hl0, fun z => absurd z (by omega)⟩
    · have l00 : l = 0 := by
        have z : ¬ 0 < l := of_decide_eq_false (Bool.eq_false_iff.mpr e)
        omega
      exact ⟨_, rfl, q H3 C cs s3 hC0 eC hc he (hsh l00)⟩

abbrev s_Day___init__ : Stmt := inClass (topS 23) 0
theorem sc_Day___init__ : FnScope ["self", "count"] ["self", "count"] (defScope s_Day___init__) := ⟨rfl, rfl, rfl, by decide +kernel, rfl, by decide +kernel, by decide +kernel⟩
def spDayI (K : PySem.W.Frag) (C C0 : Addr) : Sp := fun vs H Q E => ∃ (p dx : Addr) (c : V) (dc : PyData), vs = [.ref p, c] ∧ H p = some (.ins C dx []) ∧ Dp K H c dc ∧ (isNum dc 1 20 = false → E (.ref C0) none H) ∧
  (∀ n, dc = .int n → isNum dc 1 20 = true → ∀ (H' : Hp) (lp lr : Addr), Fr [p] H H' → H lp = none → H lr = none → DayAt K C H' p n lp lr [] → Q .non H')
theorem ok_Day___init__ {C C0 : Addr} (D : IDef K C "Day.__init__" s_Day___init__) (T : DayC K mg C) (c_check_count : Cal P w K mg base (L2N.CX P w) 3 "check_count" ["count"] (spCheckCount K C0)) : CalI P w K mg base (L2N.CX P w) 4 C ["self", "count"] (spDayI K C C0) := by
  refine D.okN sc_Day___init__ (fun _ _ _ _ _ _ us hl => match us, hl with | [_, _], _ => rfl) (fun vs H Q E h => ?_) (fun f cdv A outer s H vs Q E hr h => ?_)
  · obtain ⟨p, dx, c, dc, rfl, _⟩ := h
    rfl
  · obtain ⟨p, dx, c, dc, rfl, hp, hc, e0, q⟩ := h
    refine ⟨_, (pss_cons (ps_expr (pe_cal c_check_count (hr.mono (by decide)) (by rfl) (L2N.passes_call (L2N.takes_of rfl rfl rfl rfl) (fun _ _ _ _ z => z)) (pa_cons (pv 1) pa_nil)))
      (pss_cons (ps_fld (pv 0) (pv 1) rfl)
      (pss_cons (ps_fld (pv 0) (pe_lst pa_nil) rfl)
      (pss_one (ps_fld (pv 0) (pe_lst pa_nil) rfl))))), ?_⟩
    refine ⟨_, rfl, c, dc, rfl, hc, e0, fun en => ?_⟩
    obtain ⟨n, rfl, n1, nM⟩ := num_inv' en
    cases hc
    refine ⟨_, rfl, _, rfl, p, C, dx, [], rfl, hp, T.cl, T.nc, by decide, ?_⟩
    have np : ∀ {o : HO}, (upd H p o) p = some o := upd_same
    refine ⟨lb rfl, fun lp hlp => ?_⟩
    have nlp : lp ≠ p := fun z => by
      rw [z, upd_same] at hlp
      cases hlp
    have hlp0 : H lp = none := by
      rw [upd_ne nlp] at hlp
      exact hlp
    refine ⟨_, rfl, p, C, dx, _, rfl, by rw [upd_ne nlp.symm]; exact upd_same, T.cl, T.np, putF_1 _ _, ?_⟩
    refine ⟨lb rfl, fun lr hlr => ?_⟩
    have nlr : lr ≠ p := fun z => by
      rw [z, upd_same] at hlr
      cases hlr
    have nlr2 : lr ≠ lp := fun z => by
      rw [z, upd_ne nlp, upd_same] at hlr
      cases hlr
    have hlr0 : H lr = none := by
      rw [upd_ne nlr, upd_ne nlr2, upd_ne nlr] at hlr
      exact hlr
    refine ⟨_, rfl, p, C, dx, _, rfl, by rw [upd_ne nlr.symm]; exact upd_same, T.cl, T.nr, putF_2 _ _ _ _, ?_⟩
    refine q n rfl en _ lp lr (fun b o e nb => ?_) hlp0 hlr0 ⟨⟨dx, upd_same⟩, ⟨[], ?_, .nil⟩, ?_, fun z => nlr2 z.symm, n1, nM, (fun d h => absurd h List.not_mem_nil), by decide⟩
    · have b1 : b ≠ p := fun z => nb (by rw [z]; exact List.mem_singleton.mpr rfl)
      have b2 : b ≠ lp := ne_of_none e hlp0
      have b3 : b ≠ lr := ne_of_none e hlr0
      rw [upd_ne b1, upd_ne b3, upd_ne b1, upd_ne b2, upd_ne b1]
      exact e
    · rw [upd_ne nlp, upd_ne (fun z => nlr2 z.symm), upd_ne nlp, upd_same]
    · rw [upd_ne nlr, upd_same]
      rfl

abbrev s_Day_standing : Stmt := inClass (topS 23) 5
theorem sc_Day_standing : FnScope ["self", "number", "debtor", "creditor"] ["self"] (defScope s_Day_standing) := ⟨rfl, rfl, rfl, by decide +kernel, rfl, by decide +kernel, by decide +kernel⟩
def spStanding (K : PySem.W.Frag) (C : Addr) : Sp := fun vs H Q _ => ∃ (p : Addr) (n : Int) (lp lr : Addr) (ds : List Debt), vs = [.ref p] ∧ DayAt K C H p n lp lr ds ∧
  ∀ (H' : Hp) (q : Addr) (vs : List V), Same H H' → H q = none → H' q = some (.lst vs) → TVs stV K H' vs (standL ds) → Q (.ref q) H'
theorem ok_Day_standing {C : Addr} (D : MDef K C "standing" "Day.standing" s_Day_standing) (B : Blt mg) (T : DayC K mg C) : CalM P w K mg base CX0 1 C "standing" ["self"] (spStanding K C) := by
  refine D.ok sc_Day_standing (fun _ _ _ _ _ _ us hl => match us, hl with | [_], _ => rfl) (fun vs H Q E h => ?_) (fun f cdv A outer s H vs Q E hr h => ?_)
  · obtain ⟨p, n, lp, lr, ds, rfl, _⟩ := h
    rfl
  · obtain ⟨p, n, lp, lr, ds, rfl, Dy, q⟩ := h
    refine ⟨_, (pss_one (ps_ret (pe_lc (own := [("number", 1), ("debtor", 2), ("creditor", 3)]) (g := gTup K 2 (gCons (gName 1) (gCons (gTup K 2 (gCons (gName 2) (gCons (gName 3) gNil))) gNil))) rfl sc_Day_standing.nd (pi_enum (by rfl) B.enumerate (pa_cons (pe_fldA (K := K) (pv 0)) pa_nil)) (blkOk_by (N := ["self", "number", "debtor", "creditor"]) (sc := defScope s_Day_standing) (by decide +kernel)) (fun _ _ _ _ _ => (pg_tup rfl (pgs_cons (pg_name (i := 1) sc_Day_standing.nd rfl (.inl rfl)) (pgs_cons (pg_tup rfl (pgs_cons (pg_name (i := 2) sc_Day_standing.nd rfl (.inl rfl)) (pgs_cons (pg_name (i := 3) sc_Day_standing.nd rfl (.inl rfl)) pgs_nil))) pgs_nil)))) (fun _ _ _ _ _ => (pts_one (pt_cmpR op_gt (pe_ix (r := rIxL K) ix_list (pe_fldA (K := K) (pv 0)) (pv 1) (fun _ _ => rfl)) pe_int (nomark _)))) (fun _ _ _ _ _ => (pe_tup (pa_cons (pv 1) (pa_cons (pv 2) (pa_cons (pv 3) (pa_cons (pe_ix (r := rIxL K) ix_list (pe_fldA (K := K) (pv 0)) (pv 1) (fun _ _ => rfl)) pa_nil))))))))), ?_⟩
    obtain ⟨dx, hp⟩ := Dy.obj
    obtain ⟨ps, hlp, tp⟩ := Dy.prs
    have pl := Paired.length tp
    have few := Dy.few
    refine ⟨_, rfl, p, C, dx, _, _, rfl, hp, T.cl, T.np, dayF_pairs, lp, ps, rfl, SqL.of hlp, fun L hL => lc_it (walk_enum (xs := ps)) (fun i H1 => Same H H1 ∧ ∃ vs, H1 L = some (.lst vs) ∧ TVs stV K H1 vs (standTo ds i)) ⟨same_new hL, [], upd_same, .nil⟩ ?_ ?_ ?_⟩
    · rintro i H1 _ ⟨s1, _⟩
      exact SqL.of (s1 _ _ hlp)
    · rintro i x H1 H2 hi ⟨s1, vs, eL, tv⟩ ⟨T1, x1, x2, rfl, nT, rfl, f1, f2⟩
      cases f1
      have sT := same_new (o := .tup [.int (i : Nat), x2]) nT
      have s2 := s1.trans sT
      obtain ⟨d, ed, u, rfl, hU⟩ := paired_get (s2.tvs tp) f2
      have hi' := (List.getElem?_eq_some_iff.mp ed).1
      have dd := dbt_of ed
      have sl := standTo_len ds i
      have vl := Paired.length tv
      refine ⟨T1, _, rfl, SqT.of upd_same, rfl, _, _, rfl, _, _, rfl, ⟨u, _, rfl, hU, rfl, _, _, rfl, _, _, rfl, rfl, rfl, ?_⟩⟩
      have eL2 := sT _ _ eL
      have tv2 := sT.tvs tv
      generalize upd H1 T1 (.tup [.int (i : Nat), .ref u]) = H3 at s2 hU eL2 tv2 ⊢
      refine ⟨rfl, ?_⟩
      have hp3 := s2 _ _ hp
      have hr3 : SqL K H3 lr ((amts ds).map V.int) := SqL.of (s2 _ _ Dy.rs)
      have at3 := amts_at hi'
      rw [standTo_add, dd]
      rw [dd] at at3
      refine ⟨_, rfl, p, C, dx, _, _, rfl, hp3, T.cl, T.nr, dayF_rests, _, rfl, lr, _, _, _, rfl, rfl, hr3, at3, _, _, rfl, rfl, _, rfl, ite2 (fun e => ?_) (fun e => ?_)⟩
      · have e : 0 < d.2.2 := of_decide_eq_true e
        rw [if_pos e]
        refine ⟨_, rfl, _, rfl, _, rfl, _, rfl, p, C, dx, _, _, rfl, hp3, T.cl, T.nr, dayF_rests, _, rfl, lr, _, _, _, rfl, rfl, hr3, at3, szn (by show 4 ≤ 100000; decide), fun t ht => ?_⟩
        have s4 := same_new (o := .tup [.int (i : Nat), .int d.1, .int d.2.1, .int d.2.2]) ht
        refine ⟨_, s4 _ _ eL2, szl (by omega), same_mut (s2.trans s4) hL, _, upd_same, ?_⟩
        exact tvs_mut (s4 _ _ eL2) (paired_app (s4.tvs tv2) (.cons ⟨t, rfl, SqT.of upd_same⟩ .nil))
      · rw [if_neg (fun z => e (decide_eq_true z)), List.append_nil]
        exact ⟨s2, _, eL2, tv2⟩
    · rintro H1 ⟨s1, vs, eL, tv⟩
      rw [pl] at tv
      exact q H1 L vs s1 hL eL tv

abbrev s_Day_rest : Stmt := inClass (topS 23) 2
theorem sc_Day_rest : FnScope ["self", "number"] ["self", "number"] (defScope s_Day_rest) := ⟨rfl, rfl, rfl, by decide +kernel, rfl, by decide +kernel, by decide +kernel⟩
def spRest (K : PySem.W.Frag) (C C6 : Addr) : Sp := fun vs H Q E => ∃ (p : Addr) (n : Int) (lp lr : Addr) (ds : List Debt) (v : V) (dv : PyData), vs = [.ref p, v] ∧ DayAt K C H p n lp lr ds ∧ Dp K H v dv ∧
  (isNum dv 0 ((ds.length : Int) - 1) = false → E (.ref C6) none H) ∧ (∀ k : Nat, dv = .int (k : Int) → k < ds.length → Q (.int (dbt ds k).2.2) H)
theorem ok_Day_rest {C C6 : Addr} (D : MDef K C "rest" "Day.rest" s_Day_rest) (B : Blt mg) (T : DayC K mg C) (x_NoDebt : ExcOf K mg "NoDebt" C6) (c_is_number : Cal P w K mg base CX0 2 "is_number" ["value", "low", "high"] (spIsNumber K)) : CalM P w K mg base (L2N.CX P w) 3 C "rest" ["self", "number"] (spRest K C C6) := by
  refine D.okN sc_Day_rest (fun _ _ _ _ _ _ us hl => match us, hl with | [_, _], _ => rfl) (fun vs H Q E h => ?_) (fun f cdv A outer s H vs Q E hr h => ?_)
  · obtain ⟨p, n, lp, lr, ds, v, dv, rfl, _⟩ := h
    rfl
  · obtain ⟨p, n, lp, lr, ds, v, dv, rfl, Dy, hv, e6, q⟩ := h
    refine ⟨_, (pss_cons (ps_if (pt_not (pt_val (pe_cal c_is_number (hr.mono (by decide)) (by rfl) pass0 (pa_cons (pv 1) (pa_cons pe_int (pa_cons (pe_op op_sub (pe_callB (r := rLenQ K) call_len_seq (by rfl) B.len (by decide +kernel) (pa_cons (pe_fldA (K := K) (pv 0)) pa_nil)) pe_int) pa_nil)))))) (pss_one (L2N.ps_raise rfl (L2N.takes_of rfl rfl rfl rfl) (pmk_x x_NoDebt (pa_cons pe_str pa_nil) (by rfl)))) pss_nil)
      (pss_one (ps_ret (pe_ix (r := rIxL K) ix_list (pe_fldA (K := K) (pv 0)) (pv 1) (fun _ _ => rfl))))), ?_⟩
    obtain ⟨dx, hp⟩ := Dy.obj
    have al := amts_len ds
    refine ⟨_, rfl, _, rfl, p, C, dx, _, _, rfl, hp, T.cl, T.nr, dayF_rests, lr, _, rfl, .inl (SqL.of Dy.rs), _, _, rfl, rfl, v, dv, 0, _, rfl, hv, _, rfl, ?_⟩
    rw [List.length_map, al]
    cases en : isNum dv 0 ((ds.length : Int) - 1) with
    | false => exact ⟨by show 1 ≤ 100; decide, e6 en⟩
    | true =>
      obtain ⟨i, rfl, i0, iM⟩ := num_inv' en
      cases hv
      obtain ⟨k, rfl⟩ := Int.eq_ofNat_of_zero_le i0
      have hk : k < ds.length := by omega
      exact ⟨_, rfl, p, C, dx, _, _, rfl, hp, T.cl, T.nr, dayF_rests, _, rfl, lr, _, _, _, rfl, rfl, SqL.of Dy.rs, amts_at hk, q k rfl hk⟩

abbrev s_Day_balance : Stmt := inClass (topS 23) 4
theorem sc_Day_balance : FnScope ["self", "house", "debts", "_", "debtor", "creditor", "rest"] ["self", "house"] (defScope s_Day_balance) := ⟨rfl, rfl, rfl, by decide +kernel, rfl, by decide +kernel, by decide +kernel⟩
def spBalance (K : PySem.W.Frag) (C C7 : Addr) : Sp := fun vs H Q E => ∃ (p : Addr) (n : Int) (lp lr : Addr) (ds : List Debt) (v : V) (dv : PyData), vs = [.ref p, v] ∧ DayAt K C H p n lp lr ds ∧ Dp K H v dv ∧
  (isNum dv 0 (n - 1) = false → E (.ref C7) none H) ∧ (∀ h : Nat, dv = .int (h : Int) → (h : Int) < n → ∀ H', Same H H' → Q (.int ((bal n ds).getD h 0)) H')
theorem ok_Day_balance {C C7 : Addr} (D : MDef K C "balance" "Day.balance" s_Day_balance) (T : DayC K mg C) (x_NoHouse : ExcOf K mg "NoHouse" C7) (c_is_number : Cal P w K mg base CX0 2 "is_number" ["value", "low", "high"] (spIsNumber K)) (c_balances : Cal P w K mg base CX0 1 "balances" ["count", "debts"] (spBalances K)) (c_Day_standing : CalM P w K mg base CX0 1 C "standing" ["self"] (spStanding K C)) : CalM P w K mg base (L2N.CX P w) 3 C "balance" ["self", "house"] (spBalance K C C7) := by
  refine D.okN sc_Day_balance (fun _ _ _ _ _ _ us hl => match us, hl with | [_, _], _ => rfl) (fun vs H Q E h => ?_) (fun f cdv A outer s H vs Q E hr h => ?_)
  · obtain ⟨p, n, lp, lr, ds, v, dv, rfl, _⟩ := h
    rfl
  · obtain ⟨p, n, lp, lr, ds, v, dv, rfl, Dy, hv, e7, q⟩ := h
    refine ⟨_, (pss_cons (ps_if (pt_not (pt_val (pe_cal c_is_number (hr.mono (by decide)) (by rfl) pass0 (pa_cons (pv 1) (pa_cons pe_int (pa_cons (pe_op op_sub (pe_fldA (K := K) (pv 0)) pe_int) pa_nil)))))) (pss_one (L2N.ps_raise rfl (L2N.takes_of rfl rfl rfl rfl) (pmk_x x_NoHouse (pa_cons pe_str pa_nil) (by rfl)))) pss_nil)
      (pss_cons (ps_setLc (i := 2) (own := [("_", 3), ("debtor", 4), ("creditor", 5), ("rest", 6)]) (g := gTup K 4 (gCons (gName 3) (gCons (gName 4) (gCons (gName 5) (gCons (gName 6) gNil))))) rfl sc_Day_balance.nd rfl rfl (sw_true rfl rfl rfl (by decide +kernel)) (pi_list (pe_mcal0 (pv 0) T.cl c_Day_standing (hr.mono (by decide)) pass0)) (blkOk_by (N := ["self", "house", "debts", "_", "debtor", "creditor", "rest"]) (sc := defScope s_Day_balance) (by decide +kernel)) (fun _ _ _ _ _ => (pg_tup rfl (pgs_cons (pg_name (i := 3) sc_Day_balance.nd rfl (.inl rfl)) (pgs_cons (pg_name (i := 4) sc_Day_balance.nd rfl (.inl rfl)) (pgs_cons (pg_name (i := 5) sc_Day_balance.nd rfl (.inl rfl)) (pgs_cons (pg_name (i := 6) sc_Day_balance.nd rfl (.inl rfl)) pgs_nil)))))) (fun _ _ _ _ _ => pts_nil) (fun _ _ _ _ _ => (pe_tup (pa_cons (pv 4) (pa_cons (pv 5) (pa_cons (pv 6) pa_nil))))))
      (pss_one (ps_ret (pe_ix (r := rIxL K) ix_list (pe_cal c_balances (hr.mono (by decide)) (by rfl) pass0 (pa_cons (pe_fldA (K := K) (pv 0)) (pa_cons (pv 2) pa_nil))) (pv 1) (fun _ _ => rfl)))))), ?_⟩
    obtain ⟨dx, hp⟩ := Dy.obj
    have n1 := Dy.n1
    have nM := Dy.nM
    refine ⟨_, rfl, _, rfl, p, C, dx, _, _, rfl, hp, T.cl, T.nc, dayF_count, _, _, rfl, rfl, v, dv, 0, _, rfl, hv, _, rfl, ?_⟩
    cases en : isNum dv 0 (n - 1) with
    | false => exact ⟨by show 1 ≤ 100; decide, e7 en⟩
    | true =>
      obtain ⟨i, rfl, i0, iM⟩ := num_inv' en
      cases hv
      obtain ⟨h, rfl⟩ := Int.eq_ofNat_of_zero_le i0
      refine ⟨_, rfl, p, dx, _, rfl, hp, dayF_standing, p, n, lp, lr, ds, rfl, Dy, fun H1 S vs s1 hS eS tv => ?_⟩
      have vl := Paired.length tv
      have sl := standTo_len ds ds.length
      have few := Dy.few
      have sle : (standL ds).length ≤ 70 := by
        unfold standL
        omega
      refine ⟨S, rfl, ⟨_, SqL.of eS⟩, fun L hL => lc_list (xs := vs) (fun i H2 => Same H1 H2 ∧ DM K H2 L (((standL ds).take i).map fun q => q.2)) ⟨same_new hL, [], upd_same, .nil⟩ ?_ ?_ ?_⟩
      · rintro i H2 _ ⟨s2, _⟩
        exact SqL.of (s2 _ _ eS)
      · rintro i x H2 hx ⟨s2, ys, eL, dL⟩
        obtain ⟨d, ed, u, rfl, hU⟩ := paired_get (s2.tvs tv) hx
        have hi := (List.getElem?_eq_some_iff.mp ed).1
        refine ⟨u, _, rfl, hU, rfl, _, _, rfl, _, _, rfl, _, _, rfl, _, _, rfl, rfl, rfl, ?_⟩
        refine ⟨_, rfl, _, rfl, _, rfl, szn (by show 3 ≤ 100000; decide), fun t ht => ?_⟩
        have s3 := same_new (o := .tup [.int d.2.1, .int d.2.2.1, .int d.2.2.2]) ht
        refine ⟨_, s3 _ _ eL, szl ?_, same_mut (s2.trans s3) hL, ?_⟩
        · rw [dvs_len dL, List.length_map, List.length_take]
          omega
        · rw [List.take_add_one, ed, List.map_append]
          exact dm_set (s3 _ _ eL) (dvs_app (s3.dvs dL) (dvs_one (dv_new (d := d.2) upd_same)))
      · rintro H2 ⟨s2, dL⟩
        rw [vl, List.take_length] at dL
        have s12 := s1.trans s2
        have inb : ∀ d ∈ (standL ds).map (fun q => q.2), InB n d := fun d hd => by
          obtain ⟨q, hq, rfl⟩ := List.mem_map.mp hd
          obtain ⟨h1, h2, _⟩ := standTo_mem hq
          rw [h2]
          have z := Dy.ok _ (List.mem_of_getElem? (dbt_at h1))
          exact ⟨z.a0, z.an, z.b0, z.bn⟩
        refine ⟨_, rfl, p, C, dx, _, _, rfl, s12 _ _ hp, T.cl, T.nc, dayF_count, _, rfl, n, L, _, rfl, by omega, nM, dL.dl, inb, fun H3 b s3 hb eb => ?_⟩
        rw [stand_bal Dy.ok] at eb
        have bl := bal_len n ds
        have hh : h < (bal n ds).length := by omega
        exact ⟨_, rfl, b, _, _, _, rfl, rfl, SqL.of eb, hgt_at hh, q h rfl (by omega) H3 (s12.trans s3)⟩

abbrev s_Day_owe : Stmt := inClass (topS 23) 1
theorem sc_Day_owe : FnScope ["self", "debtor", "creditor", "amount"] ["self", "debtor", "creditor", "amount"] (defScope s_Day_owe) := ⟨rfl, rfl, rfl, by decide +kernel, rfl, by decide +kernel, by decide +kernel⟩
def spOwe (K : PySem.W.Frag) (C C1 : Addr) : Sp := fun vs H Q E => ∃ (p : Addr) (n : Int) (lp lr : Addr) (ds : List Debt) (x y z : V) (dx dy dz : PyData), vs = [.ref p, x, y, z] ∧ DayAt K C H p n lp lr ds ∧ Dp K H x dx ∧ Dp K H y dy ∧ Dp K H z dz ∧ ds.length < 70 ∧
  (isDebt n (.tuple [dx, dy, dz]) = false → ∀ H', Same H H' → E (.ref C1) none H') ∧
  (∀ d : Debt, dx = .int d.1 → dy = .int d.2.1 → dz = .int d.2.2 → Good n d → ∀ H', Fr [lp, lr] H H' → DayAt K C H' p n lp lr (ds ++ [d]) → Q (.int (ds.length : Int)) H')
theorem isDebt_good {n : Int} {dx dy dz : PyData} (h : isDebt n (.tuple [dx, dy, dz]) = true) : ∃ d : Debt, dx = .int d.1 ∧ dy = .int d.2.1 ∧ dz = .int d.2.2 ∧ Good n d := by
  have h' : (isNum dx 0 (n - 1) && (isNum dy 0 (n - 1) && (!(PyData.eqv dx dy) && isNum dz 1 1000000000))) = true := h
  rw [Bool.and_eq_true, Bool.and_eq_true, Bool.and_eq_true] at h'
  obtain ⟨h1, h2, h3, h4⟩ := h'
  obtain ⟨a, rfl, a0, aM⟩ := num_inv' h1
  obtain ⟨b, rfl, b0, bM⟩ := num_inv' h2
  obtain ⟨c, rfl, c0, cM⟩ := num_inv' h4
  rw [eqv_int] at h3
  have ne : a ≠ b := fun z => by
    rw [z] at h3
    simp at h3
  exact ⟨(a, b, c), rfl, rfl, rfl, ⟨a0, by show a < n; omega, b0, by show b < n; omega, ne, c0, cM⟩⟩
theorem ok_Day_owe {C C1 : Addr} (D : MDef K C "owe" "Day.owe" s_Day_owe) (B : Blt mg) (T : DayC K mg C) (x_BadDebt : ExcOf K mg "BadDebt" C1) (c_is_debt : Cal P w K mg base CX0 3 "is_debt" ["count", "value"] (spIsDebt K)) : CalM P w K mg base (L2N.CX P w) 4 C "owe" ["self", "debtor", "creditor", "amount"] (spOwe K C C1) := by
  refine D.okN sc_Day_owe (fun _ _ _ _ _ _ us hl => match us, hl with | [_, _, _, _], _ => rfl) (fun vs H Q E h => ?_) (fun f cdv A outer s H vs Q E hr h => ?_)
  · obtain ⟨p, n, lp, lr, ds, x, y, z, dx, dy, dz, rfl, _⟩ := h
    rfl
  · obtain ⟨p, n, lp, lr, ds, x, y, z, dx, dy, dz, rfl, Dy, hx, hy, hz, few, e1, q⟩ := h
    refine ⟨_, (pss_cons (ps_if (pt_not (pt_val (pe_cal c_is_debt (hr.mono (by decide)) (by rfl) pass0 (pa_cons (pe_fldA (K := K) (pv 0)) (pa_cons (pe_tup (pa_cons (pv 1) (pa_cons (pv 2) (pa_cons (pv 3) pa_nil)))) pa_nil))))) (pss_one (L2N.ps_raise rfl (L2N.takes_of rfl rfl rfl rfl) (pmk_x x_BadDebt (pa_cons pe_str pa_nil) (by rfl)))) pss_nil)
      (pss_cons (ps_expr (pe_bm PySem.F.plainAttrs_list PySem.F.slot_list_append PySem.F.type_list_append mt_append (pe_fldA (K := K) (pv 0)) (pa_cons (pe_tup (pa_cons (pv 1) (pa_cons (pv 2) pa_nil))) pa_nil)))
      (pss_cons (ps_expr (pe_bm PySem.F.plainAttrs_list PySem.F.slot_list_append PySem.F.type_list_append mt_append (pe_fldA (K := K) (pv 0)) (pa_cons (pv 3) pa_nil)))
      (pss_one (ps_ret (pe_op op_sub (pe_callB (r := rLenQ K) call_len_seq (by rfl) B.len (by decide +kernel) (pa_cons (pe_fldA (K := K) (pv 0)) pa_nil)) pe_int)))))), ?_⟩
    obtain ⟨dd, hp⟩ := Dy.obj
    obtain ⟨ps, hlp, tp⟩ := Dy.prs
    have pl := Paired.length tp
    have al := amts_len ds
    refine ⟨_, rfl, p, C, dd, _, _, rfl, hp, T.cl, T.nc, dayF_count, _, rfl, _, rfl, _, rfl, szn (by show 3 ≤ 100000; decide), fun t ht => ?_⟩
    have s1 := same_new (o := .tup [x, y, z]) ht
    refine ⟨.ref t, .tuple [dx, dy, dz], n, rfl, .tup (SqT.of upd_same) (.cons (s1.dp hx) (.cons (s1.dp hy) (.cons (s1.dp hz) .nil))), _, rfl, ?_⟩
    cases en : isDebt n (.tuple [dx, dy, dz]) with
    | false => exact ⟨by show 1 ≤ 100; decide, e1 en _ s1⟩
    | true =>
      obtain ⟨d, rfl, rfl, rfl, g⟩ := isDebt_good en
      cases hx
      cases hy
      cases hz
      have Dy1 := Dy.same s1
      generalize upd H t (.tup [.int d.1, .int d.2.1, .int d.2.2]) = H1 at s1 Dy1
      obtain ⟨⟨dd1, hp1⟩, ⟨ps1, hlp1, tp1⟩, hlr1, ne, n1, nM, ok, _⟩ := Dy1
      have pl1 := Paired.length tp1
      refine ⟨_, rfl, p, C, dd1, _, _, rfl, hp1, T.cl, T.np, dayF_pairs, .inl ⟨rfl, _, SqL.of hlp1⟩, ?_⟩
      refine ⟨_, rfl, _, rfl, szn (by show 2 ≤ 100000; decide), fun u hu => ?_⟩
      have s2 := same_new (o := .tup [.int d.1, .int d.2.1]) hu
      refine ⟨lp, _, _, rfl, rfl, s2 _ _ hlp1, szl (by omega), ?_⟩
      have npl : p ≠ lp := fun z => by
        rw [z, hlp1] at hp1
        cases hp1
      have npr : p ≠ lr := fun z => by
        rw [z, hlr1] at hp1
        cases hp1
      have hp2 : (upd (upd H1 u (.tup [.int d.1, .int d.2.1])) lp (.lst (ps1 ++ [.ref u]))) p = some (.ins C dd1 (dayF n lp lr)) := by
        rw [upd_ne npl]
        exact s2 _ _ hp1
      have hlr2 : (upd (upd H1 u (.tup [.int d.1, .int d.2.1])) lp (.lst (ps1 ++ [.ref u]))) lr = some (.lst ((amts ds).map V.int)) := by
        rw [upd_ne ne.symm]
        exact s2 _ _ hlr1
      have hlp2 : (upd (upd H1 u (.tup [.int d.1, .int d.2.1])) lp (.lst (ps1 ++ [.ref u]))) lp = some (.lst (ps1 ++ [.ref u])) := upd_same
      have tp2 : TVs pV K (upd (upd H1 u (.tup [.int d.1, .int d.2.1])) lp (.lst (ps1 ++ [.ref u]))) (ps1 ++ [.ref u]) (ds ++ [d]) := tvs_mut (s2 _ _ hlp1) (paired_app (s2.tvs tp1) (.cons ⟨u, rfl, SqT.of upd_same⟩ .nil))
      have f2 : Fr [lp, lr] H (upd (upd H1 u (.tup [.int d.1, .int d.2.1])) lp (.lst (ps1 ++ [.ref u]))) := ((fr_same (s1.trans s2)).trans (fr_upd List.mem_cons_self))
      generalize upd (upd H1 u (.tup [.int d.1, .int d.2.1])) lp (.lst (ps1 ++ [.ref u])) = H2 at hp2 hlr2 hlp2 tp2 f2
      refine ⟨_, rfl, p, C, dd1, _, _, rfl, hp2, T.cl, T.nr, dayF_rests, .inl ⟨rfl, _, SqL.of hlr2⟩, _, rfl, lr, _, _, rfl, rfl, hlr2, szl (by rw [List.length_map]; omega), ?_⟩
      have e3 : (upd H2 lr (.lst ((amts ds).map V.int ++ [.int d.2.2]))) lr = some (.lst ((amts (ds ++ [d])).map V.int)) := by
        rw [upd_same]
        unfold amts
        rw [List.map_append, List.map_append]
        rfl
      have hp3 : (upd H2 lr (.lst ((amts ds).map V.int ++ [.int d.2.2]))) p = some (.ins C dd1 (dayF n lp lr)) := by
        rw [upd_ne npr]
        exact hp2
      refine ⟨_, rfl, p, C, dd1, _, _, rfl, hp3, T.cl, T.nr, dayF_rests, lr, _, rfl, .inl (SqL.of e3), _, _, rfl, rfl, ?_⟩
      have el : (((((amts (ds ++ [d])).map V.int).length : Nat) : Int) - 1) = (ds.length : Int) := by
        rw [List.length_map, amts_len, List.length_append, List.length_singleton]
        omega
      dsimp only
      rw [el]
      refine q d rfl rfl rfl g _ (f2.trans (fr_upd (List.mem_cons_of_mem _ List.mem_cons_self))) ⟨⟨dd1, hp3⟩, ⟨_, by rw [upd_ne ne]; exact hlp2, tvs_mut hlr2 tp2⟩, e3, ne, n1, nM, fun e he => ?_, by rw [List.length_append]; exact few⟩
      rcases List.mem_append.mp he with h | h
      · exact ok e h
      · rw [List.mem_singleton.mp h]
        exact g.owed

abbrev s_Day_pay : Stmt := inClass (topS 23) 3
theorem sc_Day_pay : FnScope ["self", "number", "amount", "rest"] ["self", "number", "amount"] (defScope s_Day_pay) := ⟨rfl, rfl, rfl, by decide +kernel, rfl, by decide +kernel, by decide +kernel⟩
def spPay (K : PySem.W.Frag) (C C6 C8 : Addr) : Sp := fun vs H Q E => ∃ (p : Addr) (n : Int) (lp lr : Addr) (ds : List Debt) (v u : V) (dv du : PyData), vs = [.ref p, v, u] ∧ DayAt K C H p n lp lr ds ∧ Dp K H v dv ∧ Dp K H u du ∧
  (isNum dv 0 ((ds.length : Int) - 1) = false → E (.ref C6) none H) ∧
  (∀ k : Nat, dv = .int (k : Int) → k < ds.length → isNum du 1 (dbt ds k).2.2 = false → E (.ref C8) none H) ∧
  (∀ (k : Nat) (m : Int), dv = .int (k : Int) → k < ds.length → du = .int m → 1 ≤ m → m ≤ (dbt ds k).2.2 → ∀ H', Fr [lr] H H' → DayAt K C H' p n lp lr (setRest ds k ((dbt ds k).2.2 - m)) → Q (.int ((dbt ds k).2.2 - m)) H')
theorem ok_Day_pay {C C6 C8 : Addr} (D : MDef K C "pay" "Day.pay" s_Day_pay) (T : DayC K mg C) (x_BadAmount : ExcOf K mg "BadAmount" C8) (c_is_number : Cal P w K mg base CX0 2 "is_number" ["value", "low", "high"] (spIsNumber K)) (c_Day_rest : CalM P w K mg base (L2N.CX P w) 3 C "rest" ["self", "number"] (spRest K C C6)) : CalM P w K mg base (L2N.CX P w) 4 C "pay" ["self", "number", "amount"] (spPay K C C6 C8) := by
  refine D.okN sc_Day_pay (fun _ _ _ _ _ _ us hl => match us, hl with | [_, _, _], _ => rfl) (fun vs H Q E h => ?_) (fun f cdv A outer s H vs Q E hr h => ?_)
  · obtain ⟨p, n, lp, lr, ds, v, u, dv, du, rfl, _⟩ := h
    rfl
  · obtain ⟨p, n, lp, lr, ds, v, u, dv, du, rfl, Dy, hv, hu, e6, e8, q⟩ := h
    refine ⟨_, (pss_cons (ps_set (i := 3) sc_Day_pay.nd rfl (.inl rfl) (pe_mcal (pv 0) T.cl c_Day_rest (hr.mono (by decide)) (L2N.passes_call (L2N.takes_of rfl rfl rfl rfl) (fun _ _ _ _ z => z)) (pa_cons (pv 1) pa_nil)))
      (pss_cons (ps_if (pt_not (pt_val (pe_cal c_is_number (hr.mono (by decide)) (by rfl) pass0 (pa_cons (pv 2) (pa_cons pe_int (pa_cons (pv 3) pa_nil)))))) (pss_one (L2N.ps_raise rfl (L2N.takes_of rfl rfl rfl rfl) (pmk_x x_BadAmount (pa_cons (pe_joined (.cons pe_str (.cons (pe_fmt (pv 1)) (.cons pe_str (.cons (pe_fmt (pv 3)) .nil))))) pa_nil) (by rfl)))) pss_nil)
      (pss_cons (ps_asg (pe_op op_sub (pv 3) (pv 2)) (pg_sub (pe_fldA (K := K) (pv 0)) (pv 1) set_list))
      (pss_one (ps_ret (pe_op op_sub (pv 3) (pv 2))))))), ?_⟩
    obtain ⟨dd, hp⟩ := Dy.obj
    refine ⟨_, rfl, p, dd, _, rfl, hp, dayF_rest, _, rfl, p, n, lp, lr, ds, v, dv, rfl, Dy, hv, e6, fun k ek hk => ?_⟩
    subst ek
    cases hv
    have okk := Dy.ok _ (List.mem_of_getElem? (dbt_at hk))
    have few := Dy.few
    refine ⟨_, rfl, _, rfl, u, du, 1, _, rfl, hu, _, rfl, ?_⟩
    have hm0 := okk.m0
    have hmM := okk.mM
    cases en : isNum du 1 (dbt ds k).2.2 with
    | false =>
      generalize (dbt ds k).2.2 = r at hm0 hmM
      exact js_c (m := 0) (n := 60) (Nat.le_refl _) (by decide +kernel) (by decide) fun a ha => js_v ha rfl (small_pow (by
        show k < 2 ^ 64
        omega)) (by decide) fun a ha => js_c (n := 60) ha (by decide +kernel) (by decide) fun a ha => js_v ha rfl (small_pow (by omega)) (by decide) fun a ha => js_end ⟨by show 1 ≤ 100; decide, e8 k rfl hk en⟩
    | true =>
      obtain ⟨m, rfl, m1, mM⟩ := num_inv' en
      cases hu
      refine ⟨_, rfl, _, rfl, _, _, rfl, rfl, _, rfl, p, C, dd, _, _, rfl, hp, T.cl, T.nr, dayF_rests, _, rfl, lr, _, _, _, rfl, rfl, Dy.rs, ix_nat (by rw [List.length_map, amts_len]; exact hk), ?_⟩
      refine ⟨_, rfl, _, rfl, _, _, rfl, rfl, ?_⟩
      obtain ⟨_, ⟨ps, hlp, tp⟩, hlr, ne, n1, nM, ok, _⟩ := Dy
      have npr : p ≠ lr := fun z => by
        rw [z, hlr] at hp
        cases hp
      refine q k m rfl hk rfl m1 mM _ (fr_upd List.mem_cons_self) ⟨⟨dd, by rw [upd_ne npr]; exact hp⟩, ⟨ps, by rw [upd_ne ne]; exact hlp, ?_⟩, ?_, ne, n1, nM, fun e he => ?_, by rw [setRest_len]; exact few⟩
      · refine tvs_mut hlr ?_
        have e : TVs pV K H (ps.set k (ps.getD k .non)) (setRest ds k ((dbt ds k).2.2 - m)) := by
          obtain ⟨v', ev, hv'⟩ := paired_get' tp (dbt_at hk)
          have e1 : ps.getD k .non = v' := by
            rw [List.getD_eq_getElem?_getD, ev]
            rfl
          rw [e1]
          exact paired_set (a := ((dbt ds k).1, (dbt ds k).2.1, (dbt ds k).2.2 - m)) (show TV pV K H v' _ from hv') k tp
        have e2 : ps.set k (ps.getD k .non) = ps := by
          have pl := Paired.length tp
          rw [List.getD_eq_getElem?_getD, List.getElem?_eq_getElem (by omega)]
          exact List.set_getElem_self (by omega)
        rw [e2] at e
        exact e
      · rw [upd_same, amts_set, List.map_set]
      · unfold setRest at he
        rcases List.mem_or_eq_of_mem_set he with h | h
        · exact ok e h
        · rw [h]
          exact ⟨okk.a0, okk.an, okk.b0, okk.bn, okk.ne, by show 0 ≤ (dbt ds k).2.2 - m; omega, by show (dbt ds k).2.2 - m ≤ 1000000000; omega⟩

abbrev s_Day_clear : Stmt := inClass (topS 23) 6
theorem sc_Day_clear : FnScope ["self", "standing", "cut", "told", "number", "off", "_", "debtor", "creditor", "rest", "row"] ["self"] (defScope s_Day_clear) := ⟨rfl, rfl, rfl, by decide +kernel, rfl, by decide +kernel, by decide +kernel⟩
def spClear (K : PySem.W.Frag) (C : Addr) : Sp := fun vs H Q _ => ∃ (p : Addr) (n : Int) (lp lr : Addr) (ds : List Debt), vs = [.ref p] ∧ DayAt K C H p n lp lr ds ∧ ds.length ≤ 60 ∧
  ∀ (H' : Hp) (t : Addr) (ws : List V) (f : Nat → Int), Fr [lr] H H' → H t = none → H' t = some (.lst ws) → TVs tdV K H' ws (tellF f ds.length) → BestCut ds (listF f ds.length) → (∀ i, 0 ≤ f i) → DayAt K C H' p n lp lr (lessF ds f ds.length) → Q (.ref t) H'
theorem zip_at {α β : Type} {l : List α} {cs : List β} {i : Nat} {a : α} {c : β} (e1 : l[i]? = some a) (e2 : cs[i]? = some c) : (l.zip cs).take (i + 1) = (l.zip cs).take i ++ [(a, c)] := by
  rw [List.take_add_one, List.getElem?_zip_eq_some (z := (a, c)) |>.mpr ⟨e1, e2⟩]
  rfl
theorem tellS_snoc (l : List ((Nat × Debt) × Int)) (q : (Nat × Debt) × Int) : tellS (l ++ [q]) = tellS l ++ if 0 < q.2 then [(q.1.1, q.2)] else [] := by
  unfold tellS
  rw [List.filterMap_append]
  congr 1
  by_cases h : 0 < q.2
  · simp [h]
  · simp [h]
theorem tellS_len (l : List ((Nat × Debt) × Int)) : (tellS l).length ≤ l.length := List.length_filterMap_le _ _
theorem tvs_pv {K : PySem.W.Frag} {H : Hp} : ∀ {vs : List V} {ds es : List Debt}, ds.length = es.length → (∀ i, i < ds.length → pV (dbt ds i) = pV (dbt es i)) → TVs pV K H vs ds → TVs pV K H vs es
  | _, [], [], _, _, h => h
  | _, _ :: _, [], hl, _, _ => by cases hl
  | _, [], _ :: _, hl, _, _ => by cases hl
  | _, d :: ds, e :: es, hl, hp, h => by
    cases h with
    | cons h t =>
      obtain ⟨p, ev, ht⟩ := h
      have z : pV d = pV e := hp 0 (Nat.succ_pos _)
      refine .cons ⟨p, ev, by rw [← z]; exact ht⟩ (tvs_pv (Nat.succ.inj hl) (fun i hi => ?_) t)
      exact hp (i + 1) (Nat.succ_lt_succ hi)
theorem ok_Day_clear {C : Addr} (D : MDef K C "clear" "Day.clear" s_Day_clear) (B : Blt mg) (T : DayC K mg C) (c_best : Cal P w K mg base CX0 3 "best" ["count", "debts"] (spBest K)) (c_Day_standing : CalM P w K mg base CX0 1 C "standing" ["self"] (spStanding K C)) : CalM P w K mg base CX0 4 C "clear" ["self"] (spClear K C) := by
  refine D.ok sc_Day_clear (fun _ _ _ _ _ _ us hl => match us, hl with | [_], _ => rfl) (fun vs H Q E h => ?_) (fun f cdv A outer s H vs Q E hr h => ?_)
  · obtain ⟨p, n, lp, lr, ds, rfl, _⟩ := h
    rfl
  · obtain ⟨p, n, lp, lr, ds, rfl, Dy, few, q⟩ := h
    refine ⟨_, (pss_cons (ps_set (i := 1) sc_Day_clear.nd rfl (.inl rfl) (pe_mcal0 (pv 0) T.cl c_Day_standing (hr.mono (by decide)) pass0))
      (pss_cons (ps_set (i := 2) sc_Day_clear.nd rfl (.inl rfl) (pe_cal c_best (hr.mono (by decide)) (by rfl) pass0 (pa_cons (pe_fldA (K := K) (pv 0)) (pa_cons (pe_lc (own := [("_", 6), ("debtor", 7), ("creditor", 8), ("rest", 9)]) (g := gTup K 4 (gCons (gName 6) (gCons (gName 7) (gCons (gName 8) (gCons (gName 9) gNil))))) rfl sc_Day_clear.nd (pi_list (pv 1)) (blkOk_by (N := ["self", "standing", "cut", "told", "number", "off", "_", "debtor", "creditor", "rest", "row"]) (sc := defScope s_Day_clear) (by decide +kernel)) (fun _ _ _ _ _ => (pg_tup rfl (pgs_cons (pg_name (i := 6) sc_Day_clear.nd rfl (.inl rfl)) (pgs_cons (pg_name (i := 7) sc_Day_clear.nd rfl (.inl rfl)) (pgs_cons (pg_name (i := 8) sc_Day_clear.nd rfl (.inl rfl)) (pgs_cons (pg_name (i := 9) sc_Day_clear.nd rfl (.inl rfl)) pgs_nil)))))) (fun _ _ _ _ _ => pts_nil) (fun _ _ _ _ _ => (pe_tup (pa_cons (pv 7) (pa_cons (pv 8) (pa_cons (pv 9) pa_nil)))))) pa_nil))))
      (pss_cons (ps_setLc (i := 3) (own := [("row", 10), ("off", 5)]) (g := gTup K 2 (gCons (gName 10) (gCons (gName 5) gNil))) rfl sc_Day_clear.nd rfl rfl (sw_true rfl rfl rfl (by decide +kernel)) (pi_zip (by rfl) B.zip (pa_cons (pv 1) (pa_cons (pv 2) pa_nil))) (blkOk_by (N := ["self", "standing", "cut", "told", "number", "off", "_", "debtor", "creditor", "rest", "row"]) (sc := defScope s_Day_clear) (by decide +kernel)) (fun _ _ _ _ _ => (pg_tup rfl (pgs_cons (pg_name (i := 10) sc_Day_clear.nd rfl (.inl rfl)) (pgs_cons (pg_name (i := 5) sc_Day_clear.nd rfl (.inl rfl)) pgs_nil)))) (fun _ _ _ _ _ => (pts_one (pt_cmpR op_gt (pv 5) pe_int (nomark _)))) (fun _ _ _ _ _ => (pe_tup (pa_cons (pe_ix (r := rIxT K) ix_tup (pv 10) pe_int (fun _ _ => rfl)) (pa_cons (pv 5) pa_nil)))))
      (pss_cons (ps_for PassesOwn.never rfl (pi_list (pv 3)) (pg_tup rfl (pgs_cons (pg_name (i := 4) sc_Day_clear.nd rfl (.inl rfl)) (pgs_cons (pg_name (i := 5) sc_Day_clear.nd rfl (.inl rfl)) pgs_nil))) (pss_one (ps_augS (pe_fldA (K := K) (pv 0)) (pv 4) get_list (pv 5) ip_sub set_list)))
      (pss_one (ps_ret (pv 3))))))), ?_⟩
    obtain ⟨dx, hp⟩ := Dy.obj
    have n1 := Dy.n1
    have nM := Dy.nM
    refine ⟨_, rfl, p, dx, _, rfl, hp, dayF_standing, p, n, lp, lr, ds, rfl, Dy, fun H1 S vs s1 hS eS tv => ?_⟩
    have vl := Paired.length tv
    have sl : (standL ds).length ≤ ds.length := standTo_len ds ds.length
    refine ⟨_, rfl, p, C, dx, _, _, rfl, s1 _ _ hp, T.cl, T.nc, dayF_count, _, rfl, S, rfl, ⟨_, SqL.of eS⟩, fun L hL => lc_list (xs := vs) (fun i H2 => Same H1 H2 ∧ DM K H2 L (((standL ds).take i).map fun q => q.2)) ⟨same_new hL, [], upd_same, .nil⟩ ?_ ?_ ?_⟩
    · rintro i H2 _ ⟨s2, _⟩
      exact SqL.of (s2 _ _ eS)
    · rintro i x H2 hx ⟨s2, ys, eL, dL⟩
      obtain ⟨d, ed, u, rfl, hU⟩ := paired_get (s2.tvs tv) hx
      have hi := (List.getElem?_eq_some_iff.mp ed).1
      refine ⟨u, _, rfl, hU, rfl, _, _, rfl, _, _, rfl, _, _, rfl, _, _, rfl, rfl, rfl, ?_⟩
      refine ⟨_, rfl, _, rfl, _, rfl, szn (by show 3 ≤ 100000; decide), fun t ht => ?_⟩
      have s3 := same_new (o := .tup [.int d.2.1, .int d.2.2.1, .int d.2.2.2]) ht
      refine ⟨_, s3 _ _ eL, szl ?_, same_mut (s2.trans s3) hL, ?_⟩
      · rw [dvs_len dL, List.length_map, List.length_take]
        omega
      · rw [List.take_add_one, ed, List.map_append]
        exact dm_set (s3 _ _ eL) (dvs_app (s3.dvs dL) (dvs_one (dv_new (d := d.2) upd_same)))
    rintro H2 ⟨s2, dL⟩
    rw [vl, List.take_length] at dL
    have goods : Goods n ((standL ds).map fun q => q.2) := fun d hd => by
      obtain ⟨q, hq, rfl⟩ := List.mem_map.mp hd
      obtain ⟨h1, h2, h3⟩ := standTo_mem hq
      have z := Dy.ok _ (List.mem_of_getElem? (dbt_at h1))
      rw [← h2] at z
      exact ⟨z.a0, z.an, z.b0, z.bn, z.ne, by omega, z.mM⟩
    refine ⟨n, L, _, rfl, n1, nM, goods, dL.dl, by rw [List.length_map]; omega, fun H3 b cs s3 hb eb hc he hsh => ?_⟩
    have m0 : ∀ d ∈ ds, 0 ≤ d.2.2 := fun d h => (Dy.ok d h).m0
    have bc : BestCut ((standL ds).map fun q => q.2) cs := ⟨hc, he, hsh⟩
    have fb := full_best m0 bc
    have cl : cs.length = (standL ds).length := by rw [hc.len, List.length_map]
    have f0 : ∀ i, 0 ≤ fullF ds cs i := fun i => by
      unfold fullF
      split
      · by_cases hj : (standTo ds i).length < cs.length
        · rw [List.getD_eq_getElem?_getD, List.getElem?_eq_getElem hj]
          have hj' : (standTo ds i).length < ((standL ds).map fun q => q.2).length := by rw [List.length_map]; omega
          exact (hc.at_ _ _ _ (List.getElem?_eq_getElem hj') (List.getElem?_eq_getElem hj)).1
        · rw [List.getD_eq_getElem?_getD, List.getElem?_eq_none (by omega)]
          exact Int.le_refl _
      · exact Int.le_refl _
    have tf := tell_full (ds := ds) cl ds.length (Nat.le_refl _)
    have tf : tellS ((standL ds).zip cs) = tellF (fullF ds cs) ds.length := tf
    have s13 := s2.trans s3
    have s03 := s1.trans s13
    have eS3 := s13 _ _ eS
    have tv3 := s13.tvs tv
    refine ⟨_, rfl, _, rfl, S, b, vs, _, rfl, SqL.of eS3, SqL.of eb, fun L2 hL2 => lc_it (walk_zip (xs := vs) (ys := cs.map V.int) (n := vs.length) (by rw [List.length_map]; omega)) (fun i H4 => Same H3 H4 ∧ ∃ ws, H4 L2 = some (.lst ws) ∧ TVs tdV K H4 ws (tellS (((standL ds).zip cs).take i))) ⟨same_new hL2, [], upd_same, .nil⟩ ?_ ?_ ?_⟩
    · rintro i H4 _ ⟨s4, _⟩
      exact ⟨SqL.of (s4 _ _ eS3), SqL.of (s4 _ _ eb)⟩
    · rintro i x H4 H5 hi ⟨s4, ws, e4, tw⟩ ⟨T1, x1, x2, rfl, nT, rfl, f1, f2⟩
      obtain ⟨c, ec, rfl⟩ := ints_get f2
      have sT := same_new (o := .tup [x1, .int c]) nT
      have s5 := s4.trans sT
      obtain ⟨d, ed, u, rfl, hU⟩ := paired_get (s5.tvs tv3) f1
      have e5 := sT _ _ e4
      have tw5 := sT.tvs tw
      have wl := Paired.length tw
      have tl := tellS_len (((standL ds).zip cs).take i)
      have zl := List.length_take_le i ((standL ds).zip cs)
      refine ⟨T1, _, rfl, SqT.of upd_same, rfl, _, _, rfl, _, _, rfl, rfl, rfl, ?_⟩
      generalize upd H4 T1 (.tup [.ref u, .int c]) = H5 at s5 hU e5 tw5 ⊢
      rw [zip_at ed ec, tellS_snoc]
      refine ⟨_, rfl, _, _, rfl, rfl, _, rfl, ite2 (fun z => ?_) (fun z => ?_)⟩
      · have z : 0 < c := of_decide_eq_true z
        rw [if_pos z]
        refine ⟨_, rfl, u, _, 0, _, rfl, rfl, hU, rfl, _, rfl, szn (by show 2 ≤ 100000; decide), fun t ht => ?_⟩
        have s6 := same_new (o := .tup [.int (d.1 : Int), .int c]) ht
        refine ⟨_, s6 _ _ e5, szl (by omega), same_mut (s5.trans s6) hL2, _, upd_same, ?_⟩
        exact tvs_mut (s6 _ _ e5) (paired_app (s6.tvs tw5) (.cons ⟨t, rfl, SqT.of upd_same⟩ .nil))
      · have z : ¬ 0 < c := fun y => z (decide_eq_true y)
        rw [if_neg z, List.append_nil]
        exact ⟨s5, ws, e5, tw5⟩
    rintro H4 ⟨s4, ws, e4, tw⟩
    rw [List.take_of_length_le (by rw [List.length_zip]; omega), tf] at tw
    have s04 := s03.trans s4
    have Dy4 := Dy.same s04
    have hp4 := s04 _ _ hp
    obtain ⟨_, ⟨ps, hlp, tp⟩, hlr, ne, _, _, ok, _⟩ := Dy4
    have L2lr : L2 ≠ lr := fun z => by
      have := s03 _ _ Dy.rs
      rw [z, this] at hL2
      cases hL2
    have hL0 : H L2 = none := s03.free hL2
    have lst4 : ∀ l ∈ [lr], ∃ vs, H4 l = some (.lst vs) := fun l hl => by
      rw [List.mem_singleton.mp hl]
      exact ⟨_, hlr⟩
    have not4 : ∀ {x : Addr}, x ≠ lr → x ∉ [lr] := fun {x} n z => n (List.mem_singleton.mp z)
    have plr : p ≠ lr := fun z => by
      rw [z, hlr] at hp4
      cases hp4
    generalize hf : fullF ds cs = ff at fb f0 tw
    clear tf hf
    refine ⟨_, rfl, L2, rfl, ⟨_, SqL.of e4⟩, for_list (xs := ws) (fun j σ H6 => ∃ y4 y5, σ = [some (.ref p), some (.ref S), some (.ref b), some (.ref L2), y4, y5, none, none, none, none, none] ∧ Fr [lr] H4 H6 ∧ H6 lr = some (.lst ((amts (lessTo ds ((tellF ff ds.length).take j))).map V.int))) ⟨_, _, rfl, fr_same (Same.refl H4), hlr⟩ ?_ ?_ ?_⟩
    · rintro j σ H6 _ ⟨_, _, _, f6, _⟩
      exact SqL.of (f6 _ _ e4 (not4 L2lr))
    · rintro j x σ H6 hx ⟨y4, y5, rfl, f6, l6⟩
      obtain ⟨⟨k, c⟩, ek, u, rfl, hU⟩ := paired_get (fr_tvs f6 lst4 tw) hx
      obtain ⟨hk, _, c0⟩ := tellF_mem (List.mem_of_getElem? ek)
      have hk : k < (lessTo ds ((tellF ff ds.length).take j)).length := by
        rw [lessTo_len]
        exact hk
      refine ⟨u, _, rfl, hU, rfl, _, _, rfl, _, _, rfl, rfl, ?_⟩
      refine ⟨_, rfl, p, C, dx, _, _, rfl, f6 _ _ hp4 (not4 plr), T.cl, T.nr, dayF_rests, _, rfl, lr, _, _, _, rfl, rfl, SqL.of l6, amts_at hk, _, rfl, _, _, rfl, rfl, lr, _, _, _, rfl, rfl, l6, ix_nat (by rw [List.length_map, amts_len]; exact hk), ?_⟩
      refine ⟨_, _, rfl, f6.trans (fr_upd List.mem_cons_self), ?_⟩
      rw [upd_same, List.take_add_one, ek]
      show _ = some (HO.lst ((amts (lessTo ds ((tellF ff ds.length).take j ++ [(k, c)]))).map V.int))
      rw [lessTo_snoc, amts_set, set_int]
    · rintro σ H6 ⟨y4, y5, rfl, f6, l6⟩
      have wl := Paired.length tw
      rw [List.take_of_length_le (by omega), lessTo_tell f0 _ (Nat.le_refl _)] at l6
      refine ⟨_, rfl, q H6 L2 ws ff ((fr_same s04).trans f6) hL0 (f6 _ _ e4 (not4 L2lr)) (fr_tvs f6 lst4 tw) fb f0 ⟨⟨dx, f6 _ _ hp4 (not4 plr)⟩, ⟨ps, f6 _ _ hlp (not4 ne), ?_⟩, l6, ne, n1, nM, less_owed ok fb.cut _, by rw [lessF_len]; omega⟩⟩
      refine tvs_pv (by rw [lessF_len]) (fun i hi => ?_) (fr_tvs f6 lst4 tp)
      rw [lessF_dbt hi]
      rfl

abbrev s_L_debt : Stmt := topS 27
theorem sc_L_debt : FnScope ["_law_cell", "_law_k", "_law_count", "_law_mixed", "_law_debtor", "_law_creditor", "_law_kind", "_law_amount"] ["_law_cell", "_law_k", "_law_count"] (defScope s_L_debt) := ⟨rfl, rfl, rfl, by decide +kernel, rfl, by decide +kernel, by decide +kernel⟩
def spDebt : Sp := fun vs H Q _ => ∃ c k n : Int, vs = [.int c, .int k, .int n] ∧ 0 ≤ k ∧ k ≤ 1000 ∧ 2 ≤ n ∧ n ≤ 20 ∧ ∀ (d : Debt) (p : Addr), Good n d → H p = none → Q (.ref p) (upd H p (.tup (tV d)))
theorem good_mk {n m u a : Int} (hn : 2 ≤ n) (h1 : 1 ≤ a) (hM : a ≤ 1000000000) : Good n (m % n, (m % n + 1 + u % (n - 1)) % n, a) := by
  have hm := emod_b (x := m) (n := n) (by omega)
  have hu := emod_b (x := u) (n := n - 1) (by omega)
  have hb := emod_b (x := m % n + 1 + u % (n - 1)) (n := n) (by omega)
  exact ⟨hm.1, hm.2, hb.1, hb.2, wrap_ne hm.1 hm.2 hu.1 hu.2, h1, hM⟩
theorem ok_L_debt (D : DefAt K mg "_law_debt" s_L_debt) : Cal P w K mg base CX0 1 "_law_debt" ["_law_cell", "_law_k", "_law_count"] spDebt := by
  refine D.ok sc_L_debt (fun _ _ _ _ _ _ us hl => match us, hl with | [_, _, _], _ => rfl) (fun vs H Q E h => ?_) (fun f cdv A outer s H vs Q E hr h => ?_)
  · obtain ⟨c, k, n, rfl, _⟩ := h
    rfl
  · obtain ⟨c, k, n, rfl, k0, kM, n2, nM, q⟩ := h
    refine ⟨_, (pss_cons (ps_set (i := 3) sc_L_debt.nd rfl (.inl rfl) (pe_op op_mod (pe_op op_mul (pe_op op_add (pe_op op_add (pe_op op_mod (pv 0) pe_int) (pe_op op_mul pe_int (pv 1))) pe_int) pe_int) pe_int))
      (pss_cons (ps_set (i := 4) sc_L_debt.nd rfl (.inl rfl) (pe_op op_mod (pv 3) (pv 2)))
      (pss_cons (ps_set (i := 5) sc_L_debt.nd rfl (.inl rfl) (pe_op op_mod (pe_op op_add (pe_op op_add (pv 4) pe_int) (pe_op op_mod (pe_op op_fdiv (pv 3) (pv 2)) (pe_op op_sub (pv 2) pe_int))) (pv 2)))
      (pss_cons (ps_set (i := 6) sc_L_debt.nd rfl (.inl rfl) (pe_op op_mod (pe_op op_fdiv (pv 3) pe_int) pe_int))
      (pss_cons (ps_set (i := 7) sc_L_debt.nd rfl (.inl rfl) (pe_op op_add pe_int (pe_op op_mod (pe_op op_fdiv (pv 3) pe_int) pe_int)))
      (pss_cons (ps_if (pt_cmpR op_eq (pv 6) pe_int (nomark _)) (pss_one (ps_set (i := 7) sc_L_debt.nd rfl (.inl rfl) (pe_op op_add pe_int (pe_op op_mod (pe_op op_fdiv (pv 3) pe_int) pe_int)))) pss_nil)
      (pss_cons (ps_if (pt_cmpR op_eq (pv 6) pe_int (nomark _)) (pss_one (ps_set (i := 7) sc_L_debt.nd rfl (.inl rfl) (pe_op op_add pe_int (pe_op op_mod (pv 0) pe_int)))) pss_nil)
      (pss_cons (ps_if (pt_cmpR op_eq (pv 6) pe_int (nomark _)) (pss_one (ps_set (i := 7) sc_L_debt.nd rfl (.inl rfl) (pe_op op_sub pe_int (pe_op op_mod (pe_op op_fdiv (pv 3) pe_int) pe_int)))) pss_nil)
      (pss_one (ps_ret (pe_tup (pa_cons (pv 4) (pa_cons (pv 5) (pa_cons (pv 7) pa_nil)))))))))))))), ?_⟩
    walk_at "rdx"
    all_goals exact ⟨szn (by show 3 ≤ 100000; decide), fun p hp => q (_, _, _) p (good_mk n2 (by omega) (by omega)) hp⟩

abbrev s_L_settles : Stmt := topS 28
theorem sc_L_settles : FnScope ["_law_count", "_law_debts", "_law_cut", "_law_heights", "_law_turn", "_law_rising", "_law_number", "_law_debtor", "_law_creditor", "_law_house"] ["_law_count", "_law_debts", "_law_cut"] (defScope s_L_settles) := ⟨rfl, rfl, rfl, by decide +kernel, rfl, by decide +kernel, by decide +kernel⟩
def spSettles (K : PySem.W.Frag) : Sp := fun vs H Q _ => ∃ (n : Int) (a b : Addr) (ds : List Debt) (cs : List Int), vs = [.int n, .ref a, .ref b] ∧ 0 ≤ n ∧ n ≤ 20 ∧ (∀ d ∈ ds, InB n d) ∧ DL K H a ds ∧ SqL K H b (cs.map V.int) ∧ cs.length = ds.length ∧ ds.length ≤ 100 ∧
  ∀ H', Same H H' → Q (.bl (settlesB n ds cs)) H'
theorem relax_len (s : List Int × Bool) (a : Arc) : (relax s a).1.length = s.1.length := by
  unfold relax
  split
  · exact List.length_set
  · rfl
theorem fold_len : ∀ (as : List Arc) (s : List Int × Bool), (as.foldl relax s).1.length = s.1.length
  | [], _ => rfl
  | a :: as, s => by
    rw [List.foldl_cons, fold_len as, relax_len]
def rise1 (d : Debt) (c : Int) (s : List Int × Bool) : List Int × Bool := if c < d.2.2 then relax s (d.1.toNat, d.2.1.toNat, 1) else s
def rise2 (d : Debt) (c : Int) (s : List Int × Bool) : List Int × Bool := if 0 < c then relax s (d.2.1.toNat, d.1.toNat, -1) else s
theorem fold_arcs2 (d : Debt) (c : Int) (s : List Int × Bool) : (arcs2 d c).foldl relax s = rise2 d c (rise1 d c s) := by
  unfold arcs2 rise1 rise2
  rw [List.foldl_append]
  split <;> split <;> rfl
def riseTo (ds : List Debt) (cs : List Int) (k : Nat) (h : List Int) : List Int × Bool := (((ds.zip cs).take k).flatMap fun q => arcs2 q.1 q.2).foldl relax (h, false)
theorem riseTo_add {ds : List Debt} {cs : List Int} {k : Nat} {d : Debt} {c : Int} (h : List Int) (e1 : ds[k]? = some d) (e2 : cs[k]? = some c) : riseTo ds cs (k + 1) h = rise2 d c (rise1 d c (riseTo ds cs k h)) := by
  unfold riseTo
  rw [zip_take e1 e2, List.flatMap_append, List.foldl_append]
  have e : (List.flatMap (fun q : Debt × Int => arcs2 q.1 q.2) [(d, c)]) = arcs2 d c := by
    rw [List.flatMap_cons, List.flatMap_nil, List.append_nil]
  rw [e, fold_arcs2]
theorem riseTo_all {ds : List Debt} {cs : List Int} {k : Nat} (h : List Int) (hk : ds.length ≤ k) : riseTo ds cs k h = turn (arcsOf ds cs) h := by
  unfold riseTo turn arcsOf
  rw [List.take_of_length_le (by rw [List.length_zip]; omega)]
theorem riseTo_len (ds : List Debt) (cs : List Int) (k : Nat) (h : List Int) : (riseTo ds cs k h).1.length = h.length := fold_len _ _
theorem rise1_len (d : Debt) (c : Int) (s : List Int × Bool) : (rise1 d c s).1.length = s.1.length := by
  unfold rise1
  split
  · exact relax_len _ _
  · rfl
theorem ok_L_settles (D : DefAt K mg "_law_settles" s_L_settles) (B : Blt mg) : Cal P w K mg base CX0 1 "_law_settles" ["_law_count", "_law_debts", "_law_cut"] (spSettles K) := by
  refine D.ok sc_L_settles (fun _ _ _ _ _ _ us hl => match us, hl with | [_, _, _], _ => rfl) (fun vs H Q E h => ?_) (fun f cdv A outer s H vs Q E hr h => ?_)
  · obtain ⟨n, a, b, ds, cs, rfl, _⟩ := h
    rfl
  · obtain ⟨n, a, b, ds, cs, rfl, n0, nM, hin, ⟨xs, hS, hX⟩, hC, hcl, hlen, q⟩ := h
    refine ⟨_, (pss_cons (ps_setLc (i := 3) (own := [("_law_house", 9)]) (g := gName 9) rfl sc_L_settles.nd rfl rfl (sw_true rfl rfl rfl (by decide +kernel)) (pi_range1 (by rfl) B.range (pa_cons (pv 0) pa_nil)) (blkOk_by (N := ["_law_count", "_law_debts", "_law_cut", "_law_heights", "_law_turn", "_law_rising", "_law_number", "_law_debtor", "_law_creditor", "_law_house"]) (sc := defScope s_L_settles) (by decide +kernel)) (fun _ _ _ _ _ => (pg_name (i := 9) sc_L_settles.nd rfl (.inl rfl))) (fun _ _ _ _ _ => pts_nil) (fun _ _ _ _ _ => pe_int))
      (pss_cons (ps_for PassesOwn.never rfl (pi_range1 (by rfl) B.range (pa_cons (pe_op op_add (pv 0) pe_int) pa_nil)) (pg_name (i := 4) sc_L_settles.nd rfl (.inl rfl)) (pss_cons (ps_set (i := 5) sc_L_settles.nd rfl (.inl rfl) pe_bl)
        (pss_cons (ps_for PassesOwn.never rfl (pi_range1 (by rfl) B.range (pa_cons (pe_callB (r := rLenQ K) call_len_seq (by rfl) B.len (by decide +kernel) (pa_cons (pv 1) pa_nil)) pa_nil)) (pg_name (i := 6) sc_L_settles.nd rfl (.inl rfl)) (pss_cons (ps_set (i := 7) sc_L_settles.nd rfl (.inl rfl) (pe_ix (r := rIxT K) ix_tup (pe_ix (r := rIxL K) ix_list (pv 1) (pv 6) (fun _ _ => rfl)) pe_int (fun _ _ => rfl)))
          (pss_cons (ps_set (i := 8) sc_L_settles.nd rfl (.inl rfl) (pe_ix (r := rIxT K) ix_tup (pe_ix (r := rIxL K) ix_list (pv 1) (pv 6) (fun _ _ => rfl)) pe_int (fun _ _ => rfl)))
          (_root_.C8.pss_cut (ps_if (PW.pt (pw_and (pt_cmpR op_lt (pe_ix (r := rIxL K) ix_list (pv 2) (pv 6) (fun _ _ => rfl)) (pe_ix (r := rIxT K) ix_tup (pe_ix (r := rIxL K) ix_list (pv 1) (pv 6) (fun _ _ => rfl)) pe_int (fun _ _ => rfl)) (nomark _)) (pw_and1 (pt_cmpR op_gt (pe_op op_add (pe_ix (r := rIxL K) ix_list (pv 3) (pv 7) (fun _ _ => rfl)) pe_int) (pe_ix (r := rIxL K) ix_list (pv 3) (pv 8) (fun _ _ => rfl)) (nomark _))))) (pss_cons (ps_asg (pe_op op_add (pe_ix (r := rIxL K) ix_list (pv 3) (pv 7) (fun _ _ => rfl)) pe_int) (pg_sub (pv 3) (pv 8) set_list))
            (pss_one (ps_set (i := 5) sc_L_settles.nd rfl (.inl rfl) pe_bl))) pss_nil)
          (pss_one (ps_if (PW.pt (pw_and (pt_cmpR op_gt (pe_ix (r := rIxL K) ix_list (pv 2) (pv 6) (fun _ _ => rfl)) pe_int (nomark _)) (pw_and1 (pt_cmpR op_gt (pe_op op_sub (pe_ix (r := rIxL K) ix_list (pv 3) (pv 8) (fun _ _ => rfl)) pe_int) (pe_ix (r := rIxL K) ix_list (pv 3) (pv 7) (fun _ _ => rfl)) (nomark _))))) (pss_cons (ps_asg (pe_op op_sub (pe_ix (r := rIxL K) ix_list (pv 3) (pv 8) (fun _ _ => rfl)) pe_int) (pg_sub (pv 3) (pv 7) set_list))
            (pss_one (ps_set (i := 5) sc_L_settles.nd rfl (.inl rfl) pe_bl))) pss_nil))))))
        (pss_one (ps_if (pt_not (pt_val (pv 5))) (pss_one (ps_ret pe_bl)) pss_nil)))))
      (pss_one (ps_ret pe_bl)))), ?_⟩
    have hxl := dvs_len hX
    refine ⟨_, rfl, n, rfl, by omega, by omega, fun L hL => lc_range (lo := 0) (n := n.toNat) (fun i H1 => Same H H1 ∧ H1 L = some (.lst ((List.replicate i (0 : Int)).map V.int))) ⟨same_new hL, upd_same⟩ ?_ ?_⟩
    · rintro i H1 hi ⟨sm, eL⟩
      refine ⟨rfl, _, eL, szl (by rw [List.length_map, List.length_replicate]; omega), same_mut sm hL, ?_⟩
      rw [upd_same, List.replicate_succ', List.map_append]
      rfl
    rintro H1 ⟨s1, e1⟩
    refine ⟨_, rfl, _, _, rfl, rfl, _, rfl, by show -(2 ^ 62) ≤ n + 1; omega, by show n + 1 < 2 ^ 62; omega, for_range (lo := 0) (n := (n + 1).toNat) (fun k σ H2 => ∃ y4 y5 y6 y7 y8 hs, σ = [some (.int n), some (.ref a), some (.ref b), some (.ref L), y4, y5, y6, y7, y8, none] ∧ Same H H2 ∧ H2 L = some (.lst ((hs : List Int).map V.int)) ∧ hs.length = n.toNat ∧
      settlesB n ds cs = settle (arcsOf ds cs) ((n + 1).toNat - k) hs) ⟨_, _, _, _, _, List.replicate n.toNat 0, rfl, s1, e1, List.length_replicate, by unfold settlesB; congr 1; omega⟩ ?_ ?_⟩
    · rintro k σ H2 hk ⟨y4, y5, y6, y7, y8, hs, rfl, s2, e2, hl, hset⟩
      refine ⟨_, rfl, a, xs, rfl, .inl (s2.seq hS), _, rfl, by omega, by omega, for_range (lo := 0) (n := (xs.length : Int).toNat) (fun j σ H3 => ∃ y6 y7 y8, σ = [some (.int n), some (.ref a), some (.ref b), some (.ref L), some (.int (0 + (k : Int))), some (.bl (riseTo ds cs j hs).2), y6, y7, y8, none] ∧ Same H H3 ∧ H3 L = some (.lst ((riseTo ds cs j hs).1.map V.int)))
        ⟨_, _, _, rfl, s2, e2⟩ ?_ ?_⟩
      · rintro j σ H3 hj ⟨y6, y7, y8, rfl, s3, e3⟩
        have hj' : j < ds.length := by omega
        have ej : (0 : Int) + (j : Int) = (j : Int) := Int.zero_add _
        obtain ⟨v, ev, u, rfl, hU⟩ := dvs_get' (s3.dvs hX) (dbt_at hj')
        have ed := dbt_at hj'
        obtain ⟨a0, an, b0, bn⟩ := hin _ (List.mem_of_getElem? ed)
        have ec : cs[j]? = some (cs.getD j 0) := by
          rw [List.getD_eq_getElem?_getD, List.getElem?_eq_getElem (by omega)]
          rfl
        have er : atI (cs.map V.int) (0 + (j : Int)) = some (.int (cs.getD j 0)) := by
          have z := at_int (l := cs) (i := (j : Int)) (by omega) (by omega)
          rw [ej, z]
          rfl
        have radd := riseTo_add hs ed ec
        generalize dbt ds j = d at hU ed a0 an b0 bn radd
        generalize cs.getD j 0 = c at er ec radd
        have slen := riseTo_len ds cs j hs
        rw [hl] at slen
        generalize hst : riseTo ds cs j hs = st at radd slen e3
        have hS3 := s3.seq hS
        have hC3 := s3.seq hC
        refine ⟨_, rfl, _, rfl, a, xs, _, _, rfl, rfl, hS3, at_of ej ev, u, _, 0, _, rfl, rfl, hU, rfl, ?_⟩
        refine ⟨_, rfl, _, rfl, a, xs, _, _, rfl, rfl, hS3, at_of ej ev, u, _, 1, _, rfl, rfl, hU, rfl, ?_⟩
        walk_at "nf"
        refine ⟨fun σ' H' => σ' = [some (.int n), some (.ref a), some (.ref b), some (.ref L), some (.int (0 + (k : Int))), some (.bl (rise1 d c st).2), some (.int (0 + (j : Int))), some (.int d.1), some (.int d.2.1), none] ∧ Same H H' ∧ H' L = some (.lst ((rise1 d c st).1.map V.int)), ?_, ?_⟩
        · have eu : atI (st.1.map V.int) d.1 = some (.int (hAt st.1 d.1.toNat)) := at_int a0 (by omega)
          have ew : atI (st.1.map V.int) d.2.1 = some (.int (hAt st.1 d.2.1.toNat)) := at_int b0 (by omega)
          refine ⟨_, rfl, _, rfl, b, _, _, _, rfl, rfl, hC3, er, _, rfl, _, rfl, a, xs, _, _, rfl, rfl, hS3, at_of ej ev, u, _, 2, _, rfl, rfl, hU, rfl, _, _, rfl, rfl, _, rfl, ?_⟩
          by_cases h1 : c < d.2.2
          · rw [decide_eq_true h1]
            refine ⟨_, rfl, _, rfl, L, _, _, _, rfl, rfl, SqL.of e3, eu, _, _, rfl, rfl, _, rfl, _, rfl, L, _, _, _, rfl, rfl, SqL.of e3, ew, _, _, rfl, rfl, _, rfl, ?_⟩
            by_cases h2 : hAt st.1 d.2.1.toNat < hAt st.1 d.1.toNat + 1
            · have e1 : rise1 d c st = (st.1.set d.2.1.toNat (hAt st.1 d.1.toNat + 1), true) := by
                unfold rise1 relax raises
                rw [if_pos h1, if_pos (decide_eq_true h2)]
              rw [decide_eq_true h2, e1]
              refine ⟨_, rfl, _, rfl, L, _, _, _, rfl, rfl, SqL.of e3, eu, _, _, rfl, rfl, _, rfl, _, rfl, L, _, _, _, rfl, rfl, e3, ix_int b0 (by omega), ?_⟩
              exact ⟨rfl, same_mut s3 hL, by rw [upd_same, set_int]⟩
            · have e1 : rise1 d c st = st := by
                unfold rise1 relax raises
                rw [if_pos h1, if_neg (fun z => h2 (of_decide_eq_true z))]
              rw [decide_eq_false h2, e1]
              exact ⟨rfl, s3, e3⟩
          · have e1 : rise1 d c st = st := by
              unfold rise1
              rw [if_neg h1]
            rw [decide_eq_false h1, e1]
            exact ⟨rfl, s3, e3⟩
        rintro σ' H4 ⟨rfl, s4, e4⟩
        have tl := rise1_len d c st
        generalize rise1 d c st = st at radd e4 tl
        rename_i st0
        have hC4 := s4.seq hC
        have eu : atI (st.1.map V.int) d.1 = some (.int (hAt st.1 d.1.toNat)) := at_int a0 (by omega)
        have ew : atI (st.1.map V.int) d.2.1 = some (.int (hAt st.1 d.2.1.toNat)) := at_int b0 (by omega)
        refine ⟨_, rfl, _, rfl, b, _, _, _, rfl, rfl, hC4, er, _, _, rfl, rfl, _, rfl, ?_⟩
        by_cases h1 : 0 < c
        · rw [decide_eq_true h1]
          refine ⟨_, rfl, _, rfl, L, _, _, _, rfl, rfl, SqL.of e4, ew, _, _, rfl, rfl, _, rfl, _, rfl, L, _, _, _, rfl, rfl, SqL.of e4, eu, _, _, rfl, rfl, _, rfl, ?_⟩
          by_cases h2 : hAt st.1 d.1.toNat < hAt st.1 d.2.1.toNat - 1
          · have e1 : rise2 d c st = (st.1.set d.1.toNat (hAt st.1 d.2.1.toNat - 1), true) := by
              unfold rise2 relax raises
              rw [if_pos h1, if_pos (decide_eq_true (show hAt st.1 d.1.toNat < hAt st.1 d.2.1.toNat + -1 by omega))]
              rfl
            rw [decide_eq_true h2, radd, e1]
            refine ⟨_, rfl, _, rfl, L, _, _, _, rfl, rfl, SqL.of e4, ew, _, _, rfl, rfl, _, rfl, _, rfl, L, _, _, _, rfl, rfl, e4, ix_int a0 (by omega), ?_⟩
            exact ⟨_, _, _, rfl, same_mut s4 hL, by rw [upd_same, set_int]⟩
          · have e1 : rise2 d c st = st := by
              unfold rise2 relax raises
              rw [if_pos h1, if_neg (fun z => h2 (by
                have z' : hAt st.1 d.1.toNat < hAt st.1 d.2.1.toNat + -1 := of_decide_eq_true z
                omega))]
            rw [decide_eq_false h2, radd, e1]
            exact ⟨_, _, _, rfl, s4, e4⟩
        · have e1 : rise2 d c st = st := by
            unfold rise2
            rw [if_neg h1]
          rw [decide_eq_false h1, radd, e1]
          exact ⟨_, _, _, rfl, s4, e4⟩
      · rintro σ H3 ⟨y6, y7, y8, rfl, s3, e3⟩
        have el := riseTo_len ds cs (xs.length : Int).toNat hs
        rw [riseTo_all hs (by omega)] at e3 el
        rw [riseTo_all hs (by omega)]
        obtain ⟨m, hm⟩ : ∃ m, (n + 1).toNat - k = m + 1 := ⟨(n + 1).toNat - k - 1, by omega⟩
        have hm2 : (n + 1).toNat - (k + 1) = m := by omega
        rw [hm] at hset
        unfold settle at hset
        refine ⟨_, rfl, _, rfl, ?_⟩
        cases hb : (turn (arcsOf ds cs) hs).2 with
        | true =>
          rw [hb] at hset
          refine ⟨_, _, _, _, _, _, rfl, s3, e3, by rw [el, hl], ?_⟩
          rw [hm2]
          exact hset
        | false =>
          rw [hb] at hset
          have z := q H3 s3
          rw [hset] at z
          exact z
    · rintro σ H2 ⟨y4, y5, y6, y7, y8, hs, rfl, s2, e2, hl, hset⟩
      rw [Nat.sub_self] at hset
      have z := q H2 s2
      rw [hset] at z
      exact z

abbrev s_L_sums : Stmt := topS 30
theorem sc_L_sums : FnScope ["_law_count", "_law_rows", "_law_sums_here", "_law_row", "_law_house"] ["_law_count", "_law_rows"] (defScope s_L_sums) := ⟨rfl, rfl, rfl, by decide +kernel, rfl, by decide +kernel, by decide +kernel⟩
def spSums (K : PySem.W.Frag) : Sp := fun vs H Q _ => ∃ (n : Int) (R : Addr) (rs : List Addr) (ds : List Debt), vs = [.int n, .ref R] ∧ 0 ≤ n ∧ n ≤ 20 ∧ Rows H R rs ds ∧ (∀ d ∈ ds, InB n d) ∧ ∀ (H' : Hp) (L : Addr), Same H H' → H L = none → H' L = some (.lst ((bal n ds).map V.int)) → Q (.ref L) H'
theorem ok_L_sums (D : DefAt K mg "_law_sums" s_L_sums) (B : Blt mg) : Cal P w K mg base CX0 1 "_law_sums" ["_law_count", "_law_rows"] (spSums K) := by
  refine D.ok sc_L_sums (fun _ _ _ _ _ _ us hl => match us, hl with | [_, _], _ => rfl) (fun vs H Q E h => ?_) (fun f cdv A outer s H vs Q E hr h => ?_)
  · obtain ⟨n, R, rs, ds, rfl, _⟩ := h
    rfl
  · obtain ⟨n, R, rs, ds, rfl, n0, nM, Rw, hin, q⟩ := h
    refine ⟨_, (pss_cons (ps_setLc (i := 2) (own := [("_law_house", 4)]) (g := gName 4) rfl sc_L_sums.nd rfl rfl (sw_true rfl rfl rfl (by decide +kernel)) (pi_range1 (by rfl) B.range (pa_cons (pv 0) pa_nil)) (blkOk_by (N := ["_law_count", "_law_rows", "_law_sums_here", "_law_row", "_law_house"]) (sc := defScope s_L_sums) (by decide +kernel)) (fun _ _ _ _ _ => (pg_name (i := 4) sc_L_sums.nd rfl (.inl rfl))) (fun _ _ _ _ _ => pts_nil) (fun _ _ _ _ _ => pe_int))
      (pss_cons (ps_for PassesOwn.never rfl (pi_list (pv 1)) (pg_name (i := 3) sc_L_sums.nd rfl (.inl rfl)) (pss_cons (ps_asg (pe_op op_sub (pe_ix (r := rIxL K) ix_list (pv 2) (pe_ix (r := rIxL K) ix_list (pv 3) pe_int (fun _ _ => rfl)) (fun _ _ => rfl)) (pe_ix (r := rIxL K) ix_list (pv 3) pe_int (fun _ _ => rfl))) (pg_sub (pv 2) (pe_ix (r := rIxL K) ix_list (pv 3) pe_int (fun _ _ => rfl)) set_list))
        (pss_one (ps_asg (pe_op op_add (pe_ix (r := rIxL K) ix_list (pv 2) (pe_ix (r := rIxL K) ix_list (pv 3) pe_int (fun _ _ => rfl)) (fun _ _ => rfl)) (pe_ix (r := rIxL K) ix_list (pv 3) pe_int (fun _ _ => rfl))) (pg_sub (pv 2) (pe_ix (r := rIxL K) ix_list (pv 3) pe_int (fun _ _ => rfl)) set_list)))))
      (pss_one (ps_ret (pv 2))))), ?_⟩
    have top := Rw.top
    have rl := Rw.len
    have tl : (rs.map V.ref).length = ds.length := by rw [List.length_map, rl]
    refine ⟨_, rfl, n, rfl, by omega, by omega, fun L hL => lc_range (lo := 0) (n := n.toNat) (fun i H1 => Same H H1 ∧ H1 L = some (.lst ((List.replicate i (0 : Int)).map V.int))) ⟨same_new hL, upd_same⟩ ?_ ?_⟩
    · rintro i H1 hi ⟨sm, eL⟩
      refine ⟨rfl, _, eL, szl (by rw [List.length_map, List.length_replicate]; omega), same_mut sm hL, ?_⟩
      rw [upd_same, List.replicate_succ', List.map_append]
      rfl
    rintro H0 ⟨s1, e1⟩
    have e0 : H0 L = some (.lst ((bal n (ds.take 0)).map V.int)) := e1
    refine ⟨_, rfl, R, rfl, ⟨_, SqL.of (s1 _ _ top)⟩, for_list (xs := rs.map V.ref) (fun i σ H1 => ∃ y3 y4, σ = [some (.int n), some (.ref R), some (.ref L), y3, y4] ∧ Same H H1 ∧ H1 L = some (.lst ((bal n (ds.take i)).map V.int)))
      ⟨_, _, rfl, s1, e0⟩ ?_ ?_ ?_⟩
    · rintro i σ H1 _ ⟨_, _, _, sm, _⟩
      exact SqL.of (sm _ _ top)
    · rintro i x σ H1 hx ⟨y3, y4, rfl, sm, eL⟩
      have hi : i < ds.length := by
        have := (List.getElem?_eq_some_iff.mp hx).1
        omega
      obtain ⟨r, er, em, hr⟩ := (Rw.same sm).get hi
      rw [em] at hx
      cases hx
      have ok := hin _ (List.mem_of_getElem? (dbt_at hi))
      have a0 := ok.a0
      have an := ok.an
      have b0 := ok.b0
      have bn := ok.bn
      have ed := dbt_at hi
      have hr0 : H r ≠ none := fun z => by
        obtain ⟨r', er', _, hr'⟩ := Rw.get hi
        rw [er] at er'
        cases er'
        rw [z] at hr'
        cases hr'
      generalize dbt ds i = d at hr a0 an b0 bn ed
      have hl := bal_len n (ds.take i)
      have rL : r ≠ L := fun z => hr0 (z ▸ hL)
      have hT : SqL K H1 r (tV d) := SqL.of hr
      refine ⟨_, rfl, _, rfl, r, _, 0, .int d.1, rfl, rfl, hT, rfl, L, _, d.1, _, rfl, rfl, SqL.of eL, at_int a0 (by omega), _, rfl, r, _, 2, .int d.2.2, rfl, rfl, hT, rfl, _, _, rfl, rfl, ?_⟩
      refine ⟨_, rfl, _, rfl, r, _, 0, .int d.1, rfl, rfl, hT, rfl, L, _, _, _, rfl, rfl, eL, ix_int a0 (by omega), ?_⟩
      have e1 : ((bal n (ds.take i)).map V.int).set d.1.toNat (.int ((bal n (ds.take i)).getD d.1.toNat 0 - d.2.2)) = (addAt (bal n (ds.take i)) d.1 (-d.2.2)).map V.int := by
        rw [set_int]
        rfl
      have hl1 := addAt_len (bal n (ds.take i)) d.1 (-d.2.2)
      have hT1 : SqL K (upd H1 L (.lst (((bal n (ds.take i)).map V.int).set d.1.toNat (.int ((bal n (ds.take i)).getD d.1.toNat 0 - d.2.2))))) r (tV d) := SqL.of (by rw [upd_ne rL]; exact hr)
      refine ⟨_, rfl, _, rfl, r, _, 1, .int d.2.1, rfl, rfl, hT1, rfl, L, (addAt (bal n (ds.take i)) d.1 (-d.2.2)).map V.int, d.2.1, _, rfl, rfl, SqL.of (by rw [upd_same]; exact congrArg some (congrArg HO.lst e1)), at_int b0 (by omega), _, rfl, r, _, 2, .int d.2.2, rfl, rfl, hT1, rfl, _, _, rfl, rfl, ?_⟩
      refine ⟨_, rfl, _, rfl, r, _, 1, .int d.2.1, rfl, rfl, hT1, rfl, L, _, _, _, rfl, rfl, (by rw [upd_same]; exact congrArg some (congrArg HO.lst e1)), ix_int b0 (by omega), ?_⟩
      refine ⟨_, _, rfl, same_mut (same_mut sm hL) hL, ?_⟩
      rw [upd_same, set_int, bal_take ed]
      rfl
    · rintro σ H1 ⟨y3, y4, rfl, sm, eL⟩
      rw [tl, List.take_length] at eL
      exact ⟨_, rfl, q H1 L sm hL eL⟩

abbrev s_L_ringless : Stmt := topS 29
theorem sc_L_ringless : FnScope ["_law_count", "_law_rows", "_law_there", "_law_house", "_law_turn", "_law_free", "_law_row"] ["_law_count", "_law_rows"] (defScope s_L_ringless) := ⟨rfl, rfl, rfl, by decide +kernel, rfl, by decide +kernel, by decide +kernel⟩
def spRingless : Sp := fun vs H Q _ => ∃ (n : Int) (R : Addr) (rs : List Addr) (ds : List Debt), vs = [.int n, .ref R] ∧ 0 ≤ n ∧ n ≤ 20 ∧ Rows H R rs ds ∧ ds.length ≤ 100 ∧ (∀ d ∈ ds, InB n d) ∧ (∃ p, Rises p ds) ∧ ∀ (H' : Hp), Same H H' → Q (.bl true) H'
def kvH (S : List Nat) : List (Key × V) := S.map fun h : Nat => (Sum.inl (h : Int), V.bl true)
theorem kvH_len (S : List Nat) : (kvH S).length = S.length := List.length_map _
theorem kvH_val : ∀ (S : List Nat) (h : Nat), valV (kvH S) (Sum.inl (h : Int)) = if h ∈ S then some (.bl true) else none
  | [], h => rfl
  | a :: S, h => by
    have ih := kvH_val S h
    show valV ((Sum.inl (a : Int), V.bl true) :: kvH S) (Sum.inl (h : Int)) = _
    by_cases e : a = h
    · subst e
      rw [valV_pos rfl, if_pos List.mem_cons_self]
    · rw [valV_neg (fun z => e (by have := Sum.inl.inj z; omega)), ih]
      by_cases m : h ∈ S
      · rw [if_pos m, if_pos (List.mem_cons_of_mem _ m)]
      · rw [if_neg m, if_neg fun z => ?_]
        rcases List.mem_cons.mp z with y | y
        · exact e y.symm
        · exact m y
theorem kvH_drop : ∀ (S : List Nat) (h : Nat), dropK (kvH S) (Sum.inl (h : Int)) = kvH (S.filter fun x => decide (x ≠ h))
  | [], h => rfl
  | a :: S, h => by
    have ih := kvH_drop S h
    show dropK ((Sum.inl (a : Int), V.bl true) :: kvH S) (Sum.inl (h : Int)) = _
    by_cases e : a = h
    · subst e
      rw [dropK_pos rfl, ih, List.filter_cons, if_neg (by simp)]
    · rw [dropK_neg (fun z => e (by have := Sum.inl.inj z; omega)), ih, List.filter_cons, if_pos (by simp [e])]
      rfl
theorem kvH_put {S : List Nat} {h : Nat} (n : h ∉ S) : putK (kvH S) (Sum.inl (h : Int)) (.bl true) = kvH (S ++ [h]) := by
  rw [putK_new _ (by rw [kvH_val, if_neg n])]
  unfold kvH
  rw [List.map_append]
  rfl
theorem kvH_at {S : List Nat} {i : Nat} {k : Key} {v : V} (h : (kvH S)[i]? = some (k, v)) : ∃ x : Nat, S[i]? = some x ∧ k = Sum.inl (x : Int) := by
  unfold kvH at h
  rw [List.getElem?_map] at h
  cases e : S[i]? with
  | none =>
    rw [e] at h
    cases h
  | some x =>
    rw [e] at h
    cases h
    exact ⟨x, rfl, rfl⟩
/-- a house owes something to one that is there -/
def owesB (S : List Nat) (h : Nat) (d : Debt) : Bool := decide (d.1 = (h : Int)) && (decide (0 < d.2.2) && decide (d.2.1.toNat ∈ S))
def freeB (S : List Nat) (ds : List Debt) (h : Nat) : Bool := !(ds.any (owesB S h))
theorem top_of (p : Int → Int) : ∀ S : List Nat, S ≠ [] → ∃ h ∈ S, ∀ x ∈ S, p (x : Int) ≤ p (h : Int)
  | [], h => absurd rfl h
  | [a], _ => ⟨a, List.mem_cons_self, fun x hx => by rw [List.mem_singleton.mp hx]; exact Int.le_refl _⟩
  | a :: b :: S, _ => by
    obtain ⟨h, hh, m⟩ := top_of p (b :: S) (by simp)
    by_cases z : p (a : Int) ≤ p (h : Int)
    · refine ⟨h, List.mem_cons_of_mem _ hh, fun x hx => ?_⟩
      rcases List.mem_cons.mp hx with rfl | y
      · exact z
      · exact m x y
    · refine ⟨a, List.mem_cons_self, fun x hx => ?_⟩
      rcases List.mem_cons.mp hx with rfl | y
      · exact Int.le_refl _
      · have := m x y
        omega
theorem free_less {n : Int} {p : Int → Int} {S : List Nat} {ds : List Debt} (hd : ∀ d ∈ ds, InB n d) (r : Rises p ds) (ne : S ≠ []) : (S.filter fun x => !freeB S ds x).length < S.length := by
  obtain ⟨h, hh, m⟩ := top_of p S ne
  refine List.length_filter_lt_length_iff_exists.mpr ⟨h, hh, fun z => ?_⟩
  unfold freeB at z
  rw [Bool.not_not] at z
  obtain ⟨d, hd', e⟩ := List.any_eq_true.mp z
  unfold owesB at e
  rw [Bool.and_eq_true, Bool.and_eq_true] at e
  obtain ⟨e1, e2, e3⟩ := e
  have e1 := of_decide_eq_true e1
  have e2 := of_decide_eq_true e2
  have e3 := of_decide_eq_true e3
  have q := r d hd' e2
  have b0 := (hd d hd').b0
  have y := m _ e3
  rw [Int.toNat_of_nonneg b0] at y
  rw [e1] at q
  omega
theorem any_snoc {α : Type} (f : α → Bool) (l : List α) (x : α) : ((l ++ [x]).map f).map V.bl = (l.map f).map V.bl ++ [.bl (f x)] := by
  rw [List.map_append, List.map_append]
  rfl
theorem any_id {α : Type} (f : α → Bool) (l : List α) : (l.map f).any id = l.any f := by
  rw [List.any_map]
  rfl
theorem filter_take {S F : List Nat} {j : Nat} {x : Nat} (e : F[j]? = some x) : (S.filter fun y => decide (y ∉ F.take j)).filter (fun y => decide (y ≠ x)) = S.filter fun y => decide (y ∉ F.take (j + 1)) := by
  rw [List.filter_filter]
  refine List.filter_congr fun y _ => ?_
  rw [List.take_add_one, e]
  show (decide (y ≠ x) && decide (y ∉ F.take j)) = decide (y ∉ F.take j ++ [x])
  rw [Bool.eq_iff_iff, Bool.and_eq_true, decide_eq_true_iff, decide_eq_true_iff, decide_eq_true_iff, List.mem_append, List.mem_singleton, not_or]
  exact And.comm
theorem ok_L_ringless (D : DefAt K mg "_law_ringless" s_L_ringless) (B : Blt mg) : Cal P w K mg base CX0 1 "_law_ringless" ["_law_count", "_law_rows"] spRingless := by
  refine D.ok sc_L_ringless (fun _ _ _ _ _ _ us hl => match us, hl with | [_, _], _ => rfl) (fun vs H Q E h => ?_) (fun f cdv A outer s H vs Q E hr h => ?_)
  · obtain ⟨n, R, rs, ds, rfl, _⟩ := h
    rfl
  · obtain ⟨n, R, rs, ds, rfl, n0, nM, Rw, few, hin, ⟨pr, ri⟩, q⟩ := h
    refine ⟨_, (pss_cons (ps_set (i := 2) sc_L_ringless.nd rfl (.inr rfl) pe_dnewK)
      (pss_cons (ps_for PassesOwn.never rfl (pi_range1 (by rfl) B.range (pa_cons (pv 0) pa_nil)) (pg_name (i := 3) sc_L_ringless.nd rfl (.inr rfl)) (pss_one (ps_dput (hu_of hr) (pv 2) (pv 3) pe_bl rfl)))
      (pss_cons (ps_for PassesOwn.never rfl (pi_range1 (by rfl) B.range (pa_cons (pv 0) pa_nil)) (pg_name (i := 4) sc_L_ringless.nd rfl (.inl rfl)) (pss_cons (ps_set (i := 5) sc_L_ringless.nd rfl (.inl rfl) (pe_lst pa_nil))
        (pss_cons (ps_lock (ps_for PassesOwn.never rfl (pi_keys (pv 2)) (pg_name (i := 3) sc_L_ringless.nd rfl (.inr rfl)) (pss_one (ps_if (pt_not (pt_val (pe_callB (r := rAny K) (cr_any rfl) (by rfl) B.any (by decide +kernel) (pa_cons (pe_lc (own := [("_law_row", 6)]) (g := gName 6) rfl sc_L_ringless.nd (pi_list (pv 1)) (blkOk_by (N := ["_law_count", "_law_rows", "_law_there", "_law_house", "_law_turn", "_law_free", "_law_row"]) (sc := defScope s_L_ringless) (by decide +kernel)) (fun _ _ _ _ _ => (pg_name (i := 6) sc_L_ringless.nd rfl (.inl rfl))) (fun _ _ _ _ _ => pts_nil) (fun _ _ _ _ _ => (pe_and (pe_cmpR op_eq (pe_ix (r := rIxL K) ix_list (pv 6) pe_int (fun _ _ => rfl)) (pv 3) (nomark _)) (pe_and (pe_cmpR op_gt (pe_ix (r := rIxL K) ix_list (pv 6) pe_int (fun _ _ => rfl)) pe_int (nomark _)) (pe_one (pe_cmp (pc_din (hu_of hr) (pe_ix (r := rIxL K) ix_list (pv 6) pe_int (fun _ _ => rfl)) (pv 2)))))))) pa_nil)))) (pss_one (ps_expr (pe_bm PySem.F.plainAttrs_list PySem.F.slot_list_append PySem.F.type_list_append mt_append (pv 5) (pa_cons (pv 3) pa_nil)))) pss_nil))))
        (pss_one (ps_for PassesOwn.never rfl (pi_list (pv 5)) (pg_name (i := 3) sc_L_ringless.nd rfl (.inr rfl)) (pss_one (ps_expr (pe_dpop1 (pv 2) (pv 3) ⟨rfl, rfl, rfl, rfl⟩))))))))
      (pss_one (ps_ret (pe_cmpR op_eq (pe_callB (r := rLenD) call_lenD (by rfl) B.len (by decide +kernel) (pa_cons (pv 2) pa_nil)) pe_int (nomark _))))))), ?_⟩
    have top := Rw.top
    have rl := Rw.len
    have tl : (rs.map V.ref).length = ds.length := by rw [List.length_map, rl]
    refine fun D hD => ?_
    have s0 := same_new (o := .dK []) hD
    refine ⟨_, rfl, n, rfl, by omega, by omega, for_range (lo := 0) (n := n.toNat) (fun i σ H1 => ∃ y3, σ = [some (.int n), some (.ref R), some (.ref D), y3, none, none, none] ∧ Same H H1 ∧ H1 D = some (.dK (kvH (List.range i)))) ⟨_, rfl, s0, upd_same⟩ ?_ ?_⟩
    · rintro i σ H1 hi ⟨y3, rfl, s1, e1⟩
      have e : V.int (0 + (i : Int)) = kV (Sum.inl (i : Int)) := by rw [Int.zero_add]; rfl
      refine ⟨_, rfl, _, rfl, D, upd H1 D (.dK (putK (kvH (List.range i)) (Sum.inl (i : Int)) (.bl true))), rfl, ?_, ?_⟩
      · rw [e]
        exact DPut.k e1 (szl (by rw [kvH_len, List.length_range]; omega))
      · rw [kvH_put (by simp), ← List.range_succ]
        exact ⟨_, rfl, same_mut s1 hD, upd_same⟩
    rintro σ H1 ⟨y3, rfl, s1, e1⟩
    refine ⟨_, rfl, n, rfl, by omega, by omega, for_range (lo := 0) (n := n.toNat) (fun i σ H1 => ∃ (S : List Nat) (y3 y4 y5 : Option V), σ = [some (.int n), some (.ref R), some (.ref D), y3, y4, y5, none] ∧ Same H H1 ∧ H1 D = some (.dK (kvH S)) ∧ S.Nodup ∧ S.length + i ≤ n.toNat) ⟨List.range n.toNat, _, _, _, rfl, s1, e1, List.nodup_range, by rw [List.length_range]; omega⟩ ?_ ?_⟩
    · clear s1 e1 s0
      rintro i σ H1 hi ⟨S, y3, y4, y5, rfl, s1, e1, nd, sl⟩
      refine ⟨lb rfl, fun L hL => ?_⟩
      have sL := same_new (o := .lst []) hL
      have eL : (upd H1 L (.lst [])) L = some (.lst []) := upd_same
      have hL0 : H L = none := s1.free hL
      have s2 := s1.trans sL
      have e2 := sL _ _ e1
      have nDL : D ≠ L := fun z => by
        rw [z, hL] at e1
        cases e1
      generalize upd H1 L (.lst []) = H2 at s2 e2 eL
      clear sL hL s1 e1
      refine ⟨D, _, e2, trivial, fun od => ⟨_, rfl, D, od, rfl, .inl ⟨_, upd_same, for_it (walk_keys (kvs := kvH S)) (fun j σ H3 => ∃ y3, σ = [some (.int n), some (.ref R), some (.ref D), y3, some (.int (0 + (i : Int))), some (.ref L), none] ∧ Same H H3 ∧ H3 D = some (.frz od (.dK (kvH S))) ∧
        H3 L = some (.lst (((S.take j).filter (freeB S ds)).map fun x : Nat => V.int (x : Int)))) ⟨_, rfl, same_mut s2 hD, upd_same, by rw [upd_ne nDL.symm]; exact eL⟩ ?_ ?_ ?_⟩⟩⟩
      · rintro j σ H3 _ ⟨_, _, _, e3, _⟩
        exact e3
      · rintro j x σ Hq H3 hj ⟨y3, rfl, s3, e3, l3⟩ ⟨rfl, k, v, ek, rfl⟩
        obtain ⟨hh, eh, rfl⟩ := kvH_at ek
        rw [kvH_len] at hj
        refine ⟨_, rfl, R, rfl, ⟨_, SqL.of (s3 _ _ top)⟩, fun M hM => lc_list (xs := rs.map V.ref) (fun i H4 => Same H3 H4 ∧ H4 M = some (.lst (((ds.take i).map (owesB S hh)).map V.bl))) ⟨same_new hM, upd_same⟩ ?_ ?_ ?_⟩
        · rintro m H4 _ ⟨s4, _⟩
          exact SqL.of (s4 _ _ (s3 _ _ top))
        · rintro m x H4 hx ⟨s4, e4⟩
          have hm : m < ds.length := by
            have := (List.getElem?_eq_some_iff.mp hx).1
            omega
          obtain ⟨r, er, em, hr⟩ := (Rw.same (s3.trans s4)).get hm
          rw [em] at hx
          cases hx
          have ed := dbt_at hm
          have b0 := (hin _ (List.mem_of_getElem? ed)).b0
          have fin : ∀ b : Bool, b = owesB S hh (dbt ds m) → ∃ acc, H4 M = some (.lst acc) ∧ acc.length < sizeLine ∧ (Same H3 (upd H4 M (.lst (acc ++ [V.bl b]))) ∧ (upd H4 M (.lst (acc ++ [V.bl b]))) M = some (.lst (((ds.take (m + 1)).map (owesB S hh)).map V.bl))) := fun b eb => by
            refine ⟨_, e4, szl (by rw [List.length_map, List.length_map, List.length_take]; omega), same_mut s4 hM, ?_⟩
            rw [upd_same, List.take_add_one, ed]
            show _ = some (HO.lst (((ds.take m ++ [dbt ds m]).map (owesB S hh)).map V.bl))
            rw [any_snoc, eb]
          refine ⟨rfl, _, rfl, r, _, 0, _, rfl, rfl, SqL.of hr, rfl, _, rfl, rfl, _, rfl, ite2 (fun c1 => ?_) (fun c1 => ?_)⟩
          · refine ⟨_, rfl, r, _, 2, _, rfl, rfl, SqL.of hr, rfl, _, _, rfl, rfl, _, rfl, ite2 (fun c2 => ?_) (fun c2 => ?_)⟩
            · refine ⟨_, rfl, r, _, 1, _, rfl, rfl, SqL.of hr, rfl, _, rfl, D, valV (kvH S) (Sum.inl ((dbt ds m).2.1.toNat : Int)), rfl, .inl ⟨kvH S, Sum.inl ((dbt ds m).2.1.toNat : Int), .inr ⟨od, s4 _ _ e3⟩, ?_, rfl⟩, ?_⟩
              · rw [Int.toNat_of_nonneg b0]
                rfl
              · refine fin _ ?_
                unfold owesB
                have c1 := of_decide_eq_true c1
                have c1 : (dbt ds m).1 = (hh : Int) := V.int.inj c1
                have c2 := of_decide_eq_true c2
                rw [decide_eq_true c1, decide_eq_true c2, kvH_val]
                by_cases z : (dbt ds m).2.1.toNat ∈ S
                · rw [if_pos z, decide_eq_true z]
                  rfl
                · rw [if_neg z, decide_eq_false z]
                  rfl
            · refine fin _ ?_
              unfold owesB
              rw [Bool.eq_false_iff.mpr c2, Bool.false_and, Bool.and_false]
          · refine fin _ ?_
            unfold owesB
            rw [decide_eq_false fun z => c1 (decide_eq_true (congrArg V.int z)), Bool.false_and]
        · rintro H4 ⟨s4, e4⟩
          rw [tl, List.take_length] at e4
          refine ⟨M, _, rfl, SqL.of e4, _, rfl, ?_⟩
          rw [any_id]
          have s04 := s3.trans s4
          have ef : S.take (j + 1) = S.take j ++ [hh] := by
            rw [List.take_add_one, eh]
            rfl
          refine ite2 (fun c => ?_) (fun c => ?_)
          · have c : freeB S ds hh = true := c
            have l4 := s4 _ _ l3
            refine ⟨_, rfl, .inl ⟨rfl, _, SqL.of l4⟩, _, rfl, L, _, _, rfl, rfl, l4, szl ?_, ?_⟩
            · have f1 := List.length_filter_le (freeB S ds) (S.take j)
              rw [List.length_map]
              rw [List.length_take] at f1
              omega
            · refine ⟨_, rfl, same_mut s04 hL0, by rw [upd_ne nDL]; exact s4 _ _ e3, ?_⟩
              rw [upd_same, ef, List.filter_append, List.filter_cons, if_pos c, List.map_append]
              rfl
          · have c : ¬ freeB S ds hh = true := c
            refine ⟨_, rfl, s04, s4 _ _ e3, ?_⟩
            rw [ef, List.filter_append, List.filter_cons, if_neg c, List.filter_nil, List.append_nil]
            exact s4 _ _ l3
      · rintro σ H3 ⟨y3, rfl, s3, e3, l3⟩
        refine ⟨e3, ?_⟩
        rw [kvH_len, List.take_length] at l3
        have s4 := same_mut (o := .dK (kvH S)) s3 hD
        have e4 : (upd H3 D (.dK (kvH S))) D = some (.dK (kvH S)) := upd_same
        have l4 : (upd H3 D (.dK (kvH S))) L = some (.lst ((S.filter (freeB S ds)).map fun x : Nat => V.int (x : Int))) := by
          rw [upd_ne nDL.symm]
          exact l3
        generalize upd H3 D (.dK (kvH S)) = H4 at s4 e4 l4
        have fnd := nd.filter (freeB S ds)
        have fm : ∀ x, x ∈ S.filter (freeB S ds) ↔ x ∈ S ∧ freeB S ds x = true := fun x => List.mem_filter
        generalize S.filter (freeB S ds) = Fr at l4 fnd fm
        refine ⟨_, rfl, L, rfl, ⟨_, SqL.of l4⟩, for_list (xs := Fr.map fun x : Nat => V.int (x : Int)) (fun j σ H5 => ∃ y3, σ = [some (.int n), some (.ref R), some (.ref D), y3, some (.int (0 + (i : Int))), some (.ref L), none] ∧ Same H H5 ∧ H5 D = some (.dK (kvH (S.filter fun y => decide (y ∉ Fr.take j)))) ∧ H5 L = some (.lst (Fr.map fun x : Nat => V.int (x : Int)))) ⟨_, rfl, s4, ?_, l4⟩ ?_ ?_ ?_⟩
        · rw [e4, List.take_zero, List.filter_eq_self.mpr fun y _ => decide_eq_true List.not_mem_nil]
        · rintro j σ H5 _ ⟨_, _, _, _, l5⟩
          exact SqL.of l5
        · rintro j x σ H5 hx ⟨y3, rfl, s5, e5, l5⟩
          obtain ⟨hh, eh, rfl⟩ : ∃ hh : Nat, Fr[j]? = some hh ∧ x = V.int (hh : Int) := by
            rw [List.getElem?_map] at hx
            cases e : Fr[j]? with
            | none =>
              rw [e] at hx
              cases hx
            | some y =>
              rw [e] at hx
              exact ⟨y, rfl, (Option.some.inj hx).symm⟩
          have hS := ((fm hh).mp (List.mem_of_getElem? eh)).1
          have hnot : hh ∉ Fr.take j := fun z => by
            obtain ⟨m, hm, em⟩ := List.getElem_of_mem z
            rw [List.length_take] at hm
            rw [List.getElem_take] at em
            obtain ⟨hj, ej⟩ := List.getElem?_eq_some_iff.mp eh
            exact List.pairwise_iff_getElem.mp fnd m j (by omega) hj (by omega) (by rw [em, ej])
          refine ⟨_, rfl, D, rfl, .inl ⟨_, .inl e5⟩, _, rfl, _, Sum.inl (hh : Int), .bl true, e5, rfl, ?_, ?_⟩
          · rw [kvH_val, if_pos (List.mem_filter.mpr ⟨hS, decide_eq_true hnot⟩)]
          · refine ⟨_, rfl, same_mut s5 hD, ?_, by rw [upd_ne nDL.symm]; exact l5⟩
            rw [upd_same, kvH_drop, filter_take eh]
        · rintro σ H5 ⟨y3, rfl, s5, e5, l5⟩
          rw [List.length_map, List.take_length] at e5
          have es : (S.filter fun y => decide (y ∉ Fr)) = S.filter fun x => !freeB S ds x := by
            refine List.filter_congr fun y hy => ?_
            have := fm y
            by_cases c : freeB S ds y = true
            · rw [c, decide_eq_false (show ¬ ¬ y ∈ Fr from fun z => z (this.mpr ⟨hy, c⟩))]
              rfl
            · rw [Bool.eq_false_iff.mpr c, decide_eq_true (show ¬ y ∈ Fr from fun z => c (this.mp z).2)]
              rfl
          rw [es] at e5
          refine ⟨_, _, _, _, rfl, s5, e5, nd.filter _, ?_⟩
          by_cases z : S = []
          · rw [z]
            show 0 + (i + 1) ≤ _
            omega
          · have := free_less hin ri z
            omega
    · rintro σ H1' ⟨S, y3, y4, y5, rfl, s2, e2, nd, sl⟩
      have z : S = [] := List.length_eq_zero_iff.mp (by omega)
      rw [z] at e2
      refine ⟨_, rfl, D, _, rfl, e2, rfl, ?_⟩
      exact q _ s2

abbrev s_L_told : Stmt := topS 31
theorem sc_L_told : FnScope ["_law_day", "_law_rows", "_law_count", "_law_way", "_law_found", "_law_k", "_law_row", "_law_one", "_law_house"] ["_law_day", "_law_rows", "_law_count", "_law_way"] (defScope s_L_told) := ⟨rfl, rfl, rfl, by decide +kernel, rfl, by decide +kernel, by decide +kernel⟩
def spTold (K : PySem.W.Frag) (C : Addr) : Sp := fun vs H Q _ => ∃ (p R : Addr) (n way : Int) (lp lr : Addr) (rs : List Addr) (ds : List Debt), vs = [.ref p, .ref R, .int n, .int way] ∧ Side K C H p R n lp lr rs ds ∧
  ∀ H', Same H H' → Q (.bl true) H'
theorem amts_take {ds : List Debt} {i : Nat} (h : i < ds.length) : amts (ds.take (i + 1)) = amts (ds.take i) ++ [(dbt ds i).2.2] := by
  unfold amts
  rw [List.take_add_one, dbt_at h, List.map_append]
  rfl
theorem all_rep (n : Nat) : (List.replicate n true).all id = true := by simp
theorem rep_snoc (n : Nat) : (List.replicate (n + 1) true).map V.bl = (List.replicate n true).map V.bl ++ [.bl true] := by
  rw [List.replicate_succ', List.map_append]
  rfl
theorem ok_L_told {C C6 C7 : Addr} (D : DefAt K mg "_law_told" s_L_told) (B : Blt mg) (T : DayC K mg C) (c_L_whole : Cal P w K mg base CX0 1 "_law_whole" ["_law_found"] (spWhole K)) (c_L_sums : Cal P w K mg base CX0 1 "_law_sums" ["_law_count", "_law_rows"] (spSums K)) (c_Day_rest : CalM P w K mg base (L2N.CX P w) 3 C "rest" ["self", "number"] (spRest K C C6))
    (c_Day_balance : CalM P w K mg base (L2N.CX P w) 3 C "balance" ["self", "house"] (spBalance K C C7)) (c_Day_standing : CalM P w K mg base CX0 1 C "standing" ["self"] (spStanding K C)) :
    Cal P w K mg base CX0 4 "_law_told" ["_law_day", "_law_rows", "_law_count", "_law_way"] (spTold K C) := by
  refine D.ok sc_L_told (fun _ _ _ _ _ _ us hl => match us, hl with | [_, _, _, _], _ => rfl) (fun vs H Q E h => ?_) (fun f cdv A outer s H vs Q E hr h => ?_)
  · obtain ⟨p, R, n, way, lp, lr, rs, ds, rfl, _⟩ := h
    rfl
  · obtain ⟨p, R, n, way, lp, lr, rs, ds, rfl, Sd, q⟩ := h
    refine ⟨_, (pss_cons (ps_if (pt_cmpR op_eq (pv 3) pe_int (nomark _)) (pss_cons (ps_setLc (i := 4) (own := [("_law_k", 5)]) (g := gName 5) rfl sc_L_told.nd rfl rfl (sw_true rfl rfl rfl (by decide +kernel)) (pi_range1 (by rfl) B.range (pa_cons (pe_callB (r := rLenQ K) call_len_seq (by rfl) B.len (by decide +kernel) (pa_cons (pv 1) pa_nil)) pa_nil)) (blkOk_by (N := ["_law_day", "_law_rows", "_law_count", "_law_way", "_law_found", "_law_k", "_law_row", "_law_one", "_law_house"]) (sc := defScope s_L_told) (by decide +kernel)) (fun _ _ _ _ _ => (pg_name (i := 5) sc_L_told.nd rfl (.inl rfl))) (fun _ _ _ _ _ => pts_nil) (fun _ _ _ _ _ => (pe_mcal (pv 0) T.cl c_Day_rest (hr.mono (by decide)) passN (pa_cons (pv 5) pa_nil))))
        (pss_one (ps_ret (pe_and (pe_cmpR (r := rEqD K) (op_eqD hr.units) (pv 4) (pe_lc (own := [("_law_row", 6)]) (g := gName 6) rfl sc_L_told.nd (pi_list (pv 1)) (blkOk_by (N := ["_law_day", "_law_rows", "_law_count", "_law_way", "_law_found", "_law_k", "_law_row", "_law_one", "_law_house"]) (sc := defScope s_L_told) (by decide +kernel)) (fun _ _ _ _ _ => (pg_name (i := 6) sc_L_told.nd rfl (.inl rfl))) (fun _ _ _ _ _ => pts_nil) (fun _ _ _ _ _ => (pe_ix (r := rIxL K) ix_list (pv 6) pe_int (fun _ _ => rfl)))) (nomark _)) (pe_one (pe_callB (r := rAll K) (cr_all rfl) (by rfl) B.all (by decide +kernel) (pa_cons (pe_lc (own := [("_law_one", 7)]) (g := gName 7) rfl sc_L_told.nd (pi_list (pv 4)) (blkOk_by (N := ["_law_day", "_law_rows", "_law_count", "_law_way", "_law_found", "_law_k", "_law_row", "_law_one", "_law_house"]) (sc := defScope s_L_told) (by decide +kernel)) (fun _ _ _ _ _ => (pg_name (i := 7) sc_L_told.nd rfl (.inl rfl))) (fun _ _ _ _ _ => pts_nil) (fun _ _ _ _ _ => (pe_cal c_L_whole (hr.mono (by decide)) (by rfl) pass0 (pa_cons (pv 7) pa_nil)))) pa_nil))))))) pss_nil)
      (pss_cons (ps_if (pt_cmpR op_eq (pv 3) pe_int (nomark _)) (pss_one (ps_ret (pe_cmpR (r := rEqD K) (op_eqD hr.units) (pe_mcal0 (pv 0) T.cl c_Day_standing (hr.mono (by decide)) pass0) (pe_lc (own := [("_law_k", 5)]) (g := gName 5) rfl sc_L_told.nd (pi_range1 (by rfl) B.range (pa_cons (pe_callB (r := rLenQ K) call_len_seq (by rfl) B.len (by decide +kernel) (pa_cons (pv 1) pa_nil)) pa_nil)) (blkOk_by (N := ["_law_day", "_law_rows", "_law_count", "_law_way", "_law_found", "_law_k", "_law_row", "_law_one", "_law_house"]) (sc := defScope s_L_told) (by decide +kernel)) (fun _ _ _ _ _ => (pg_name (i := 5) sc_L_told.nd rfl (.inl rfl))) (fun _ _ _ _ _ => (pts_one (pt_cmpR op_gt (pe_ix (r := rIxL K) ix_list (pe_ix (r := rIxL K) ix_list (pv 1) (pv 5) (fun _ _ => rfl)) pe_int (fun _ _ => rfl)) pe_int (nomark _)))) (fun _ _ _ _ _ => (pe_tup (pa_cons (pv 5) (pa_cons (pe_ix (r := rIxL K) ix_list (pe_ix (r := rIxL K) ix_list (pv 1) (pv 5) (fun _ _ => rfl)) pe_int (fun _ _ => rfl)) (pa_cons (pe_ix (r := rIxL K) ix_list (pe_ix (r := rIxL K) ix_list (pv 1) (pv 5) (fun _ _ => rfl)) pe_int (fun _ _ => rfl)) (pa_cons (pe_ix (r := rIxL K) ix_list (pe_ix (r := rIxL K) ix_list (pv 1) (pv 5) (fun _ _ => rfl)) pe_int (fun _ _ => rfl)) pa_nil))))))) (nomark _)))) pss_nil)
      (pss_one (ps_ret (pe_cmpR (r := rEqD K) (op_eqD hr.units) (pe_lc (own := [("_law_house", 8)]) (g := gName 8) rfl sc_L_told.nd (pi_range1 (by rfl) B.range (pa_cons (pv 2) pa_nil)) (blkOk_by (N := ["_law_day", "_law_rows", "_law_count", "_law_way", "_law_found", "_law_k", "_law_row", "_law_one", "_law_house"]) (sc := defScope s_L_told) (by decide +kernel)) (fun _ _ _ _ _ => (pg_name (i := 8) sc_L_told.nd rfl (.inl rfl))) (fun _ _ _ _ _ => pts_nil) (fun _ _ _ _ _ => (pe_mcal (pv 0) T.cl c_Day_balance (hr.mono (by decide)) passN (pa_cons (pv 8) pa_nil)))) (pe_cal c_L_sums (hr.mono (by decide)) (by rfl) pass0 (pa_cons (pv 2) (pa_cons (pv 1) pa_nil))) (nomark _)))))), ?_⟩
    obtain ⟨dx, hp⟩ := Sd.day.obj
    have top := Sd.rows.top
    have rl := Sd.rows.len
    have few := Sd.day.few
    have n1 := Sd.day.n1
    have nM := Sd.day.nM
    have tl : (rs.map V.ref).length = ds.length := by rw [List.length_map, rl]
    refine ⟨_, rfl, rfl, _, rfl, ite2 (fun _ => ?_) (fun _ => ?_)⟩
    · refine ⟨_, rfl, R, _, rfl, .inl (SqL.of top), _, rfl, by omega, by omega, fun L hL => lc_range (lo := 0) (n := (((rs.map V.ref).length : Nat) : Int).toNat) (fun i H1 => Same H H1 ∧ H1 L = some (.lst ((amts (ds.take i)).map V.int))) ⟨same_new hL, upd_same⟩ ?_ ?_⟩
      · rintro i H1 hi ⟨s1, e1⟩
        have hi : i < ds.length := by omega
        refine ⟨rfl, _, rfl, p, dx, _, rfl, s1 _ _ hp, dayF_rest, _, rfl, p, n, lp, lr, ds, .int (0 + i), .int (0 + i), rfl, Sd.day.same s1, .int _, fun bad => ?_, fun k ek hk => ?_⟩
        · have b : (decide ((0 : Int) ≤ 0 + (i : Int)) && decide (0 + (i : Int) ≤ (ds.length : Int) - 1)) = false := bad
          rw [decide_eq_true (by omega), decide_eq_true (by omega)] at b
          cases b
        · have ek : (0 : Int) + i = k := PyData.int.inj ek
          obtain rfl : i = k := by omega
          refine ⟨_, e1, szl (by rw [List.length_map, amts_len, List.length_take]; omega), same_mut s1 hL, ?_⟩
          rw [upd_same, amts_take hi, List.map_append]
          rfl
      rintro H1 ⟨s1, e1⟩
      rw [Int.toNat_natCast, tl, List.take_length] at e1
      refine ⟨_, rfl, _, rfl, R, rfl, ⟨_, SqL.of (s1 _ _ top)⟩, fun M hM => lc_list (xs := rs.map V.ref) (fun i H2 => Same H1 H2 ∧ H2 M = some (.lst ((amts (ds.take i)).map V.int))) ⟨same_new hM, upd_same⟩ ?_ ?_ ?_⟩
      · rintro i H2 _ ⟨s2, _⟩
        exact SqL.of (s2 _ _ (s1 _ _ top))
      · rintro i x H2 hx ⟨s2, e2⟩
        have hi : i < ds.length := by
          have := (List.getElem?_eq_some_iff.mp hx).1
          omega
        obtain ⟨r, er, em, hr⟩ := ((Sd.rows.same s1).same s2).get hi
        rw [em] at hx
        cases hx
        refine ⟨rfl, _, rfl, r, _, 2, _, rfl, rfl, SqL.of hr, rfl, _, e2, szl (by rw [List.length_map, amts_len, List.length_take]; omega), same_mut s2 hM, ?_⟩
        rw [upd_same, amts_take hi, List.map_append]
        rfl
      · rintro H2 ⟨s2, e2⟩
        rw [tl, List.take_length] at e2
        refine ⟨_, _, eqv_intsL (SqL.of (s2 _ _ e1)), eqv_intsL (SqL.of e2), (sh_ints _).shaped (by decide), (sh_ints _).shaped (by decide), _, rfl, ?_⟩
        rw [eqv_self (sh_ints _)]
        refine ⟨_, rfl, L, rfl, ⟨_, SqL.of (s2 _ _ e1)⟩, fun N hN => lc_list (xs := (amts ds).map V.int) (fun i H3 => Same H2 H3 ∧ H3 N = some (.lst ((List.replicate i true).map V.bl))) ⟨same_new hN, upd_same⟩ ?_ ?_ ?_⟩
        · rintro i H3 _ ⟨s3, _⟩
          exact SqL.of (s3 _ _ (s2 _ _ e1))
        · rintro i x H3 hx ⟨s3, e3⟩
          have hi := (List.getElem?_eq_some_iff.mp hx).1
          rw [List.length_map, amts_len] at hi
          obtain ⟨z, rfl⟩ : ∃ z, x = V.int z := by
            obtain ⟨z, _, rfl⟩ := List.mem_map.mp (List.mem_of_getElem? hx)
            exact ⟨z, rfl⟩
          refine ⟨rfl, _, rfl, _, .int z, rfl, .int z, _, e3, szl (by rw [List.length_map, List.length_replicate]; omega), same_mut s3 hN, ?_⟩
          rw [upd_same, rep_snoc]
          rfl
        · rintro H3 ⟨s3, e3⟩
          refine ⟨N, _, rfl, SqL.of e3, ?_⟩
          rw [all_rep]
          exact q H3 ((s1.trans s2).trans s3)
    refine ⟨_, rfl, rfl, _, rfl, ite2 (fun _ => ?_) (fun _ => ?_)⟩
    · refine ⟨_, rfl, p, dx, _, rfl, hp, dayF_standing, p, n, lp, lr, ds, rfl, Sd.day, fun H2 M us s2 nM' e2 tu => ?_⟩
      have Rw := Sd.rows.same s2
      have top2 := Rw.top
      refine ⟨_, rfl, R, _, rfl, .inl (SqL.of top2), _, rfl, by omega, by omega, fun L hL => lc_range (lo := 0) (n := (((rs.map V.ref).length : Nat) : Int).toNat) (fun i H1 => Same H2 H1 ∧ ∃ vs, H1 L = some (.lst vs) ∧ TVs stV K H1 vs (standTo ds i)) ⟨same_new hL, [], upd_same, .nil⟩ ?_ ?_⟩
      · rintro i H1 hi ⟨s1, vs, e1, tv⟩
        have hi : i < ds.length := by omega
        obtain ⟨r, er, em, hr⟩ := (Rw.same s1).get hi
        have top1 : SqL K H1 R (rs.map V.ref) := SqL.of (s1 _ _ top2)
        have sl := standTo_len ds i
        have vl := Paired.length tv
        have em' : atI (rs.map V.ref) (0 + (i : Int)) = some (.ref r) := by
          rw [Int.zero_add]
          exact atI_nat em
        refine ⟨rfl, _, rfl, _, rfl, R, _, _, _, rfl, rfl, top1, em', r, _, 2, _, rfl, rfl, SqL.of hr, rfl, _, _, rfl, rfl, _, rfl, ite2 (fun e => ?_) (fun e => ?_)⟩
        · have e : 0 < (dbt ds i).2.2 := of_decide_eq_true e
          refine ⟨_, rfl, _, rfl, _, rfl, R, _, _, _, rfl, rfl, top1, em', r, _, 0, _, rfl, rfl, SqL.of hr, rfl, _, rfl, _, rfl, R, _, _, _, rfl, rfl, top1, em', r, _, 1, _, rfl, rfl, SqL.of hr, rfl, _, rfl, _, rfl, R, _, _, _, rfl, rfl, top1, em', r, _, 2, _, rfl, rfl, SqL.of hr, rfl, szn (by show 4 ≤ 100000; decide), fun t ht => ?_⟩
          have s4 := same_new (o := .tup [.int (0 + (i : Nat)), .int (dbt ds i).1, .int (dbt ds i).2.1, .int (dbt ds i).2.2]) ht
          refine ⟨_, s4 _ _ e1, szl (by omega), same_mut (s1.trans s4) hL, _, upd_same, ?_⟩
          rw [standTo_add, if_pos e]
          refine tvs_mut (s4 _ _ e1) (paired_app (s4.tvs tv) (.cons ⟨t, rfl, SqT.of ?_⟩ .nil))
          rw [upd_same, Int.zero_add]
          rfl
        · have e : ¬ 0 < (dbt ds i).2.2 := fun z => e (decide_eq_true z)
          rw [standTo_add, if_neg e, List.append_nil]
          exact ⟨s1, vs, e1, tv⟩
      rintro H1 ⟨s1, vs, e1, tv⟩
      rw [Int.toNat_natCast, tl] at tv
      have tv : TVs stV K H1 vs (standL ds) := tv
      have du : Dp K H1 (.ref M) (.list ((standL ds).map encS)) := .lst (SqL.of (s1 _ _ e2)) (s1.dpA (dpA_st tu))
      have dv : Dp K H1 (.ref L) (.list ((standL ds).map encS)) := .lst (SqL.of e1) (dpA_st tv)
      have sh := sh_st (standL ds)
      refine ⟨_, _, du, dv, sh.shaped (by decide), sh.shaped (by decide), ?_⟩
      rw [eqv_self sh]
      exact q H1 (s2.trans s1)
    · have bl := bal_len n ds
      refine ⟨_, rfl, n, rfl, by omega, by omega, fun M hM => lc_range (lo := 0) (n := n.toNat) (fun i H2 => Same H H2 ∧ H2 M = some (.lst (((bal n ds).take i).map V.int))) ⟨same_new hM, upd_same⟩ ?_ ?_⟩
      · rintro i H2 hi ⟨s2, e2⟩
        refine ⟨rfl, _, rfl, p, dx, _, rfl, s2 _ _ hp, dayF_balance, _, rfl, p, n, lp, lr, ds, .int (0 + i), .int (0 + i), rfl, Sd.day.same s2, .int _, fun bad => ?_, fun h eh hn H3 s3 => ?_⟩
        · have b : (decide ((0 : Int) ≤ 0 + (i : Int)) && decide (0 + (i : Int) ≤ n - 1)) = false := bad
          rw [decide_eq_true (by omega), decide_eq_true (by omega)] at b
          cases b
        · have eh : (0 : Int) + i = h := PyData.int.inj eh
          obtain rfl : i = h := by omega
          refine ⟨_, s3 _ _ e2, szl (by rw [List.length_map, List.length_take]; omega), same_mut (s2.trans s3) hM, ?_⟩
          rw [upd_same, List.take_add_one, List.getElem?_eq_getElem (by omega), List.map_append, List.getD_eq_getElem?_getD, List.getElem?_eq_getElem (by omega)]
          rfl
      rintro H2 ⟨s2, e2⟩
      rw [← bl, List.take_length] at e2
      refine ⟨_, rfl, _, rfl, n, R, rs, ds, rfl, by omega, nM, Sd.rows.same s2, fun d hd => ⟨(Sd.day.ok d hd).a0, (Sd.day.ok d hd).an, (Sd.day.ok d hd).b0, (Sd.day.ok d hd).bn⟩, fun H3 N s3 nN e3 => ?_⟩
      have dv : Dp K H3 (.ref M) (.list ((bal n ds).map PyData.int)) := eqv_intsL (SqL.of (s3 _ _ e2))
      refine ⟨_, _, dv, eqv_intsL (SqL.of e3), (sh_ints _).shaped (by decide), (sh_ints _).shaped (by decide), ?_⟩
      rw [eqv_self (sh_ints _)]
      exact q H3 (s2.trans s3)

abbrev s_L_stands : Stmt := topS 32
theorem sc_L_stands : FnScope ["_law_day", "_law_rows", "_law_count", "_law_cell", "_law_ways", "_law_way"] ["_law_day", "_law_rows", "_law_count", "_law_cell"] (defScope s_L_stands) := ⟨rfl, rfl, rfl, by decide +kernel, rfl, by decide +kernel, by decide +kernel⟩
def spStands (K : PySem.W.Frag) (C : Addr) : Sp := spTold K C
def waysN : List (List Int) := [[0, 1, 2], [2, 1, 0], [1], [0], [2], [1, 2, 0], [], [2, 0], [0, 2]]
def waysD : List PyData := waysN.map fun l => .list (l.map PyData.int)
theorem ok_L_stands {C : Addr} (D : DefAt K mg "_law_stands" s_L_stands) (B : Blt mg) (c_L_told : Cal P w K mg base CX0 4 "_law_told" ["_law_day", "_law_rows", "_law_count", "_law_way"] (spTold K C)) :
    Cal P w K mg base CX0 5 "_law_stands" ["_law_day", "_law_rows", "_law_count", "_law_cell"] (spStands K C) := by
  refine D.ok sc_L_stands (fun _ _ _ _ _ _ us hl => match us, hl with | [_, _, _, _], _ => rfl) (fun vs H Q E h => ?_) (fun f cdv A outer s H vs Q E hr h => ?_)
  · obtain ⟨p, R, n, way, lp, lr, rs, ds, rfl, _⟩ := h
    rfl
  · obtain ⟨p, R, n, c, lp, lr, rs, ds, rfl, Sd, q⟩ := h
    refine ⟨_, (pss_cons (ps_set (i := 4) sc_L_stands.nd rfl (.inl rfl) (pe_lst (pa_cons (pe_lst (pa_cons pe_int (pa_cons pe_int (pa_cons pe_int pa_nil)))) (pa_cons (pe_lst (pa_cons pe_int (pa_cons pe_int (pa_cons pe_int pa_nil)))) (pa_cons (pe_lst (pa_cons pe_int pa_nil)) (pa_cons (pe_lst (pa_cons pe_int pa_nil)) (pa_cons (pe_lst (pa_cons pe_int pa_nil)) (pa_cons (pe_lst (pa_cons pe_int (pa_cons pe_int (pa_cons pe_int pa_nil)))) (pa_cons (pe_lst pa_nil) (pa_cons (pe_lst (pa_cons pe_int (pa_cons pe_int pa_nil))) (pa_cons (pe_lst (pa_cons pe_int (pa_cons pe_int pa_nil))) pa_nil)))))))))))
      (pss_one (ps_ret (pe_callB (r := rAll K) (cr_all rfl) (by rfl) B.all (by decide +kernel) (pa_cons (pe_lc (own := [("_law_way", 5)]) (g := gName 5) rfl sc_L_stands.nd (pi_list (pe_ix (r := rIxL K) ix_list (pv 4) (pe_op op_mod (pv 3) pe_int) (fun _ _ => rfl))) (blkOk_by (N := ["_law_day", "_law_rows", "_law_count", "_law_cell", "_law_ways", "_law_way"]) (sc := defScope s_L_stands) (by decide +kernel)) (fun _ _ _ _ _ => (pg_name (i := 5) sc_L_stands.nd rfl (.inl rfl))) (fun _ _ _ _ _ => pts_nil) (fun _ _ _ _ _ => (pe_cal c_L_told (hr.mono (by decide)) (by rfl) pass0 (pa_cons (pv 0) (pa_cons (pv 1) (pa_cons (pv 2) (pa_cons (pv 5) pa_nil))))))) pa_nil))))), ?_⟩
    have h9 := emod_b (x := c) (n := 9) (by decide)
    walk_at "nf"
    refine' evm_seq (K := K) (ds := ?ds1) ?h1 ?k1
    (case h1 => walk_at "ev")
    (case' k1 => intro p1 vs1 H1 s1 n1 e1 a1)
    have a1 : DpAll K H1 vs1 waysD := a1
    have few : waysN.length = 9 := rfl
    obtain ⟨ns, ej⟩ : ∃ ns, waysN[(c % 9).toNat]? = some ns := ⟨_, List.getElem?_eq_getElem (by omega)⟩
    have ej' : waysD[(c % 9).toNat]? = some (.list (ns.map PyData.int)) := by
      unfold waysD
      rw [List.getElem?_map, ej]
      rfl
    have nl : ns.length ≤ 3 := by
      have hm := List.mem_of_getElem? ej
      simp only [waysN, List.mem_cons, List.not_mem_nil, or_false] at hm
      rcases hm with rfl | rfl | rfl | rfl | rfl | rfl | rfl | rfl | rfl <;> decide
    obtain ⟨v, ev, hv⟩ := dpA_get' a1 ej'
    cases hv with
    | @lst t xs _ hs ha =>
    obtain rfl := dpA_ints_inv ha
    walk_at "nf"
    refine ⟨_, rfl, _, rfl, _, _, rfl, rfl, by show (0 : Int) < 9; decide, p1, _, _, _, rfl, rfl, SqL.of e1, at_of (j := (c % 9).toNat) (by omega) ev, t, rfl, ⟨_, hs⟩, fun N hN => lc_list (xs := ns.map V.int) (fun i H3 => Same H1 H3 ∧ H3 N = some (.lst ((List.replicate i true).map V.bl))) ⟨same_new hN, upd_same⟩ ?_ ?_ ?_⟩
    · rintro i H3 _ ⟨s3, _⟩
      exact s3.seq hs
    · rintro i x H3 hx ⟨s3, e3⟩
      have hi := (List.getElem?_eq_some_iff.mp hx).1
      rw [List.length_map] at hi
      obtain ⟨z, rfl⟩ : ∃ z, x = V.int z := by
        obtain ⟨z, _, rfl⟩ := List.mem_map.mp (List.mem_of_getElem? hx)
        exact ⟨z, rfl⟩
      refine ⟨rfl, _, rfl, _, rfl, _, rfl, _, rfl, p, R, n, z, lp, lr, rs, ds, rfl, Sd.same (s1.trans s3), fun H4 s4 => ?_⟩
      refine ⟨_, s4 _ _ e3, szl (by rw [List.length_map, List.length_replicate]; omega), same_mut (s3.trans s4) hN, ?_⟩
      rw [upd_same, rep_snoc]
    · rintro H3 ⟨s3, e3⟩
      refine ⟨N, _, rfl, SqL.of e3, ?_⟩
      rw [all_rep]
      exact q H3 (s1.trans s3)

abbrev s_L_cut_of : Stmt := topS 33
theorem sc_L_cut_of : FnScope ["_law_rows", "_law_told_here", "_law_cut", "_law_last", "_law_pair", "_law_row"] ["_law_rows", "_law_told_here"] (defScope s_L_cut_of) := ⟨rfl, rfl, rfl, by decide +kernel, rfl, by decide +kernel, by decide +kernel⟩
def spCutOf (K : PySem.W.Frag) : Sp := fun vs H Q _ => ∃ (R a : Addr) (rs : List Addr) (ds : List Debt) (ws : List V) (f : Nat → Int), vs = [.ref R, .ref a] ∧ Rows H R rs ds ∧ ds.length ≤ 100 ∧ SqL K H a ws ∧ TVs tdV K H ws (tellF f ds.length) ∧ IsCut ds (listF f ds.length) ∧ (∀ i, 0 ≤ f i) ∧
  ∀ (H' : Hp) (L : Addr), Same H H' → H L = none → H' L = some (.lst ((listF f ds.length).map V.int)) → Q (.ref L) H'
theorem ok_L_cut_of (D : DefAt K mg "_law_cut_of" s_L_cut_of) (B : Blt mg) (c_L_whole : Cal P w K mg base CX0 1 "_law_whole" ["_law_found"] (spWhole K)) : Cal P w K mg base CX0 2 "_law_cut_of" ["_law_rows", "_law_told_here"] (spCutOf K) := by
  refine D.ok sc_L_cut_of (fun _ _ _ _ _ _ us hl => match us, hl with | [_, _], _ => rfl) (fun vs H Q E h => ?_) (fun f cdv A outer s H vs Q E hr h => ?_)
  · obtain ⟨R, a, rs, ds, ws, g, rfl, _⟩ := h
    rfl
  · obtain ⟨R, a, rs, ds, ws, g, rfl, Rw, few, hA, tw, hc, f0, q⟩ := h
    refine ⟨_, (pss_cons (ps_setLc (i := 2) (own := [("_law_row", 5)]) (g := gName 5) rfl sc_L_cut_of.nd rfl rfl (sw_true rfl rfl rfl (by decide +kernel)) (pi_list (pv 0)) (blkOk_by (N := ["_law_rows", "_law_told_here", "_law_cut", "_law_last", "_law_pair", "_law_row"]) (sc := defScope s_L_cut_of) (by decide +kernel)) (fun _ _ _ _ _ => (pg_name (i := 5) sc_L_cut_of.nd rfl (.inl rfl))) (fun _ _ _ _ _ => pts_nil) (fun _ _ _ _ _ => pe_int))
      (pss_cons (ps_set (i := 3) sc_L_cut_of.nd rfl (.inl rfl) (pe_un un_neg pe_int))
      (pss_cons (ps_if (pt_not (pt_val (pe_callB (r := rIsi K) call_isi (by rfl) B.isinstance (by decide +kernel) (pa_cons (pv 1) (pa_cons (pe_bltn (v := .ty "list") (by rfl) B.list (by decide +kernel) rfl) pa_nil))))) (pss_one (ps_ret pe_non)) pss_nil)
      (pss_cons (ps_for PassesOwn.never rfl (pi_list (pv 1)) (pg_name (i := 4) sc_L_cut_of.nd rfl (.inl rfl)) (pss_cons (ps_if (PW.pt (pw_or (pt_not (pt_val (pe_callB (r := rIsi K) call_isi (by rfl) B.isinstance (by decide +kernel) (pa_cons (pv 4) (pa_cons (pe_bltn (v := .ty "tuple") (by rfl) B.tuple (by decide +kernel) rfl) pa_nil))))) (pw_or (pt_cmpR op_ne (pe_callB (r := rLenQ K) call_len_seq (by rfl) B.len (by decide +kernel) (pa_cons (pv 4) pa_nil)) pe_int (nomark _)) (pw_or (pt_not (pt_val (pe_cal c_L_whole (hr.mono (by decide)) (by rfl) pass0 (pa_cons (pe_ix (r := rIxT K) ix_tup (pv 4) pe_int (fun _ _ => rfl)) pa_nil)))) (pw_or1 (pt_not (pt_val (pe_cal c_L_whole (hr.mono (by decide)) (by rfl) pass0 (pa_cons (pe_ix (r := rIxT K) ix_tup (pv 4) pe_int (fun _ _ => rfl)) pa_nil))))))))) (pss_one (ps_ret pe_non)) pss_nil)
        (pss_cons (ps_if (PW.pt (pw_or (pt_not (pt_chain op_lt op_lt (pv 3) (pe_ix (r := rIxT K) ix_tup (pv 4) pe_int (fun _ _ => rfl)) (pe_callB (r := rLenQ K) call_len_seq (by rfl) B.len (by decide +kernel) (pa_cons (pv 0) pa_nil)))) (pw_or1 (pt_not (pt_chain op_le op_le pe_int (pe_ix (r := rIxT K) ix_tup (pv 4) pe_int (fun _ _ => rfl)) (pe_ix (r := rIxL K) ix_list (pe_ix (r := rIxL K) ix_list (pv 0) (pe_ix (r := rIxT K) ix_tup (pv 4) pe_int (fun _ _ => rfl)) (fun _ _ => rfl)) pe_int (fun _ _ => rfl))))))) (pss_one (ps_ret pe_non)) pss_nil)
        (pss_cons (ps_set (i := 3) sc_L_cut_of.nd rfl (.inl rfl) (pe_ix (r := rIxT K) ix_tup (pv 4) pe_int (fun _ _ => rfl)))
        (pss_one (ps_asg (pe_ix (r := rIxT K) ix_tup (pv 4) pe_int (fun _ _ => rfl)) (pg_sub (pv 2) (pv 3) set_list)))))))
      (pss_one (ps_ret (pv 2))))))), ?_⟩
    have top := Rw.top
    have rl := Rw.len
    have tl : (rs.map V.ref).length = ds.length := by rw [List.length_map, rl]
    refine ⟨_, rfl, R, rfl, ⟨_, SqL.of top⟩, fun L hL => lc_list (xs := rs.map V.ref) (fun i H1 => Same H H1 ∧ H1 L = some (.lst ((List.replicate i (0 : Int)).map V.int))) ⟨same_new hL, upd_same⟩ ?_ ?_ ?_⟩
    · rintro i H1 _ ⟨s1, _⟩
      exact SqL.of (s1 _ _ top)
    · rintro i x H1 hx ⟨s1, e1⟩
      have hi := (List.getElem?_eq_some_iff.mp hx).1
      refine ⟨rfl, _, e1, szl (by rw [List.length_map, List.length_replicate]; omega), same_mut s1 hL, ?_⟩
      rw [upd_same, List.replicate_succ', List.map_append]
      rfl
    rintro H1 ⟨s1, e1⟩
    rw [tl] at e1
    have da : Dp K H1 (.ref a) (.list ((tellF g ds.length).map encP)) := .lst (s1.seq hA) (s1.dpA (dpA_td tw))
    have wl := Paired.length tw
    refine ⟨1, rfl, _, rfl, _, _, _, _, _, rfl, .ty "list", tyx_of da, kit_list _, _, rfl, ite2 (fun z => by cases z) (fun _ => ?_)⟩
    refine ⟨_, rfl, a, rfl, ⟨_, s1.seq hA⟩, for_list (xs := ws) (fun j σ H2 => ∃ (last : Int) (y4 : Option V), σ = [some (.ref R), some (.ref a), some (.ref L), some (.int last), y4, none] ∧ Same H H2 ∧ H2 L = some (.lst ((putTo (List.replicate ds.length 0) ((tellF g ds.length).take j)).map V.int)) ∧ ∀ q, (tellF g ds.length)[j]? = some q → last < (q.1 : Int)) ⟨-1, _, rfl, s1, e1, fun q _ => by omega⟩ ?_ ?_ ?_⟩
    · rintro j σ H2 _ ⟨_, _, _, s2, _⟩
      exact s2.seq hA
    · rintro j x σ H2 hx ⟨last, y4, rfl, s2, e2, hl⟩
      obtain ⟨⟨k, c⟩, ek, u, rfl, hU⟩ := paired_get (s2.tvs tw) hx
      obtain ⟨hk, ec, c0⟩ := tellF_mem (List.mem_of_getElem? ek)
      have hk : k < ds.length := hk
      have ec : c = g k := ec
      have c0 : 0 < c := c0
      have lk : last < (k : Int) := hl _ ek
      have cM : c ≤ (dbt ds k).2.2 := by
        rw [ec]
        exact (hc.at_ k _ _ (dbt_at hk) (listF_at hk)).2
      have dt := dp_td (K := K) (H := H2) (q := (k, c)) ⟨u, rfl, hU⟩
      have Rw2 := Rw.same s2
      have top2 := Rw2.top
      obtain ⟨r, er, em, hr⟩ := Rw2.get hk
      refine ⟨_, rfl, _, _, _, _, _, rfl, .ty "tuple", tyx_of dt, kit_tuple _, _, rfl, ite2 (fun z => by cases z) (fun _ => ?_)⟩
      refine ⟨_, rfl, u, _, rfl, .inr hU, rfl, _, rfl, ite2 (fun z => by rw [decide_eq_true (p := V.int ((tdV (k, c)).length : Int) = V.int 2) rfl] at z; cases z) (fun _ => ?_)⟩
      refine ⟨_, rfl, u, _, 0, _, rfl, rfl, hU, rfl, _, .int _, rfl, .int _, _, rfl, ite2 (fun z => by cases z) (fun _ => ?_)⟩
      refine ⟨_, rfl, u, _, 1, _, rfl, rfl, hU, rfl, _, .int _, rfl, .int _, _, rfl, ite2 (fun z => by cases z) (fun _ => ?_)⟩
      refine ⟨_, rfl, _, rfl, u, _, 0, _, rfl, rfl, hU, rfl, _, _, rfl, rfl, _, rfl, ite2 (fun _ => ?_) (fun z => absurd (decide_eq_true lk) z)⟩
      refine ⟨_, rfl, R, _, rfl, .inl (SqL.of top2), _, _, rfl, rfl, _, rfl, ite2 (fun z => ?_) (fun _ => ?_)⟩
      · rw [decide_eq_true (show (k : Int) < ((rs.map V.ref).length : Int) by omega)] at z
        cases z
      refine ⟨_, rfl, u, _, 1, _, rfl, rfl, hU, rfl, _, _, rfl, rfl, _, rfl, ite2 (fun _ => ?_) (fun z => absurd (decide_eq_true (show (1 : Int) ≤ c by omega)) z)⟩
      refine ⟨_, rfl, _, rfl, u, _, 0, _, rfl, rfl, hU, rfl, R, _, _, _, rfl, rfl, SqL.of top2, atI_nat em, r, _, 2, _, rfl, rfl, SqL.of hr, rfl, _, _, rfl, rfl, _, rfl, ite2 (fun z => ?_) (fun _ => ?_)⟩
      · rw [decide_eq_true cM] at z
        cases z
      refine ⟨_, rfl, u, _, 0, _, rfl, rfl, hU, rfl, ?_⟩
      refine ⟨_, rfl, u, _, 1, _, rfl, rfl, hU, rfl, _, rfl, _, rfl, L, _, _, _, rfl, rfl, e2, ix_nat (by rw [List.length_map, putTo_len, List.length_replicate]; exact hk), ?_⟩
      refine ⟨(k : Int), _, rfl, same_mut s2 hL, ?_, fun q eq => ?_⟩
      · rw [upd_same, List.take_add_one, ek]
        show _ = some (HO.lst ((putTo (List.replicate ds.length 0) ((tellF g ds.length).take j ++ [(k, c)])).map V.int))
        rw [putTo_snoc, set_int]
      · have pw := List.pairwise_iff_getElem.mp (tellF_rise g ds.length)
        obtain ⟨h1, g1⟩ := List.getElem?_eq_some_iff.mp ek
        obtain ⟨h2, g2⟩ := List.getElem?_eq_some_iff.mp eq
        have := pw j (j + 1) h1 h2 (by omega)
        rw [g1, g2] at this
        have this : k < q.1 := this
        omega
    · rintro σ H2 ⟨last, y4, rfl, s2, e2, _⟩
      rw [List.take_of_length_le (by omega), putTo_all f0] at e2
      exact ⟨_, rfl, q H2 L s2 hL e2⟩

abbrev s_L_paid : Stmt := topS 35
theorem sc_L_paid : FnScope ["_law_day", "_law_rows", "_law_cell", "_law_number", "_law_rest", "_law_many", "_law_found"] ["_law_day", "_law_rows", "_law_cell"] (defScope s_L_paid) := ⟨rfl, rfl, rfl, by decide +kernel, rfl, by decide +kernel, by decide +kernel⟩
def spPaid11 (K : PySem.W.Frag) (C : Addr) : Sp := fun vs H Q _ => ∃ (p R : Addr) (n c : Int) (lp lr : Addr) (rs : List Addr) (ds : List Debt), vs = [.ref p, .ref R, .int c] ∧ Side K C H p R n lp lr rs ds ∧ 0 < ds.length ∧
  ∀ (H' : Hp) (ds' : List Debt), Fr (foot lp lr R rs) H H' → Side K C H' p R n lp lr rs ds' → ds'.length = ds.length → Q (.bl true) H'
theorem ok_L_paid {C C6 C8 : Addr} (D : DefAt K mg "_law_paid" s_L_paid) (B : Blt mg) (T : DayC K mg C) (g_BadAmount : mg "BadAmount" = some (.ref C8)) (cs8 : CatchF K C8 C8)
    (c_L_whole : Cal P w K mg base CX0 1 "_law_whole" ["_law_found"] (spWhole K)) (c_Day_pay : CalM P w K mg base (L2N.CX P w) 4 C "pay" ["self", "number", "amount"] (spPay K C C6 C8)) :
    Cal P w K mg base CX0 5 "_law_paid" ["_law_day", "_law_rows", "_law_cell"] (spPaid11 K C) := by
  refine D.ok sc_L_paid (fun _ _ _ _ _ _ us hl => match us, hl with | [_, _, _], _ => rfl) (fun vs H Q E h => ?_) (fun f cdv A outer s H vs Q E hr h => ?_)
  · obtain ⟨p, R, n, c, lp, lr, rs, ds, rfl, _⟩ := h
    rfl
  · obtain ⟨p, R, n, c, lp, lr, rs, ds, rfl, Sd, d0, q⟩ := h
    refine ⟨_, (pss_cons (ps_set (i := 3) sc_L_paid.nd rfl (.inl rfl) (pe_op op_mod (pv 2) (pe_callB (r := rLenQ K) call_len_seq (by rfl) B.len (by decide +kernel) (pa_cons (pv 1) pa_nil))))
      (pss_cons (ps_set (i := 4) sc_L_paid.nd rfl (.inl rfl) (pe_ix (r := rIxL K) ix_list (pe_ix (r := rIxL K) ix_list (pv 1) (pv 3) (fun _ _ => rfl)) pe_int (fun _ _ => rfl)))
      (pss_cons (ps_if (pt_cmpR op_eq (pv 4) pe_int (nomark _)) (pss_cons (L2N.ps_try_many rfl rfl takesN
      (fun W pn xe tk _ => (pss_one (ps_expr (pe_mcalS (pv 0) T.cl c_Day_pay (hr.mono (by decide)) (fun σ => L2N.passAt tk σ) (pa_cons (pv 3) (pa_cons pe_int pa_nil))))))
      (.cons ⟨by rfl, by decide, .inl g_BadAmount⟩ (fun a oe cls d pn hz hf => (pss_one (ps_ret pe_bl))) .nil))
        (pss_one (ps_ret pe_bl))) pss_nil)
      (pss_cons (ps_set (i := 5) sc_L_paid.nd rfl (.inl rfl) (pe_op op_add pe_int (pe_op op_mod (pe_op op_fdiv (pv 2) pe_int) (pv 4))))
      (_root_.C8.pss_cut (ps_if (pt_cmpR op_eq (pe_op op_mod (pe_op op_fdiv (pv 2) pe_int) pe_int) pe_int (nomark _)) (pss_one (ps_set (i := 5) sc_L_paid.nd rfl (.inl rfl) (pv 4))) pss_nil)
      (pss_cons (ps_asg (pe_op op_sub (pv 4) (pv 5)) (pg_sub (pe_ix (r := rIxL K) ix_list (pv 1) (pv 3) (fun _ _ => rfl)) pe_int set_list))
      (pss_cons (ps_set (i := 6) sc_L_paid.nd rfl (.inl rfl) (pe_mcal (pv 0) T.cl c_Day_pay (hr.mono (by decide)) passN (pa_cons (pv 3) (pa_cons (pv 5) pa_nil))))
      (pss_one (ps_ret (pe_and (pe_cal c_L_whole (hr.mono (by decide)) (by rfl) pass0 (pa_cons (pv 6) pa_nil)) (pe_one (pe_cmpR op_eq (pv 6) (pe_op op_sub (pv 4) (pv 5)) (nomark _))))))))))))), ?_⟩
    obtain ⟨dd, hp⟩ := Sd.day.obj
    have top := Sd.rows.top
    have rl := Sd.rows.len
    have few := Sd.day.few
    have tl : (rs.map V.ref).length = ds.length := by rw [List.length_map, rl]
    have lp0 : (0 : Int) < ((rs.map V.ref).length : Int) := by omega
    have hk := emod_b (x := c) lp0
    refine ⟨_, rfl, _, rfl, R, _, rfl, .inl (SqL.of top), _, _, rfl, rfl, lp0, ?_⟩
    obtain ⟨k, ek⟩ := Int.eq_ofNat_of_zero_le hk.1
    dsimp only
    rw [ek] at hk ⊢
    have hk : k < ds.length := by omega
    obtain ⟨r, er, em, hr⟩ := Sd.rows.get hk
    have okk := Sd.day.ok _ (List.mem_of_getElem? (dbt_at hk))
    have m0 := okk.m0
    have ink : isNum (.int (k : Int)) 0 ((ds.length : Int) - 1) = true := by
      show (decide ((0 : Int) ≤ (k : Int)) && decide ((k : Int) ≤ (ds.length : Int) - 1)) = true
      rw [decide_eq_true (by omega), decide_eq_true (by omega)]
      rfl
    refine ⟨_, rfl, _, rfl, R, _, _, _, rfl, rfl, SqL.of top, atI_nat em, r, _, 2, _, rfl, rfl, SqL.of hr, rfl, ?_⟩
    refine ⟨_, rfl, rfl, _, rfl, ite2 (fun e => ?_) (fun e => ?_)⟩
    · have e : V.int (dbt ds k).2.2 = V.int 0 := of_decide_eq_true e
      have e : (dbt ds k).2.2 = 0 := V.int.inj e
      refine ⟨_, rfl, p, dd, _, rfl, hp, dayF_pay, _, rfl, p, n, lp, lr, ds, .int (k : Int), .int 1, .int (k : Int), .int 1, rfl, Sd.day, .int _, .int _, fun bad => ?_, fun _ _ _ _ => ?_, fun k' m ek' _ em' m1 mM => ?_⟩
      · rw [ink] at bad
        cases bad
      · exact ⟨true, cs8.m, fun _ a ha => q H ds (fr_same (Same.refl H)) Sd rfl, fun z => Bool.noConfusion z⟩
      · have ek' : (k : Int) = k' := PyData.int.inj ek'
        obtain rfl : k = k' := by omega
        omega
    have e : ¬ (dbt ds k).2.2 = 0 := fun z => e (decide_eq_true (congrArg V.int z))
    have rp : 0 < (dbt ds k).2.2 := by omega
    have hmod := emod_b (x := c / 24) rp
    refine ⟨_, rfl, _, _, rfl, rfl, ⟨by decide, by decide⟩, _, rfl, _, _, rfl, rfl, rp, _, _, rfl, rfl, ?_⟩
    refine ⟨fun σ' H' => ∃ m : Int, σ' = [some (.ref p), some (.ref R), some (.int c), some (.int (k : Int)), some (.int (dbt ds k).2.2), some (.int m), none] ∧ H' = H ∧ 1 ≤ m ∧ m ≤ (dbt ds k).2.2, ?_, ?_⟩
    · refine ⟨_, rfl, _, _, rfl, rfl, ⟨by decide, by decide⟩, _, _, rfl, rfl, by show (0 : Int) < 3; decide, rfl, _, rfl, ite2 (fun _ => ?_) (fun _ => ?_)⟩
      · exact ⟨_, rfl, _, rfl, rfl, by omega, Int.le_refl _⟩
      · exact ⟨_, rfl, rfl, by omega, by omega⟩
    rintro σ' H0 ⟨m, rfl, rfl, m1, mM⟩
    refine ⟨_, rfl, _, rfl, _, _, rfl, rfl, _, rfl, _, rfl, R, _, _, _, rfl, rfl, SqL.of top, atI_nat em, r, _, _, 2, rfl, rfl, hr, rfl, ?_⟩
    obtain ⟨i1, i2, i3, i4, i5⟩ := Sd.inj
    have hrm := List.mem_of_getElem? er
    have f1 : Fr [r] H0 (upd H0 r (.lst [.int (dbt ds k).1, .int (dbt ds k).2.1, .int ((dbt ds k).2.2 - m)])) := fr_upd List.mem_cons_self
    have R1 := Sd.rows.put (x := (dbt ds k).2.2 - m) hk er (fun y hy => (i4 y hy).2.2) i5
    have D1 := Sd.day.fr f1 (fun l hl => by rw [List.mem_singleton.mp hl]; exact ⟨_, hr⟩) (fun z => (i4 r hrm).1 (List.mem_singleton.mp z).symm) (fun z => (i4 r hrm).2.1 (List.mem_singleton.mp z).symm)
    have e1 : [V.int (dbt ds k).1, .int (dbt ds k).2.1, .int ((dbt ds k).2.2 - m)] = (tV (dbt ds k)).set 2 (.int ((dbt ds k).2.2 - m)) := rfl
    rw [e1] at f1 R1 D1
    generalize upd H0 r (.lst ((tV (dbt ds k)).set 2 (.int ((dbt ds k).2.2 - m)))) = H1 at f1 R1 D1 ⊢
    obtain ⟨dd1, hp1⟩ := D1.obj
    refine ⟨_, rfl, p, dd1, _, rfl, hp1, dayF_pay, _, rfl, _, rfl, p, n, lp, lr, ds, .int (k : Int), .int m, .int (k : Int), .int m, rfl, D1, .int _, .int _, fun bad => ?_, fun k' ek' _ bad => ?_, fun k' m' ek' _ em' _ _ H2 f2 D2 => ?_⟩
    · rw [ink] at bad
      cases bad
    · have ek' : (k : Int) = k' := PyData.int.inj ek'
      obtain rfl : k = k' := by omega
      have b : (decide (1 ≤ m) && decide (m ≤ _)) = false := bad
      rw [decide_eq_true m1, decide_eq_true mM] at b
      cases b
    · have ek' : (k : Int) = k' := PyData.int.inj ek'
      obtain rfl : k = k' := by omega
      have em' : m = m' := PyData.int.inj em'
      subst em'
      have R2 := R1.fr f2 (fun z => i3 (List.mem_singleton.mp z).symm) (fun y hy z => (i4 y hy).2.1 (List.mem_singleton.mp z))
      refine ⟨_, rfl, _, .int _, rfl, .int _, _, rfl, _, rfl, _, rfl, _, rfl, _, _, rfl, rfl, rfl, ?_⟩
      rw [decide_eq_true rfl]
      refine q H2 _ ((f1.mono fun a ha => ?_).trans (f2.mono fun a ha => ?_)) ⟨D2, R2, Sd.nd⟩ (setRest_len _ _ _)
      · rw [List.mem_singleton.mp ha]
        exact List.mem_cons_of_mem _ (List.mem_cons_of_mem _ (List.mem_cons_of_mem _ hrm))
      · rw [List.mem_singleton.mp ha]
        exact List.mem_cons_of_mem _ List.mem_cons_self

abbrev s_L_cleared : Stmt := topS 34
theorem sc_L_cleared : FnScope ["_law_day", "_law_rows", "_law_count", "_law_held", "_law_cell", "_law_told_here", "_law_cut", "_law_many", "_law_sums_here", "_law_k", "_law_row"] ["_law_day", "_law_rows", "_law_count", "_law_held", "_law_cell"] (defScope s_L_cleared) := ⟨rfl, rfl, rfl, by decide +kernel, rfl, by decide +kernel, by decide +kernel⟩
def spCleared (K : PySem.W.Frag) (C : Addr) : Sp := fun vs H Q _ => ∃ (p R L : Addr) (n c : Int) (lp lr : Addr) (rs hs : List Addr) (ds : List Debt) (F : Hp), vs = [.ref p, .ref R, .int n, .ref L, .int c] ∧ One K C F H p R n lp lr rs ds L hs ∧ ds.length ≤ 60 ∧ hs.length ≤ 1000 ∧
  ∀ (F' H' : Hp) (ds' : List Debt) (hs' : List Addr), Same F F' → (∀ x ws, H x = some (.lst ws) → F x = none → F' x = none) → Fr (L :: foot lp lr R rs) H H' → One K C F' H' p R n lp lr rs ds' L hs' → ds'.length = ds.length → hs'.length ≤ hs.length + 1 → Q (.bl true) H'
theorem lessF_nil {ds : List Debt} {g : Nat → Int} (h : ∀ i, i < ds.length → g i = 0) : lessF ds g ds.length = ds := by
  refine dbt_ext (lessF_len _ _ _) fun i hi => ?_
  rw [lessF_len] at hi
  rw [lessF_dbt hi, if_pos hi, h i hi, Int.sub_zero]
theorem ok_L_cleared {C : Addr} (D : DefAt K mg "_law_cleared" s_L_cleared) (B : Blt mg) (T : DayC K mg C) (c_L_cut_of : Cal P w K mg base CX0 2 "_law_cut_of" ["_law_rows", "_law_told_here"] (spCutOf K)) (c_L_sums : Cal P w K mg base CX0 1 "_law_sums" ["_law_count", "_law_rows"] (spSums K))
    (c_L_settles : Cal P w K mg base CX0 1 "_law_settles" ["_law_count", "_law_debts", "_law_cut"] (spSettles K)) (c_L_ringless : Cal P w K mg base CX0 1 "_law_ringless" ["_law_count", "_law_rows"] spRingless)
    (c_L_stands : Cal P w K mg base CX0 5 "_law_stands" ["_law_day", "_law_rows", "_law_count", "_law_cell"] (spStands K C)) (c_Day_clear : CalM P w K mg base CX0 4 C "clear" ["self"] (spClear K C)) :
    Cal P w K mg base CX0 6 "_law_cleared" ["_law_day", "_law_rows", "_law_count", "_law_held", "_law_cell"] (spCleared K C) := by
  refine D.ok sc_L_cleared (fun _ _ _ _ _ _ us hl => match us, hl with | [_, _, _, _, _], _ => rfl) (fun vs H Q E h => ?_) (fun f cdv A outer s H vs Q E hr h => ?_)
  · obtain ⟨p, R, L, n, c, lp, lr, rs, hs, ds, F, rfl, _⟩ := h
    rfl
  · obtain ⟨p, R, L, n, c, lp, lr, rs, hs, ds, F, rfl, J, few, hl, q⟩ := h
    refine ⟨_, (pss_cons (ps_set (i := 5) sc_L_cleared.nd rfl (.inl rfl) (pe_mcal0 (pv 0) T.cl c_Day_clear (hr.mono (by decide)) pass0))
      (pss_cons (ps_set (i := 6) sc_L_cleared.nd rfl (.inl rfl) (pe_cal c_L_cut_of (hr.mono (by decide)) (by rfl) pass0 (pa_cons (pv 1) (pa_cons (pv 5) pa_nil))))
      (pss_cons (ps_if (pt_cmpR op_isN (pv 6) pe_non (nomark _)) (pss_one (ps_ret pe_bl)) pss_nil)
      (pss_cons (ps_set (i := 7) sc_L_cleared.nd rfl (.inl rfl) (pe_callB (r := rLenQ K) call_len_seq (by rfl) B.len (by decide +kernel) (pa_cons (pv 5) pa_nil)))
      (pss_cons (ps_expr (pe_bm PySem.F.plainAttrs_list PySem.F.slot_list_append PySem.F.type_list_append mt_append (pv 5) (pa_cons (pe_tup (pa_cons pe_int (pa_cons pe_int pa_nil))) pa_nil)))
      (pss_cons (ps_expr (pe_bm PySem.F.plainAttrs_list PySem.F.slot_list_append PySem.F.type_list_append mt_append (pv 3) (pa_cons (pe_tup (pa_cons (pv 5) (pa_cons (pe_callTy (r := rListQ K) call_list_of (by rfl) B.list (by decide +kernel) (pa_cons (pv 5) pa_nil)) pa_nil))) pa_nil)))
      (pss_cons (ps_set (i := 8) sc_L_cleared.nd rfl (.inl rfl) (pe_cal c_L_sums (hr.mono (by decide)) (by rfl) pass0 (pa_cons (pv 2) (pa_cons (pv 1) pa_nil))))
      (pss_cons (ps_if (pt_not (pt_val (pe_cal c_L_settles (hr.mono (by decide)) (by rfl) pass0 (pa_cons (pv 2) (pa_cons (pe_lc (own := [("_law_row", 10)]) (g := gName 10) rfl sc_L_cleared.nd (pi_list (pv 1)) (blkOk_by (N := ["_law_day", "_law_rows", "_law_count", "_law_held", "_law_cell", "_law_told_here", "_law_cut", "_law_many", "_law_sums_here", "_law_k", "_law_row"]) (sc := defScope s_L_cleared) (by decide +kernel)) (fun _ _ _ _ _ => (pg_name (i := 10) sc_L_cleared.nd rfl (.inl rfl))) (fun _ _ _ _ _ => pts_nil) (fun _ _ _ _ _ => (pe_tup (pa_cons (pe_ix (r := rIxL K) ix_list (pv 10) pe_int (fun _ _ => rfl)) (pa_cons (pe_ix (r := rIxL K) ix_list (pv 10) pe_int (fun _ _ => rfl)) (pa_cons (pe_ix (r := rIxL K) ix_list (pv 10) pe_int (fun _ _ => rfl)) pa_nil)))))) (pa_cons (pv 6) pa_nil)))))) (pss_one (ps_ret pe_bl)) pss_nil)
      (pss_cons (ps_for PassesOwn.never rfl (pi_range1 (by rfl) B.range (pa_cons (pe_callB (r := rLenQ K) call_len_seq (by rfl) B.len (by decide +kernel) (pa_cons (pv 1) pa_nil)) pa_nil)) (pg_name (i := 9) sc_L_cleared.nd rfl (.inl rfl)) (pss_one (ps_asg (pe_op op_sub (pe_ix (r := rIxL K) ix_list (pe_ix (r := rIxL K) ix_list (pv 1) (pv 9) (fun _ _ => rfl)) pe_int (fun _ _ => rfl)) (pe_ix (r := rIxL K) ix_list (pv 6) (pv 9) (fun _ _ => rfl))) (pg_sub (pe_ix (r := rIxL K) ix_list (pv 1) (pv 9) (fun _ _ => rfl)) pe_int set_list))))
      (pss_cons (ps_if (PW.pt (pw_or (pt_cmpR (r := rNeD K) (op_neD hr.units) (pe_cal c_L_sums (hr.mono (by decide)) (by rfl) pass0 (pa_cons (pv 2) (pa_cons (pv 1) pa_nil))) (pv 8) (nomark _)) (pw_or1 (pt_not (pt_val (pe_cal c_L_ringless (hr.mono (by decide)) (by rfl) pass0 (pa_cons (pv 2) (pa_cons (pv 1) pa_nil)))))))) (pss_one (ps_ret pe_bl)) pss_nil)
      (pss_cons (ps_if (PW.pt (pw_or (pt_not (pt_val (pe_cal c_L_stands (hr.mono (by decide)) (by rfl) pass0 (pa_cons (pv 0) (pa_cons (pv 1) (pa_cons (pv 2) (pa_cons (pv 4) pa_nil))))))) (pw_or1 (pt_cmpR op_ne (pe_callB (r := rLenQ K) call_len_seq (by rfl) B.len (by decide +kernel) (pa_cons (pv 5) pa_nil)) (pe_op op_add (pv 7) pe_int) (nomark _))))) (pss_one (ps_ret pe_bl)) pss_nil)
      (pss_one (ps_ret (pe_or (pe_cmpR op_eq (pe_op op_mod (pe_op op_fdiv (pv 4) pe_int) pe_int) pe_int (nomark _)) (pe_one (pe_cmpR (r := rEqD K) (op_eqD hr.units) (pe_mcal0 (pv 0) T.cl c_Day_clear (hr.mono (by decide)) pass0) (pe_lst pa_nil) (nomark _))))))))))))))))), ?_⟩
    obtain ⟨dx, hp⟩ := J.s0.day.obj
    obtain ⟨i1, i2, i3, i4, i5⟩ := J.s0.inj
    have n1 := J.s0.day.n1
    have nM := J.s0.day.nM
    have hin : ∀ d ∈ ds, InB n d := fun d hd => ⟨(J.s0.day.ok d hd).a0, (J.s0.day.ok d hd).an, (J.s0.day.ok d hd).b0, (J.s0.day.ok d hd).bn⟩
    have mlp : lp ∈ foot lp lr R rs := List.mem_cons_self
    have mlr : lr ∈ foot lp lr R rs := List.mem_cons_of_mem _ List.mem_cons_self
    have mR : R ∈ foot lp lr R rs := List.mem_cons_of_mem _ (List.mem_cons_of_mem _ List.mem_cons_self)
    have mrs : ∀ r ∈ rs, r ∈ foot lp lr R rs := fun r h => List.mem_cons_of_mem _ (List.mem_cons_of_mem _ (List.mem_cons_of_mem _ h))
    have hL := J.hl.held
    have nL : ∀ {x : Addr}, x ∈ foot lp lr R rs → x ≠ L := fun {x} h z => J.h0 (z ▸ h)
    refine ⟨_, rfl, p, dx, _, rfl, hp, dayF_clear, p, n, lp, lr, ds, rfl, J.s0.day, few, fun H1 t ws g f1 t0 et tw bc g0 D1 => ?_⟩
    have al : ∀ {x : Addr}, x ∈ foot lp lr R rs → x ≠ t := fun {x} h z => by
      obtain ⟨vs, e⟩ := J.s0.lists x h
      rw [z, t0] at e
      cases e
    have tL : t ≠ L := fun z => by
      rw [z, hL] at t0
      cases t0
    have one : ∀ {x y : Addr}, x ≠ y → x ∉ [y] := fun {x y} n z => n (List.mem_singleton.mp z)
    have R1 := J.s0.rows.fr f1 (one i3.symm) (fun r hr => one (i4 r hr).2.1)
    have hl1 := J.hl.fr f1 (fun a ha => by rw [List.mem_singleton.mp ha]; exact J.f0 lr mlr) (one (nL mlr).symm)
    refine ⟨_, rfl, _, rfl, R, t, rs, ds, ws, g, rfl, R1, by omega, SqL.of et, tw, bc.cut, g0, fun H2 cu s2 cu0 ec => ?_⟩
    refine ⟨_, rfl, rfl, _, rfl, ite2 (fun z => by have := of_decide_eq_true z; cases this) (fun _ => ?_)⟩
    have et2 := s2 _ _ et
    have wl := Paired.length tw
    have tlen := tellF_len g ds.length
    refine ⟨_, rfl, t, _, rfl, .inl (SqL.of et2), ?_⟩
    refine ⟨_, rfl, .inl ⟨rfl, _, SqL.of et2⟩, szn (by show 2 ≤ 100000; decide), fun u hu => ?_⟩
    have s3 := same_new (o := .tup [.int 0, .int 0]) hu
    refine ⟨t, ws, _, rfl, rfl, s3 _ _ et2, szl (by omega), ?_⟩
    have tw4 : TVs tdV K (upd (upd H2 u (.tup [.int 0, .int 0])) t (.lst (ws ++ [.ref u]))) (ws ++ [.ref u]) (tellF g ds.length ++ [(0, 0)]) := tvs_mut (s3 _ _ et2) (paired_app ((s2.trans s3).tvs tw) (.cons ⟨u, rfl, SqT.of upd_same⟩ .nil))
    have e4 : (upd (upd H2 u (.tup [.int 0, .int 0])) t (.lst (ws ++ [.ref u]))) t = some (.lst (ws ++ [.ref u])) := upd_same
    have f14 : Fr [t, L] H1 (upd (upd H2 u (.tup [.int 0, .int 0])) t (.lst (ws ++ [.ref u]))) := (fr_same (s2.trans s3)).trans (fr_upd List.mem_cons_self)
    have f04 : Fr [lr] H (upd (upd H2 u (.tup [.int 0, .int 0])) t (.lst (ws ++ [.ref u]))) := fr_mut (f1.trans (fr_same (s2.trans s3))) t0
    have crs : ∀ r ∈ rs, cu ≠ r := fun r hr z => by
      obtain ⟨j, hj⟩ := List.mem_iff_getElem?.mp hr
      have h := R1.at_ j r hj
      rw [← z, cu0] at h
      cases h
    have cut : cu ≠ t := fun z => by
      rw [z, et] at cu0
      cases cu0
    have cuL : cu ≠ L := fun z => by
      rw [z, hl1.held] at cu0
      cases cu0
    have ec4 : (upd (upd H2 u (.tup [.int 0, .int 0])) t (.lst (ws ++ [.ref u]))) cu = some (.lst ((listF g ds.length).map V.int)) := by
      rw [upd_ne cut]
      exact s3 _ _ ec
    generalize upd (upd H2 u (.tup [.int 0, .int 0])) t (.lst (ws ++ [.ref u])) = H4 at tw4 e4 f14 f04 ec4 ⊢
    have hL4 : H4 L = some (.lst (hs.map V.ref)) := f04 _ _ hL (one (nL mlr).symm)
    refine ⟨_, rfl, .inl ⟨rfl, _, SqL.of hL4⟩, _, rfl, _, rfl, t, _, rfl, .inl (SqL.of e4), fun b hb => ⟨szn (by show 2 ≤ 100000; decide), fun v hv => ?_⟩⟩
    have s5 := same_new (o := .lst (ws ++ [.ref u])) hb
    have s6 := same_new (o := .tup [.ref t, .ref b]) hv
    have s46 := s5.trans s6
    have eb6 := s6 _ _ (show (upd H4 b (.lst (ws ++ [.ref u]))) b = some (.lst (ws ++ [.ref u])) from upd_same)
    have ev6 : SqT K (upd (upd H4 b (.lst (ws ++ [.ref u]))) v (.tup [.ref t, .ref b])) v [.ref t, .ref b] := SqT.of upd_same
    refine ⟨L, _, _, rfl, rfl, s46 _ _ hL4, szl (by rw [List.length_map]; omega), ?_⟩
    generalize upd (upd H4 b (.lst (ws ++ [.ref u]))) v (.tup [.ref t, .ref b]) = H6 at s46 eb6 ev6 ⊢
    have f06 := f04.trans (fr_same s46)
    have b0 : H b = none := by
      cases e : H b with
      | none => rfl
      | some o =>
        by_cases z : b = lr
        · have e1 : H4 lr = some _ := f14 _ _ D1.rs (fun y => by
            rcases List.mem_cons.mp y with y | y
            · exact al mlr y
            · exact nL mlr (List.mem_singleton.mp y))
          rw [z, e1] at hb
          cases hb
        · rw [f04 _ _ e (one z)] at hb
          cases hb
    have lst6 : ∀ x ws, H x = some (.lst ws) → ∃ ws', H6 x = some (.lst ws') := fun x ws e => by
      by_cases z : x = lr
      · have e1 : H4 lr = some _ := f14 _ _ D1.rs (fun y => by
          rcases List.mem_cons.mp y with y | y
          · exact al mlr y
          · exact nL mlr (List.mem_singleton.mp y))
        rw [z]
        exact ⟨_, s46 _ _ e1⟩
      · exact ⟨ws, f06 _ _ e (one z)⟩
    have hl6 := J.hl.fr f06 (fun a ha => by rw [List.mem_singleton.mp ha]; exact J.f0 lr mlr) (one (nL mlr).symm)
    obtain ⟨F', FF, Fn, hl7⟩ := hl6.told (H := H) ⟨_, hL⟩ lst6 (fun F v a h => dp_td h) (sh_td (tellF g ds.length ++ [(0, 0)])) t0 (s46 _ _ e4) (s46.tvs tw4) b0 eb6 (s46.tvs tw4) ev6
    have f17 := (f14.trans (fr_same s46)).trans (fr_upd (a := L) (o := .lst (hs.map V.ref ++ [.ref v])) (List.mem_cons_of_mem _ List.mem_cons_self))
    have f07 : Fr (L :: foot lp lr R rs) H (upd H6 L (.lst (hs.map V.ref ++ [.ref v]))) := (f06.mono fun a ha => by rw [List.mem_singleton.mp ha]; exact List.mem_cons_of_mem _ mlr).trans (fr_upd List.mem_cons_self)
    have e7 : (upd H6 L (.lst (hs.map V.ref ++ [.ref v]))) t = some (.lst (ws ++ [.ref u])) := by
      rw [upd_ne tL]
      exact s46 _ _ e4
    have ec7 : (upd H6 L (.lst (hs.map V.ref ++ [.ref v]))) cu = some (.lst ((listF g ds.length).map V.int)) := by
      rw [upd_ne cuL]
      exact s46 _ _ ec4
    generalize upd H6 L (.lst (hs.map V.ref ++ [.ref v])) = H7 at hl7 f17 f07 e7 ec7 ⊢
    have l17 : ∀ l ∈ [t, L], ∃ vs, H1 l = some (.lst vs) := fun l hl => by
      rcases List.mem_cons.mp hl with y | y
      · rw [y]
        exact ⟨_, et⟩
      · rw [List.mem_singleton.mp y]
        exact ⟨_, hl1.held⟩
    have n17 : ∀ {x : Addr}, x ∈ foot lp lr R rs → x ∉ [t, L] := fun {x} h z => by
      rcases List.mem_cons.mp z with y | y
      · exact al h y
      · exact nL h (List.mem_singleton.mp y)
    have D7 := D1.fr f17 l17 (n17 mlp) (n17 mlr)
    have R7 := R1.fr f17 (n17 mR) (fun r hr => n17 (mrs r hr))
    have F0 : ∀ a ∈ foot lp lr R rs, F' a = none := fun a ha => by
      obtain ⟨ws, e⟩ := J.s0.lists a ha
      exact Fn a ws e (J.f0 a ha)
    clear f17 l17 hl6 lst6 b0 f06 ev6 eb6 s46 s5 s6 hL4 hb hv e4 tw4 f14 f04 ec4 s3 hu et2 ec s2 R1 hl1 et f1 tw
    have rl := R7.len
    have tl : (rs.map V.ref).length = ds.length := by rw [List.length_map, rl]
    -- the sums, and how it settles
    refine ⟨_, rfl, _, rfl, n, R, rs, ds, rfl, by omega, nM, R7, hin, fun H8 sh s8 sh0 esh => ?_⟩
    have R8 := R7.same s8
    refine ⟨_, rfl, _, rfl, R, rfl, ⟨_, SqL.of R8.top⟩, fun M hM => lc_list (xs := rs.map V.ref) (fun i H9 => Same H8 H9 ∧ DM K H9 M (ds.take i)) ⟨same_new hM, [], upd_same, .nil⟩ ?_ ?_ ?_⟩
    · rintro i H9 _ ⟨s9, _⟩
      exact SqL.of (s9 _ _ R8.top)
    · rintro i x H9 hx ⟨s9, ys, e9, d9⟩
      have hi : i < ds.length := by
        have := (List.getElem?_eq_some_iff.mp hx).1
        omega
      obtain ⟨r, er, em, hr⟩ := (R8.same s9).get hi
      rw [em] at hx
      cases hx
      refine ⟨rfl, _, rfl, r, _, 0, _, rfl, rfl, SqL.of hr, rfl, _, rfl, r, _, 1, _, rfl, rfl, SqL.of hr, rfl, _, rfl, r, _, 2, _, rfl, rfl, SqL.of hr, rfl, szn (by show 3 ≤ 100000; decide), fun u' hu' => ?_⟩
      have s10 := same_new (o := .tup [.int (dbt ds i).1, .int (dbt ds i).2.1, .int (dbt ds i).2.2]) hu'
      refine ⟨_, s10 _ _ e9, szl (by rw [dvs_len d9, List.length_take]; omega), same_mut (s9.trans s10) hM, ?_⟩
      rw [List.take_add_one, dbt_at hi]
      exact dm_set (s10 _ _ e9) (dvs_app (s10.dvs d9) (dvs_one (dv_new (d := dbt ds i) upd_same)))
    rintro H9 ⟨s9, d9⟩
    rw [tl, List.take_length] at d9
    have s79 := s8.trans s9
    refine ⟨_, rfl, n, M, cu, ds, listF g ds.length, rfl, by omega, nM, hin, d9.dl, SqL.of (s79 _ _ ec7), listF_len _ _, by omega, fun H10 s10 => ?_⟩
    rw [(settles_iff hin).mpr bc.sh]
    refine ⟨_, rfl, ite2 (fun z => by cases z) (fun _ => ?_)⟩
    have s710 := s79.trans s10
    have R10 := R7.same s710
    have D10 := D7.same s710
    have hl10 := hl7.later s710
    have f010 := f07.trans (fr_same s710)
    have e10 := s710 _ _ e7
    have ec10 := s710 _ _ ec7
    have esh10 := (s9.trans s10) _ _ esh
    have shrs : ∀ {x : Addr}, x ∈ foot lp lr R rs → sh ≠ x := fun {x} h z => by
      have l : ∃ vs, H7 x = some (.lst vs) := by
        rcases List.mem_cons.mp h with y | h
        · obtain ⟨vs, e, _⟩ := D7.prs
          exact ⟨vs, y ▸ e⟩
        · rcases List.mem_cons.mp h with y | h
          · exact ⟨_, y ▸ D7.rs⟩
          · rcases List.mem_cons.mp h with y | h
            · exact ⟨_, y ▸ R7.top⟩
            · obtain ⟨j, hj⟩ := List.mem_iff_getElem?.mp h
              exact ⟨_, R7.at_ j x hj⟩
      obtain ⟨vs, e⟩ := l
      rw [← z, sh0] at e
      cases e
    clear s8 s9 s10 d9 esh s79 s710 R8 R7 D7 hl7 f07 e7 ec7 sh0 hM
    -- the rows, lessened
    refine ⟨_, rfl, R, _, rfl, .inl (SqL.of R10.top), _, rfl, by omega, by omega, for_range (lo := 0) (n := (((rs.map V.ref).length : Nat) : Int).toNat) (fun i σ H11 => ∃ y9, σ = [some (.ref p), some (.ref R), some (.int n), some (.ref L), some (.int c), some (.ref t), some (.ref cu), some (.int (ws.length : Int)), some (.ref sh), y9, none] ∧ Fr rs H10 H11 ∧ Rows H11 R rs (lessF ds g i)) ⟨_, rfl, fr_same (Same.refl H10), by rw [lessF_zero]; exact R10⟩ ?_ ?_⟩
    · rintro i σ H11 hi ⟨y9, rfl, f11, R11⟩
      have hi : i < ds.length := by omega
      have hi' : i < (lessF ds g i).length := by rw [lessF_len]; exact hi
      obtain ⟨r, er, em, hr⟩ := R11.get hi'
      have em' : atI (rs.map V.ref) (0 + (i : Int)) = some (.ref r) := by
        rw [Int.zero_add]
        exact atI_nat em
      have ec' : atI ((listF g ds.length).map V.int) (0 + (i : Int)) = some (.int (g i)) := by
        rw [Int.zero_add]
        refine atI_nat ?_
        rw [List.getElem?_map, listF_at hi]
        rfl
      have ec11 := f11 _ _ ec10 (fun z => crs cu z rfl)
      have hrm := List.mem_of_getElem? er
      refine ⟨_, rfl, _, rfl, R, _, _, _, rfl, rfl, SqL.of R11.top, em', r, _, 2, _, rfl, rfl, SqL.of hr, rfl, _, rfl, _, rfl, cu, _, _, _, rfl, rfl, SqL.of ec11, ec', _, _, rfl, rfl, ?_⟩
      refine ⟨_, rfl, _, rfl, R, _, _, _, rfl, rfl, SqL.of R11.top, em', r, _, _, 2, rfl, rfl, hr, rfl, ?_⟩
      refine ⟨_, rfl, f11.trans (fr_upd hrm), ?_⟩
      rw [← lessF_step hi]
      exact R11.put (x := (dbt (lessF ds g i) i).2.2 - g i) hi' er (fun y hy => (i4 y hy).2.2) i5
    rintro σ H11 ⟨y9, rfl, f11, R11⟩
    rw [Int.toNat_natCast, tl] at R11
    have l11 : ∀ l ∈ rs, ∃ vs, H10 l = some (.lst vs) := fun l hl => by
      obtain ⟨j, hj⟩ := List.mem_iff_getElem?.mp hl
      exact ⟨_, R10.at_ j l hj⟩
    have D11 := D10.fr f11 l11 (fun z => (i4 lp z).1 rfl) (fun z => (i4 lr z).2.1 rfl)
    have hl11 := hl10.fr f11 (fun a ha => F0 a (mrs a ha)) (fun z => nL (mrs L z) rfl)
    have f011 := f010.trans (f11.mono fun a ha => List.mem_cons_of_mem _ (mrs a ha))
    have e11 := f11 _ _ e10 (fun z => al (mrs t z) rfl)
    have esh11 := f11 _ _ esh10 (fun z => shrs (mrs sh z) rfl)
    clear f11 l11 D10 hl10 f010 e10 ec10 esh10 R10
    have hin' := less_inb (f := g) hin ds.length
    have bl := less_bal hin bc.even
    have ll := lessF_len ds g ds.length
    obtain ⟨pr, psh⟩ := bc.sh
    have ris := less_rises psh
    generalize hds : lessF ds g ds.length = ds' at R11 D11 hin' bl ll ris
    -- the sums are the same, and no ring is left
    refine ⟨_, rfl, _, rfl, n, R, rs, ds', rfl, by omega, nM, R11, hin', fun H12 sg s12 sg0 esg => ?_⟩
    rw [bl] at esg
    refine ⟨_, rfl, _, _, eqv_intsL (SqL.of esg), eqv_intsL (SqL.of (s12 _ _ esh11)), (sh_ints _).shaped (by decide), (sh_ints _).shaped (by decide), _, rfl, ite2 (fun z => by rw [eqv_self (sh_ints _)] at z; cases z) (fun _ => ?_)⟩
    refine ⟨_, rfl, _, rfl, n, R, rs, ds', rfl, by omega, nM, R11.same s12, by omega, hin', ⟨pr, ris⟩, fun H13 s13 => ⟨_, rfl, ite2 (fun z => by cases z) (fun _ => ?_)⟩⟩
    have s113 := s12.trans s13
    refine ⟨_, rfl, _, rfl, _, rfl, _, rfl, p, R, n, c, lp, lr, rs, ds', rfl, ⟨D11.same s113, R11.same s113, J.s0.nd⟩, fun H14 s14 => ⟨_, rfl, ite2 (fun z => by cases z) (fun _ => ?_)⟩⟩
    have s114 := s113.trans s14
    have D14 := D11.same s114
    have R14 := R11.same s114
    have hl14 := hl11.later s114
    have f014 := f011.trans (fr_same s114)
    have e14 := s114 _ _ e11
    clear s12 s13 s14 s113 s114 D11 R11 hl11 f011 e11 esg esh11
    refine ⟨_, rfl, t, _, rfl, .inl (SqL.of e14), _, rfl, _, _, rfl, rfl, rfl, _, rfl, ite2 (fun z => ?_) (fun _ => ?_)⟩
    · have e : V.int ((ws ++ [V.ref u]).length : Int) = V.int ((ws.length : Int) + 1) := by
        rw [List.length_append, List.length_singleton]
        congr 1
      rw [e, decide_eq_true rfl] at z
      cases z
    refine ⟨_, rfl, _, _, rfl, rfl, ⟨by decide, by decide⟩, _, _, rfl, rfl, by show (0 : Int) < 2; decide, rfl, _, rfl, ite2 (fun _ => ?_) (fun _ => ?_)⟩
    · exact q F' H14 ds' _ FF Fn f014 ⟨hl14, ⟨D14, R14, J.s0.nd⟩, J.h0, F0⟩ ll (by rw [List.length_append]; exact Nat.le_refl _)
    -- a second clearing
    obtain ⟨dx2, hp2⟩ := D14.obj
    refine ⟨_, rfl, p, dx2, _, rfl, hp2, dayF_clear, p, n, lp, lr, ds', rfl, D14, by omega, fun H15 t2 ws2 g2 f15 t20 et2 tw2 bc2 g20 D15 => ?_⟩
    have z2 := rises_zero D14.ok ris bc2.cut bc2.even
    rw [tellF_zero z2] at tw2
    rw [lessF_nil z2] at D15
    have w2 : ws2 = [] := by
      have := Paired.length tw2
      exact List.length_eq_zero_iff.mp this
    subst w2
    refine ⟨lb rfl, fun N hN => ?_⟩
    have sN := same_new (o := .lst []) hN
    have dM : Dp K (upd H15 N (.lst [])) (.ref t2) (.list (([] : List Int).map PyData.int)) := .lst (SqL.of (sN _ _ et2)) .nil
    have dN : Dp K (upd H15 N (.lst [])) (.ref N) (.list (([] : List Int).map PyData.int)) := .lst (SqL.of upd_same) .nil
    refine ⟨_, _, dM, dN, (sh_ints []).shaped (by decide), (sh_ints []).shaped (by decide), ?_⟩
    rw [eqv_self (sh_ints [])]
    have hl15 := (hl14.fr f15 (fun a ha => by rw [List.mem_singleton.mp ha]; exact F0 lr mlr) (one (nL mlr).symm)).later sN
    have R15 := (R14.fr f15 (one i3.symm) (fun r hr => one (i4 r hr).2.1)).same sN
    exact q F' _ ds' _ FF Fn ((f014.trans (f15.mono fun a ha => by rw [List.mem_singleton.mp ha]; exact List.mem_cons_of_mem _ mlr)).trans (fr_same sN)) ⟨hl15, ⟨D15.same sN, R15, J.s0.nd⟩, J.h0, F0⟩ ll (by rw [List.length_append]; exact Nat.le_refl _)

abbrev s_law : Stmt := topS 36
theorem sc_law : FnScope ["_law_script", "_law_count", "_law_day", "_law_other", "_law_rows", "_law_held", "_law_k", "_law_debt_here", "_law_cell", "_law_good", "_law_told_here", "_law_pair"] ["_law_script"] (defScope s_law) := ⟨rfl, rfl, rfl, by decide +kernel, rfl, by decide +kernel, by decide +kernel⟩
theorem good_owes {n : Int} {d : Debt} (h : Good n d) : isDebt n (.tuple [.int d.1, .int d.2.1, .int d.2.2]) = true := by
  show ((decide (0 ≤ d.1) && decide (d.1 ≤ n - 1)) && ((decide (0 ≤ d.2.1) && decide (d.2.1 ≤ n - 1)) && (!(PyData.eqv (.int d.1) (.int d.2.1)) && (decide (1 ≤ d.2.2) && decide (d.2.2 ≤ 1000000000))))) = true
  have h1 := h.a0
  have h2 := h.an
  have h3 := h.b0
  have h4 := h.bn
  rw [eqv_int, decide_eq_false h.ne, decide_eq_true h1, decide_eq_true h3, decide_eq_true h.m1, decide_eq_true h.mM, decide_eq_true (show d.1 ≤ n - 1 by omega), decide_eq_true (show d.2.1 ≤ n - 1 by omega)]
  rfl
theorem fr_fresh {H H1 H2 : Hp} {x : Addr} (s : Same H H1) (f : Fr [x] H1 H2) (h : H x = none) : Same H H2 := fun b o e => f b o (s b o e) fun z => by
  rw [List.mem_singleton.mp z, h] at e
  cases e
theorem fr_new {S : List Addr} {H H1 H2 : Hp} (s : Same H H1) (f : Fr S H1 H2) (h : ∀ x ∈ S, H x = none) : Same H H2 := fun b o e => f b o (s b o e) fun z => by
  rw [h b z] at e
  cases e
theorem ok_law {C C0 C1 : Addr} (D : DefAt K mg "law" s_law) (B : Blt mg) (T : DayC K mg C) (c_L_cell_at : Cal P w K mg base CX0 1 "_law_cell_at" ["_law_script", "_law_k"] (spCell K)) (c_L_debt : Cal P w K mg base CX0 1 "_law_debt" ["_law_cell", "_law_k", "_law_count"] spDebt)
    (c_Day : CalI P w K mg base (L2N.CX P w) 4 C ["self", "count"] (spDayI K C C0)) (c_Day_standing : CalM P w K mg base CX0 1 C "standing" ["self"] (spStanding K C)) (c_Day_owe : CalM P w K mg base (L2N.CX P w) 4 C "owe" ["self", "debtor", "creditor", "amount"] (spOwe K C C1)) (c_Day_clear : CalM P w K mg base CX0 4 C "clear" ["self"] (spClear K C))
    (c_L_paid : Cal P w K mg base CX0 5 "_law_paid" ["_law_day", "_law_rows", "_law_cell"] (spPaid11 K C)) (c_L_cleared : Cal P w K mg base CX0 6 "_law_cleared" ["_law_day", "_law_rows", "_law_count", "_law_held", "_law_cell"] (spCleared K C))
    (c_L_stands : Cal P w K mg base CX0 5 "_law_stands" ["_law_day", "_law_rows", "_law_count", "_law_cell"] (spStands K C)) : Cal P w K mg base CX0 7 "law" ["_law_script"] (spLaw K) := by
  refine D.ok sc_law (fun _ _ _ _ _ _ us hl => match us, hl with | [_], _ => rfl) (fun vs H Q E h => ?_) (fun f cdv A outer s H vs Q E hr h => ?_)
  · obtain ⟨a, ns, rfl, _⟩ := h
    rfl
  · obtain ⟨a, ns, rfl, hS, q⟩ := h
    refine ⟨_, (pss_cons (ps_set (i := 1) sc_law.nd rfl (.inl rfl) (pe_op op_add pe_int (pe_op op_mod (pe_cal c_L_cell_at (hr.mono (by decide)) (by rfl) pass0 (pa_cons (pv 0) (pa_cons pe_int pa_nil))) pe_int)))
      (_root_.C8.pss_cut (ps_if (pt_cmpR op_eq (pe_op op_mod (pe_op op_fdiv (pe_cal c_L_cell_at (hr.mono (by decide)) (by rfl) pass0 (pa_cons (pv 0) (pa_cons pe_int pa_nil))) pe_int) pe_int) pe_int (nomark _)) (pss_one (ps_set (i := 1) sc_law.nd rfl (.inl rfl) (pe_op op_add pe_int (pe_op op_mod (pe_op op_fdiv (pe_cal c_L_cell_at (hr.mono (by decide)) (by rfl) pass0 (pa_cons (pv 0) (pa_cons pe_int pa_nil))) pe_int) pe_int)))) pss_nil)
      (pss_cons (ps_set (i := 2) sc_law.nd rfl (.inl rfl) (pe_mak c_Day (hr.mono (by decide)) (by rfl) T.mgC passN (pa_cons (pv 1) pa_nil)))
      (pss_cons (ps_set (i := 3) sc_law.nd rfl (.inl rfl) (pe_mak c_Day (hr.mono (by decide)) (by rfl) T.mgC passN (pa_cons pe_int pa_nil)))
      (pss_cons (ps_expr (pe_mcal (pv 3) T.cl c_Day_owe (hr.mono (by decide)) passN (pa_cons pe_int (pa_cons pe_int (pa_cons pe_int pa_nil)))))
      (pss_cons (ps_set (i := 4) sc_law.nd rfl (.inl rfl) (pe_lst pa_nil))
      (pss_cons (ps_set (i := 5) sc_law.nd rfl (.inl rfl) (pe_lst (pa_cons (pe_tup (pa_cons (pe_mcal0 (pv 2) T.cl c_Day_clear (hr.mono (by decide)) pass0) (pa_cons (pe_lst pa_nil) pa_nil))) pa_nil)))
      (pss_cons (ps_for PassesOwn.never rfl (pi_range1 (by rfl) B.range (pa_cons (pe_ix (r := rIxL K) ix_list (pe_lst (pa_cons pe_int (pa_cons pe_int pa_nil))) (pe_callTy call_int1 (by rfl) B.int (by decide +kernel) (pa_cons (pe_cmpR op_eq (pe_op op_mod (pe_op op_fdiv (pe_cal c_L_cell_at (hr.mono (by decide)) (by rfl) pass0 (pa_cons (pv 0) (pa_cons pe_int pa_nil))) pe_int) pe_int) pe_int (nomark _)) pa_nil)) (fun _ _ => rfl)) pa_nil)) (pg_name (i := 6) sc_law.nd rfl (.inl rfl)) (pss_cons (ps_set (i := 7) sc_law.nd rfl (.inl rfl) (pe_cal c_L_debt (hr.mono (by decide)) (by rfl) pass0 (pa_cons (pe_op op_add (pe_op op_fdiv (pe_cal c_L_cell_at (hr.mono (by decide)) (by rfl) pass0 (pa_cons (pv 0) (pa_cons pe_int pa_nil))) (pe_op op_add pe_int (pe_op op_mod (pv 6) pe_int))) (pv 6)) (pa_cons (pv 6) (pa_cons (pv 1) pa_nil)))))
        (pss_cons (ps_expr (pe_mcal (pv 2) T.cl c_Day_owe (hr.mono (by decide)) passN (pa_cons (pe_ix (r := rIxT K) ix_tup (pv 7) pe_int (fun _ _ => rfl)) (pa_cons (pe_ix (r := rIxT K) ix_tup (pv 7) pe_int (fun _ _ => rfl)) (pa_cons (pe_ix (r := rIxT K) ix_tup (pv 7) pe_int (fun _ _ => rfl)) pa_nil)))))
        (pss_one (ps_expr (pe_bm PySem.F.plainAttrs_list PySem.F.slot_list_append PySem.F.type_list_append mt_append (pv 4) (pa_cons (pe_lst (pa_cons (pe_ix (r := rIxT K) ix_tup (pv 7) pe_int (fun _ _ => rfl)) (pa_cons (pe_ix (r := rIxT K) ix_tup (pv 7) pe_int (fun _ _ => rfl)) (pa_cons (pe_ix (r := rIxT K) ix_tup (pv 7) pe_int (fun _ _ => rfl)) pa_nil)))) pa_nil)))))))
      (pss_cons (ps_for PassesOwn.never rfl (pi_range2 (by rfl) B.range (pa_cons pe_int (pa_cons (pe_callB (call_min2 rfl) (by rfl) B.min (by decide +kernel) (pa_cons (pe_callB (r := rLenQ K) call_len_seq (by rfl) B.len (by decide +kernel) (pa_cons (pv 0) pa_nil)) (pa_cons pe_int pa_nil))) pa_nil))) (pg_name (i := 6) sc_law.nd rfl (.inl rfl)) (pss_cons (ps_set (i := 8) sc_law.nd rfl (.inl rfl) (pe_ix (r := rIxL K) ix_list (pv 0) (pv 6) (fun _ _ => rfl)))
        (pss_cons (ps_set (i := 9) sc_law.nd rfl (.inl rfl) pe_bl)
        (_root_.C8.pss_cut (ps_if (pt_cmpR op_eq (pe_op op_mod (pe_op op_fdiv (pv 8) pe_int) pe_int) pe_int (nomark _)) (pss_cons (ps_set (i := 10) sc_law.nd rfl (.inl rfl) (pe_mcal0 (pv 2) T.cl c_Day_standing (hr.mono (by decide)) pass0))
          (pss_one (ps_expr (pe_bm PySem.F.plainAttrs_list PySem.F.slot_list_append PySem.F.type_list_append mt_append (pv 5) (pa_cons (pe_tup (pa_cons (pv 10) (pa_cons (pe_callTy (r := rListQ K) call_list_of (by rfl) B.list (by decide +kernel) (pa_cons (pv 10) pa_nil)) pa_nil))) pa_nil))))) pss_nil)
        (_root_.C8.pss_cut (ps_if (pt_cmpR op_lt (pe_op op_mod (pv 8) pe_int) pe_int (nomark _)) (pss_cons (ps_set (i := 7) sc_law.nd rfl (.inl rfl) (pe_cal c_L_debt (hr.mono (by decide)) (by rfl) pass0 (pa_cons (pe_op op_fdiv (pv 8) pe_int) (pa_cons (pv 6) (pa_cons (pv 1) pa_nil)))))
          (pss_cons (ps_set (i := 9) sc_law.nd rfl (.inl rfl) (pe_cmpR op_eq (pe_mcal (pv 2) T.cl c_Day_owe (hr.mono (by decide)) passN (pa_cons (pe_ix (r := rIxT K) ix_tup (pv 7) pe_int (fun _ _ => rfl)) (pa_cons (pe_ix (r := rIxT K) ix_tup (pv 7) pe_int (fun _ _ => rfl)) (pa_cons (pe_ix (r := rIxT K) ix_tup (pv 7) pe_int (fun _ _ => rfl)) pa_nil)))) (pe_callB (r := rLenQ K) call_len_seq (by rfl) B.len (by decide +kernel) (pa_cons (pv 4) pa_nil)) (nomark _)))
          (pss_one (ps_expr (pe_bm PySem.F.plainAttrs_list PySem.F.slot_list_append PySem.F.type_list_append mt_append (pv 4) (pa_cons (pe_lst (pa_cons (pe_ix (r := rIxT K) ix_tup (pv 7) pe_int (fun _ _ => rfl)) (pa_cons (pe_ix (r := rIxT K) ix_tup (pv 7) pe_int (fun _ _ => rfl)) (pa_cons (pe_ix (r := rIxT K) ix_tup (pv 7) pe_int (fun _ _ => rfl)) pa_nil)))) pa_nil)))))) (pss_one (ps_if (PW.pt (pw_and (pt_cmpR op_eq (pe_op op_mod (pv 8) pe_int) pe_int (nomark _)) (pw_and1 (pt_cmpR op_gt (pe_callB (r := rLenQ K) call_len_seq (by rfl) B.len (by decide +kernel) (pa_cons (pv 4) pa_nil)) pe_int (nomark _))))) (pss_one (ps_set (i := 9) sc_law.nd rfl (.inl rfl) (pe_cal c_L_paid (hr.mono (by decide)) (by rfl) pass0 (pa_cons (pv 2) (pa_cons (pv 4) (pa_cons (pe_op op_fdiv (pv 8) pe_int) pa_nil)))))) (pss_one (ps_set (i := 9) sc_law.nd rfl (.inl rfl) (pe_cal c_L_cleared (hr.mono (by decide)) (by rfl) pass0 (pa_cons (pv 2) (pa_cons (pv 4) (pa_cons (pv 1) (pa_cons (pv 5) (pa_cons (pe_op op_fdiv (pv 8) pe_int) pa_nil)))))))))))
        (pss_one (ps_if (PW.pt (pw_or (pt_not (pt_val (pv 9))) (pw_or1 (pt_not (pt_val (pe_cal c_L_stands (hr.mono (by decide)) (by rfl) pass0 (pa_cons (pv 2) (pa_cons (pv 4) (pa_cons (pv 1) (pa_cons (pe_op op_fdiv (pv 8) pe_int) pa_nil)))))))))) (pss_one (ps_ret pe_bl)) pss_nil)))))))
      (_root_.C8.pss_cut (ps_if (PW.pt (pw_and (pt_cmpR op_eq (pe_op op_mod (pe_cal c_L_cell_at (hr.mono (by decide)) (by rfl) pass0 (pa_cons (pv 0) (pa_cons pe_int pa_nil))) pe_int) pe_int (nomark _)) (pw_and1 (pt_not (pt_val (pe_cal c_L_cleared (hr.mono (by decide)) (by rfl) pass0 (pa_cons (pe_mak c_Day (hr.mono (by decide)) (by rfl) T.mgC passN (pa_cons pe_int pa_nil)) (pa_cons (pe_lst pa_nil) (pa_cons pe_int (pa_cons (pv 5) (pa_cons pe_int pa_nil))))))))))) (pss_one (ps_ret pe_bl)) pss_nil)
      (pss_cons (ps_if (PW.pt (pw_or (pt_not (pt_val (pe_cal c_L_cleared (hr.mono (by decide)) (by rfl) pass0 (pa_cons (pv 2) (pa_cons (pv 4) (pa_cons (pv 1) (pa_cons (pv 5) (pa_cons pe_int pa_nil)))))))) (pw_or1 (pt_cmpR (r := rNeD K) (op_neD hr.units) (pe_mcal0 (pv 3) T.cl c_Day_standing (hr.mono (by decide)) pass0) (pe_lst (pa_cons (pe_tup (pa_cons pe_int (pa_cons pe_int (pa_cons pe_int (pa_cons pe_int pa_nil))))) pa_nil)) (nomark _))))) (pss_one (ps_ret pe_bl)) pss_nil)
      (pss_one (ps_ret (pe_cmpR (r := rEqD K) (op_eqD hr.units) (pe_lc (own := [("_law_pair", 11)]) (g := gName 11) rfl sc_law.nd (pi_list (pv 5)) (blkOk_by (N := ["_law_script", "_law_count", "_law_day", "_law_other", "_law_rows", "_law_held", "_law_k", "_law_debt_here", "_law_cell", "_law_good", "_law_told_here", "_law_pair"]) (sc := defScope s_law) (by decide +kernel)) (fun _ _ _ _ _ => (pg_name (i := 11) sc_law.nd rfl (.inl rfl))) (fun _ _ _ _ _ => (pts_one (pt_cmpR (r := rNeD K) (op_neD hr.units) (pe_ix (r := rIxT K) ix_tup (pv 11) pe_int (fun _ _ => rfl)) (pe_ix (r := rIxT K) ix_tup (pv 11) pe_int (fun _ _ => rfl)) (nomark _)))) (fun _ _ _ _ _ => (pv 11))) (pe_lst pa_nil) (nomark _))))))))))))))), ?_⟩
    have b0 := emod_b (x := cell ns 0) (n := 5) (by decide)
    have b1 := emod_b (x := cell ns 0 / 40) (n := 19) (by decide)
    refine ⟨_, rfl, a, ns, 0, rfl, hS, by decide, _, _, rfl, rfl, by show (0 : Int) < 5; decide, _, _, rfl, rfl, ?_⟩
    refine ⟨fun σ' H' => ∃ n : Int, σ' = [some (.ref a), some (.int n), none, none, none, none, none, none, none, none, none, none] ∧ H' = H ∧ 2 ≤ n ∧ n ≤ 20, ?_, ?_⟩
    · refine ⟨_, rfl, a, ns, 0, rfl, hS, by decide, _, _, rfl, rfl, ⟨by decide, by decide⟩, _, _, rfl, rfl, by show (0 : Int) < 8; decide, rfl, _, rfl, ite2 (fun _ => ?_) (fun _ => ?_)⟩
      · refine ⟨_, rfl, a, ns, 0, rfl, hS, by decide, _, _, rfl, rfl, ⟨by decide, by decide⟩, _, _, rfl, rfl, by show (0 : Int) < 19; decide, _, _, rfl, rfl, ?_⟩
        exact ⟨2 + cell ns 0 / 40 % 19, rfl, rfl, by omega, by omega⟩
      · exact ⟨2 + cell ns 0 % 5, rfl, rfl, by omega, by omega⟩
    clear b0 b1
    rintro σ' H0 ⟨n, rfl, rfl, n2, nM⟩
    have mkd : ∀ {n : Int} {H' : Hp}, 1 ≤ n → n ≤ 20 → isNum (.int n) 1 20 = true := fun {n H'} h1 h2 => by
      show (decide (1 ≤ n) && decide (n ≤ 20)) = true
      rw [decide_eq_true h1, decide_eq_true h2]
      rfl
    -- the two days
    refine ⟨_, rfl, fun x0 d0 hx0 hd0 ne0 => ⟨x0, d0, .int n, .int n, rfl, upd_same, .int n, fun bad => ?_, fun m em good H1 lp0 lr0 f1 hlp0 hlr0 D0 => ⟨rfl, ?_⟩⟩⟩
    · rw [mkd (H' := H0) (by omega) nM] at bad
      cases bad
    cases em
    have sx0 : Same H0 (upd (upd H0 d0 (.own x0)) x0 (.ins C d0 [])) := (same_new hd0).trans (same_new (by rw [upd_ne ne0.symm]; exact hx0))
    have s1 : Same H0 H1 := fr_fresh sx0 f1 hx0
    have nlp0 := sx0.free hlp0
    have nlr0 := sx0.free hlr0
    clear sx0 f1 hlp0 hlr0
    refine fun x1 d1 hx1 hd1 ne1 => ⟨x1, d1, .int 3, .int 3, rfl, upd_same, .int 3, fun bad => ?_, fun m em good H2 lp1 lr1 f2 hlp1 hlr1 D1 => ⟨rfl, ?_⟩⟩
    · cases bad
    cases em
    have sx1 : Same H1 (upd (upd H1 d1 (.own x1)) x1 (.ins C d1 [])) := (same_new hd1).trans (same_new (by rw [upd_ne ne1.symm]; exact hx1))
    have s2 : Same H1 H2 := fr_fresh sx1 f2 hx1
    have nlp1 := sx1.free hlp1
    have nlr1 := sx1.free hlr1
    clear sx1 f2 hlp1 hlr1
    obtain ⟨dx1, hp1⟩ := D1.obj
    have g3 : Good 3 ((0, 2, 5) : Debt) := ⟨by decide, by decide, by decide, by decide, by decide, by decide, by decide⟩
    refine ⟨_, rfl, x1, dx1, _, rfl, hp1, dayF_owe, x1, 3, lp1, lr1, [], .int 0, .int 2, .int 5, .int 0, .int 2, .int 5, rfl, D1, .int 0, .int 2, .int 5, by decide, fun bad => ?_, fun d e1 e2 e3 g H3 f3 D3 => ?_⟩
    · have := good_owes g3
      rw [this] at bad
      cases bad
    obtain rfl : d = (0, 2, 5) := by
      obtain ⟨d1', d2', d3'⟩ := d
      cases e1
      cases e2
      cases e3
      rfl
    have s3 : Same H1 H3 := fr_new s2 f3 fun x hx => by
      rcases List.mem_cons.mp hx with y | y
      · rw [y]
        exact nlp1
      · rw [List.mem_singleton.mp y]
        exact nlr1
    have a1 : lr0 ≠ lp1 := ne_of_none D0.rs nlp1
    have a2 : lr0 ≠ lr1 := ne_of_none D0.rs nlr1
    have a3 : lp0 ≠ lp1 := by
      obtain ⟨ps, ep, _⟩ := D0.prs
      exact ne_of_none ep nlp1
    have a4 : lp0 ≠ lr1 := by
      obtain ⟨ps, ep, _⟩ := D0.prs
      exact ne_of_none ep nlr1
    have D0 := D0.same s3
    have D0a := D0
    have D3a := D3
    refine ⟨lb rfl, fun R hR => ?_⟩
    have s4 := same_new (o := .lst []) hR
    have eR : (upd H3 R (.lst [])) R = some (.lst []) := upd_same
    have D0 := D0.same s4
    have D3 := D3.same s4
    generalize upd H3 R (.lst []) = H4 at s4 eR D0 D3 ⊢
    obtain ⟨dx0, hp0⟩ := D0.obj
    refine ⟨_, rfl, x0, dx0, _, rfl, hp0, dayF_clear, x0, n, lp0, lr0, [], rfl, D0, by decide, fun H5 td ws5 g5 f5 td0 etd tw5 bc5 g50 D5 => ?_⟩
    have w5 : ws5 = [] := by
      have := Paired.length tw5
      exact List.length_eq_zero_iff.mp this
    subst w5
    have D5 : DayAt K C H5 x0 n lp0 lr0 [] := D5
    refine ⟨lb rfl, fun e he => ⟨szn (by show 2 ≤ 100000; decide), fun tp htp => ⟨szn (by show 1 ≤ 100000; decide), fun L hL => ?_⟩⟩⟩
    have s6 := same_new (o := .lst []) he
    have ee : (upd H5 e (.lst [])) e = some (.lst []) := upd_same
    generalize upd H5 e (.lst []) = H6 at s6 ee htp hL ⊢
    have s7 := same_new (o := .tup [.ref td, .ref e]) htp
    have etp : SqT K (upd H6 tp (.tup [.ref td, .ref e])) tp [.ref td, .ref e] := SqT.of upd_same
    generalize upd H6 tp (.tup [.ref td, .ref e]) = H7 at s7 etp hL ⊢
    have s8 := same_new (o := .lst [.ref tp]) hL
    have eL : (upd H7 L (.lst [.ref tp])) L = some (.lst [.ref tp]) := upd_same
    generalize upd H7 L (.lst [.ref tp]) = H8 at s8 eL ⊢
    obtain ⟨ps0, ep0, tp0⟩ := D0.prs
    have er0 := D0.rs
    have lR0 : lp0 ≠ R ∧ lr0 ≠ R ∧ lp1 ≠ R ∧ lr1 ≠ R := by
      have h3 : ∀ {x : Addr} {vs : List V}, H3 x = some (.lst vs) → x ≠ R := fun h => ne_of_none h hR
      obtain ⟨_, q1, _⟩ := D3a.prs
      obtain ⟨_, q2, _⟩ := D0a.prs
      exact ⟨h3 q2, h3 D0a.rs, h3 q1, h3 D3a.rs⟩
    have one : ∀ {x y : Addr}, x ≠ y → x ∉ [y] := fun {x y} n z => n (List.mem_singleton.mp z)
    have s04 : Same H0 H4 := s1.trans (s3.trans s4)
    have s05 : Same H0 H5 := fr_new s04 f5 fun x hx => by rw [List.mem_singleton.mp hx]; exact nlr0
    have eR5 : H5 R = some (.lst []) := f5 _ _ eR (one lR0.2.1.symm)
    have D35 : DayAt K C H5 x1 3 lp1 lr1 [(0, 2, 5)] := D3.fr f5 (fun l hl => by rw [List.mem_singleton.mp hl]; exact ⟨_, er0⟩) (one a1.symm) (one a2.symm)
    have s58 := s6.trans (s7.trans s8)
    have s08 := s05.trans s58
    have D8 := D5.same s58
    have D38 := D35.same s58
    have eR8 := s58 _ _ eR5
    have etd8 := s58 _ _ etd
    have ee8 := (s7.trans s8) _ _ ee
    have etp8 := s8.tup etp
    obtain ⟨ps5, ep5, _⟩ := D5.prs
    have er5 := D5.rs
    have L0 : ∀ {x : Addr} {vs : List V}, H5 x = some (.lst vs) → x ≠ L := fun h => ne_of_none ((s6.trans s7) _ _ h) hL
    have E0 : ∀ {x : Addr} {vs : List V}, H5 x = some (.lst vs) → x ≠ e := fun h => ne_of_none h he
    have td_ne : td ≠ lp0 ∧ td ≠ lr0 ∧ td ≠ R ∧ td ≠ L := ⟨(ne_of_none ep0 td0).symm, (ne_of_none er0 td0).symm, (ne_of_none eR td0).symm, L0 etd⟩
    have e_ne : e ≠ lp0 ∧ e ≠ lr0 ∧ e ≠ R ∧ e ≠ L := ⟨(E0 ep5).symm, (E0 er5).symm, (E0 eR5).symm, ne_of_none (s7 _ _ ee) hL⟩
    have out : ∀ {x : Addr}, x ≠ lp0 → x ≠ lr0 → x ≠ R → x ≠ L → x ∉ [lp0, lr0, R, L] := fun h1 h2 h3 h4 z => by
      simp only [List.mem_cons, List.not_mem_nil, or_false] at z
      rcases z with z | z | z | z
      · exact h1 z
      · exact h2 z
      · exact h3 z
      · exact h4 z
    obtain ⟨ps8, ep8, _⟩ := D8.prs
    have lists : ∀ l ∈ [lp0, lr0, R, L], ∃ vs, H8 l = some (.lst vs) := fun l hl => by
      simp only [List.mem_cons, List.not_mem_nil, or_false] at hl
      rcases hl with rfl | rfl | rfl | rfl
      · exact ⟨_, ep8⟩
      · exact ⟨_, D8.rs⟩
      · exact ⟨_, eR8⟩
      · exact ⟨_, eL⟩
    have nR0 : H0 R = none := (s1.trans s3).free hR
    have nL0 : H0 L = none := (s05.trans (s6.trans s7)).free hL
    have sF0 : Same H0 (imm [lp0, lr0, R, L] H8) := fun x o ex => by
      rw [imm_out (out (ne_of_none ex nlp0) (ne_of_none ex nlr0) (ne_of_none ex nR0) (ne_of_none ex nL0))]
      exact s08 _ _ ex
    obtain ⟨_, ep35, _⟩ := D35.prs
    have DF : DayAt K C (imm [lp0, lr0, R, L] H8) x1 3 lp1 lr1 [(0, 2, 5)] := D38.fr imm_fr lists (out a3.symm a1.symm lR0.2.2.1 (L0 ep35)) (out a4.symm a2.symm lR0.2.2.2 (L0 D35.rs))
    have J0 : One K C (imm [lp0, lr0, R, L] H8) H8 x0 R n lp0 lr0 [] [] L [tp] := by
      have mL : L ∈ [lp0, lr0, R, L] := by simp
      have Rlr := lR0.2.1
      have Rlp := lR0.1
      have Llp := L0 ep5
      have Llr := L0 er5
      have LR := L0 eR5
      refine ⟨⟨imm_same, imm_in mL, eL, fun h hh => ?_⟩, ⟨D8, ⟨eR8, rfl, fun j r z => by cases z⟩, ?_⟩, fun z => ?_, fun x hx => imm_in ?_⟩
      · rw [List.mem_singleton.mp hh]
        refine ⟨td, e, .list (([] : List (Nat × Int)).map encP), fr_tup imm_fr lists etp8, .lst (SqL.of ?_) .nil, .lst (SqL.of ?_) .nil, sh_td []⟩
        · rw [imm_out (out td_ne.1 td_ne.2.1 td_ne.2.2.1 td_ne.2.2.2)]
          exact etd8
        · rw [imm_out (out e_ne.1 e_ne.2.1 e_ne.2.2.1 e_ne.2.2.2)]
          exact ee8
      · simp only [foot, List.nodup_cons, List.mem_cons, List.not_mem_nil, or_false, not_or, not_false_eq_true, List.nodup_nil, and_true]
        exact ⟨⟨D8.ne, Rlp⟩, Rlr⟩
      · simp only [foot, List.mem_cons, List.not_mem_nil, or_false] at z
        rcases z with z | z | z
        · exact Llp z.symm
        · exact Llr z.symm
        · exact LR z.symm
      · simp only [foot, List.mem_cons, List.not_mem_nil, or_false] at hx
        rcases hx with rfl | rfl | rfl <;> simp
    have hS0 := sF0.seq hS
    generalize imm [lp0, lr0, R, L] H8 = F0 at hS0 DF J0
    clear sF0 lists out e_ne td_ne E0 L0 s08 s58 s05 s04 lR0 a1 a2 a3 a4 D35 D38 D8 D5 etp8 ee8 etd8 eR8 eR5 eL s8 etp s7 ee s6 etd tw5 bc5 g50 f5 td0 hp0 D3 D0 eR s4 hR s3 g e1 e2 e3 f3 D1 hp1 nlp1 nlr1 s2 hx1 hd1 nlp0 nlr0 s1 hx0 hd0 hS he htp hL nR0 nL0
    clear D0 D0a D3a D3 D5 ep0 tp0 er0 ep5 er5 ep8 ep35
    -- debts ahead
    refine ⟨szn (by show 2 ≤ 100000; decide), fun l hl => ?_⟩
    have sl := same_new (o := .lst [.int 0, .int 36]) hl
    have J1 := J0.later sl
    have el : (upd H8 l (.lst [.int 0, .int 36])) l = some (.lst [.int 0, .int 36]) := upd_same
    generalize upd H8 l (.lst [.int 0, .int 36]) = H9 at J1 el ⊢
    refine ⟨_, rfl, a, ns, 0, rfl, J1.hl.same.seq hS0, by decide, _, _, rfl, rfl, ⟨by decide, by decide⟩, _, _, rfl, rfl, by show (0 : Int) < 16; decide, rfl, .inr ⟨_, rfl, ?_⟩⟩
    generalize decide (V.int (cell ns 0 / 5 % 16) = V.int 2) = kb
    obtain ⟨m, m0, mM, hm⟩ : ∃ m : Int, 0 ≤ m ∧ m ≤ 36 ∧ atI [V.int 0, .int 36] (if kb = true then 1 else 0) = some (.int m) := by
      cases kb with
      | false => exact ⟨0, by decide, by decide, rfl⟩
      | true => exact ⟨36, by decide, by decide, rfl⟩
    refine ⟨l, _, _, .int m, rfl, rfl, SqL.of el, hm, m, rfl, by omega, by omega, for_range (lo := 0) (n := m.toNat) (fun i σ H => ∃ (rs : List Addr) (ds : List Debt) (y6 y7 : Option V), σ = [some (.ref a), some (.int n), some (.ref x0), some (.ref x1), some (.ref R), some (.ref L), y6, y7, none, none, none, none] ∧ One K C F0 H x0 R n lp0 lr0 rs ds L [tp] ∧ ds.length ≤ i) ⟨[], [], _, _, rfl, J1, Nat.le_refl _⟩ ?_ ?_⟩
    · clear J1 el J0 sl hm
      rintro i σ H1 hi ⟨rs, ds, y6, y7, rfl, J, hd⟩
      have hi : i < 36 := by omega
      have k9 := emod_b (x := 0 + (i : Int)) (n := 9) (by decide)
      refine ⟨_, rfl, a, ns, 1, rfl, J.hl.same.seq hS0, by decide, _, rfl, _, _, rfl, rfl, by show (0 : Int) < 9; decide, _, _, rfl, rfl, _, _, rfl, rfl, ⟨by show 0 < 1 + (0 + (i : Int)) % 9; omega, by show 1 + (0 + (i : Int)) % 9 < 1073741824; omega⟩, _, rfl, _, _, rfl, rfl, _, rfl, _, rfl, _, _, n, rfl, by omega, by omega, n2, nM, fun d u gd hu => ?_⟩
      have su := same_new (o := .tup (tV d)) hu
      have J2 := J.later su
      have hU : SqT K (upd H1 u (.tup (tV d))) u (tV d) := SqT.of upd_same
      generalize upd H1 u (.tup (tV d)) = H2 at J2 hU ⊢
      obtain ⟨dx, hp⟩ := J2.s0.day.obj
      have rl := J2.s0.rows.len
      refine ⟨_, rfl, x0, dx, _, rfl, hp, dayF_owe, _, rfl, u, _, 0, _, rfl, rfl, hU, rfl, _, rfl, u, _, 1, _, rfl, rfl, hU, rfl, _, rfl, u, _, 2, _, rfl, rfl, hU, rfl, x0, n, lp0, lr0, ds, .int d.1, .int d.2.1, .int d.2.2, .int d.1, .int d.2.1, .int d.2.2, rfl, J2.s0.day, .int _, .int _, .int _, by omega, fun bad => ?_, fun d' e1 e2 e3 _ H3 f3 D3 => ?_⟩
      · rw [good_owes gd] at bad
        cases bad
      obtain rfl : d' = d := by
        obtain ⟨p1, p2, p3⟩ := d
        obtain ⟨q1, q2, q3⟩ := d'
        cases e1
        cases e2
        cases e3
        rfl
      have l3 : ∀ l ∈ [lp0, lr0], ∃ vs, H2 l = some (.lst vs) := fun l hl => J2.s0.lists l (by
        rcases List.mem_cons.mp hl with y | y
        · rw [y]
          exact List.mem_cons_self
        · rw [List.mem_singleton.mp y]
          exact List.mem_cons_of_mem _ List.mem_cons_self)
      have hU3 := fr_tup f3 l3 hU
      have R3 := J2.s0.rows.fr f3 (fun z => by
        rcases List.mem_cons.mp z with y | y
        · exact J2.s0.inj.2.1 y.symm
        · exact J2.s0.inj.2.2.1 (List.mem_singleton.mp y).symm) fun r hr z => by
        rcases List.mem_cons.mp z with y | y
        · exact (J2.s0.inj.2.2.2.1 r hr).1 y
        · exact (J2.s0.inj.2.2.2.1 r hr).2.1 (List.mem_singleton.mp y)
      refine ⟨_, rfl, .inl ⟨rfl, _, SqL.of R3.top⟩, _, rfl, u, _, 0, _, rfl, rfl, hU3, rfl, _, rfl, u, _, 1, _, rfl, rfl, hU3, rfl, _, rfl, u, _, 2, _, rfl, rfl, hU3, rfl, szn (by show 3 ≤ 100000; decide), fun r hr => ?_⟩
      obtain ⟨S4, f4, r0⟩ := J2.s0.more f3 D3 hr
      have sr := same_new (o := .lst [.int d'.1, .int d'.2.1, .int d'.2.2]) hr
      refine ⟨R, _, _, rfl, rfl, sr _ _ R3.top, szl (by rw [List.length_map]; omega), ?_⟩
      refine ⟨rs ++ [r], ds ++ [d'], _, _, rfl, J2.deed f4 S4 (fun x hx => ?_), by rw [List.length_append]; exact Nat.succ_le_succ hd⟩
      rcases List.mem_append.mp hx with y | y
      · exact .inl y
      · rw [List.mem_singleton.mp y]
        exact .inr r0
    clear J1 el J0 sl hm hl H9
    rintro σ H1 ⟨rs, ds, y6, y7, rfl, J0, hdm⟩
    have hd0 : ds.length ≤ 36 := by omega
    clear hdm
    -- the deeds
    obtain ⟨mm, hmm, mm1⟩ : ∃ mm : Int, (if (25 : Int) < (((ns.map V.int).length : Nat) : Int) then (25 : Int) else (((ns.map V.int).length : Nat) : Int)) = mm ∧ 0 ≤ mm ∧ mm ≤ 25 ∧ mm ≤ (ns.length : Int) := by
      rw [List.length_map]
      refine ⟨_, rfl, ?_⟩
      split <;> omega
    obtain ⟨mm25, mmn⟩ := mm1.2
    have mm1 := mm1.1
    refine ⟨_, rfl, a, _, rfl, .inl (J0.hl.same.seq hS0), _, _, rfl, 1, mm, by rw [hmm], ⟨by omega, by omega, by omega, by omega⟩, for_range (lo := 1) (n := (mm - 1).toNat) (fun i σ H => ∃ (F : Hp) (rs hs : List Addr) (ds : List Debt) (y6 y7 y8 y9 y10 : Option V), σ = [some (.ref a), some (.int n), some (.ref x0), some (.ref x1), some (.ref R), some (.ref L), y6, y7, y8, y9, y10, none] ∧ Same F0 F ∧
        One K C F H x0 R n lp0 lr0 rs ds L hs ∧ ds.length ≤ 36 + i ∧ hs.length ≤ 1 + 2 * i) ⟨F0, rs, [tp], ds, _, _, _, _, _, rfl, Same.refl F0, J0, hd0, Nat.le_refl _⟩ ?_ ?_⟩
    · clear J0 hd0 hmm rs ds
      rintro i σ H1 hi ⟨F, rs, hs, ds, y6, y7, y8, y9, y10, rfl, sF, J, hd, hh⟩
      have hi1 : 1 + (i : Int) < (ns.length : Int) := by omega
      have hi24 : i < 24 := by omega
      have ea : atI (ns.map V.int) (1 + (i : Int)) = some (.int (ns.getD (1 + (i : Int)).toNat 0)) := at_int (by omega) hi1
      refine ⟨_, rfl, _, rfl, a, _, _, _, rfl, rfl, (sF.trans J.hl.same).seq hS0, ea, ?_⟩
      generalize ns.getD (1 + (i : Int)).toNat 0 = c
      refine ⟨fun σ' H' => ∃ (F' : Hp) (hs' : List Addr) (y10 : Option V), σ' = [some (.ref a), some (.int n), some (.ref x0), some (.ref x1), some (.ref R), some (.ref L), some (.int (1 + (i : Int))), y7, some (.int c), some (.bl true), y10, none] ∧ Same F0 F' ∧ One K C F' H' x0 R n lp0 lr0 rs ds L hs' ∧ hs'.length ≤ 2 + 2 * i, ?_, ?_⟩
      · refine ⟨_, rfl, _, _, rfl, rfl, ⟨by decide, by decide⟩, _, _, rfl, rfl, by show (0 : Int) < 2; decide, rfl, _, rfl, ite2 (fun _ => ?_) (fun _ => ⟨F, hs, _, rfl, sF, J, by omega⟩)⟩
        obtain ⟨dx, hp⟩ := J.s0.day.obj
        refine ⟨_, rfl, x0, dx, _, rfl, hp, dayF_standing, x0, n, lp0, lr0, ds, rfl, J.s0.day, fun H2 M us s2 nM' e2 tu => ?_⟩
        have hL2 := s2 _ _ J.hl.held
        refine ⟨_, rfl, .inl ⟨rfl, _, SqL.of hL2⟩, _, rfl, _, rfl, M, us, rfl, .inl (SqL.of e2), fun b hb => ?_⟩
        have s3 := same_new (o := .lst us) hb
        refine ⟨szn (by show 2 ≤ 100000; decide), fun t ht => ?_⟩
        have s4 := same_new (o := .tup [.ref M, .ref b]) ht
        refine ⟨L, _, _, rfl, rfl, s4 _ _ (s3 _ _ hL2), szl (by rw [List.length_map]; omega), ?_⟩
        have tu4 := (s3.trans s4).tvs tu
        obtain ⟨F', sF', J'⟩ := J.told (s2.trans (s3.trans s4)) (fun F v a h => dp_st h) (sh_st _) nM' (s4 _ _ (s3 _ _ e2)) tu4 (s2.free hb) (s4 _ _ upd_same) tu4 (SqT.of upd_same)
        exact ⟨F', _, _, rfl, sF.trans sF', J', by rw [List.length_append, List.length_singleton]; omega⟩
      clear J hh sF ea
      rintro σ' H2 ⟨F', hs', y10', rfl, sF, J, hh⟩
      refine ⟨fun σ' H' => ∃ (F2 : Hp) (rs2 hs2 : List Addr) (ds2 : List Debt) (y7 y10 : Option V), σ' = [some (.ref a), some (.int n), some (.ref x0), some (.ref x1), some (.ref R), some (.ref L), some (.int (1 + (i : Int))), y7, some (.int c), some (.bl true), y10, none] ∧ Same F0 F2 ∧ One K C F2 H' x0 R n lp0 lr0 rs2 ds2 L hs2 ∧ ds2.length ≤ 36 + (i + 1) ∧ hs2.length ≤ 1 + 2 * (i + 1), ?_, ?_⟩
      · have rl := J.s0.rows.len
        refine ⟨_, rfl, _, _, rfl, rfl, by show (0 : Int) < 5; decide, _, _, rfl, rfl, _, rfl, ite2 (fun _ => ?_) (fun _ => ?_)⟩
        · -- a debt comes
          refine ⟨_, rfl, _, _, rfl, rfl, ⟨by decide, by decide⟩, _, rfl, _, rfl, _, _, n, rfl, by omega, by omega, n2, nM, fun d u gd hu => ?_⟩
          have su := same_new (o := .tup (tV d)) hu
          have J2 := J.later su
          have hU : SqT K (upd H2 u (.tup (tV d))) u (tV d) := SqT.of upd_same
          generalize upd H2 u (.tup (tV d)) = H3 at J2 hU ⊢
          obtain ⟨dx, hp⟩ := J2.s0.day.obj
          refine ⟨_, rfl, x0, dx, _, rfl, hp, dayF_owe, _, rfl, u, _, 0, _, rfl, rfl, hU, rfl, _, rfl, u, _, 1, _, rfl, rfl, hU, rfl, _, rfl, u, _, 2, _, rfl, rfl, hU, rfl, x0, n, lp0, lr0, ds, .int d.1, .int d.2.1, .int d.2.2, .int d.1, .int d.2.1, .int d.2.2, rfl, J2.s0.day, .int _, .int _, .int _, by omega, fun bad => ?_, fun d' e1 e2 e3 _ H4 f4 D4 => ?_⟩
          · rw [good_owes gd] at bad
            cases bad
          obtain rfl : d' = d := by
            obtain ⟨p1, p2, p3⟩ := d
            obtain ⟨q1, q2, q3⟩ := d'
            cases e1
            cases e2
            cases e3
            rfl
          have l3 : ∀ l ∈ [lp0, lr0], ∃ vs, H3 l = some (.lst vs) := fun l hl => J2.s0.lists l (by
            rcases List.mem_cons.mp hl with y | y
            · rw [y]
              exact List.mem_cons_self
            · rw [List.mem_singleton.mp y]
              exact List.mem_cons_of_mem _ List.mem_cons_self)
          have hU3 := fr_tup f4 l3 hU
          have R3 := J2.s0.rows.fr f4 (fun z => by
            rcases List.mem_cons.mp z with y | y
            · exact J2.s0.inj.2.1 y.symm
            · exact J2.s0.inj.2.2.1 (List.mem_singleton.mp y).symm) fun r hr z => by
            rcases List.mem_cons.mp z with y | y
            · exact (J2.s0.inj.2.2.2.1 r hr).1 y
            · exact (J2.s0.inj.2.2.2.1 r hr).2.1 (List.mem_singleton.mp y)
          refine ⟨_, rfl, R, _, rfl, .inl (SqL.of R3.top), rfl, ?_⟩
          rw [List.length_map, rl, decide_eq_true rfl]
          refine ⟨_, rfl, .inl ⟨rfl, _, SqL.of R3.top⟩, _, rfl, u, _, 0, _, rfl, rfl, hU3, rfl, _, rfl, u, _, 1, _, rfl, rfl, hU3, rfl, _, rfl, u, _, 2, _, rfl, rfl, hU3, rfl, szn (by show 3 ≤ 100000; decide), fun r hr => ?_⟩
          obtain ⟨S4, f4', r0⟩ := J2.s0.more f4 D4 hr
          have sr := same_new (o := .lst [.int d'.1, .int d'.2.1, .int d'.2.2]) hr
          refine ⟨R, _, _, rfl, rfl, sr _ _ R3.top, szl (by rw [List.length_map]; omega), ?_⟩
          refine ⟨F', rs ++ [r], hs', ds ++ [d'], _, _, rfl, sF, J2.deed f4' S4 (fun x hx => ?_), by rw [List.length_append, List.length_singleton]; omega, by omega⟩
          rcases List.mem_append.mp hx with y | y
          · exact .inl y
          · rw [List.mem_singleton.mp y]
            exact .inr r0
        have clr : tAsg (tCall (spCleared K C) [] E0 (tCons (tVar 2) (tCons (tVar 4) (tCons (tVar 1) (tCons (tVar 5) (tCons (tOp (rI CDiv fun i j => V.int (i / j)) (tVar 8) (tC (V.int 5))) tNil)))))) (gName 9) { nx := fun σ' H' => ∃ (F2 : Hp) (rs2 hs2 : List Addr) (ds2 : List Debt) (y7 y10 : Option V), σ' = [some (.ref a), some (.int n), some (.ref x0), some (.ref x1), some (.ref R), some (.ref L), some (.int (1 + (i : Int))), y7, some (.int c), some (.bl true), y10, none] ∧ Same F0 F2 ∧ One K C F2 H' x0 R n lp0 lr0 rs2 ds2 L hs2 ∧ ds2.length ≤ 36 + (i + 1) ∧ hs2.length ≤ 1 + 2 * (i + 1), rt := Q } [some (.ref a), some (.int n), some (.ref x0), some (.ref x1), some (.ref R), some (.ref L), some (.int (1 + (i : Int))), y7, some (.int c), some (.bl true), y10', none] H2 := by
          refine ⟨_, rfl, _, rfl, _, rfl, _, rfl, _, rfl, _, _, rfl, rfl, ⟨by decide, by decide⟩, x0, R, L, n, _, lp0, lr0, rs, hs', ds, F', rfl, J, by omega, by omega, fun F2 H3 ds2 hs2 FF Fn f3 J3 l3 l4 => ?_⟩
          exact ⟨F2, rs, hs2, ds2, _, _, rfl, sF.trans FF, J3, by omega, by omega⟩
        refine ⟨_, rfl, _, _, rfl, rfl, by show (0 : Int) < 5; decide, rfl, _, rfl, ite2 (fun _ => ?_) (fun _ => iteF clr)⟩
        refine ⟨_, rfl, R, _, rfl, .inl (SqL.of J.s0.rows.top), _, _, rfl, rfl, _, rfl, ite2 (fun z => ?_) (fun _ => clr)⟩
        have z : (0 : Int) < ((rs.map V.ref).length : Int) := of_decide_eq_true z
        rw [List.length_map, rl] at z
        refine ⟨_, rfl, _, rfl, _, rfl, _, _, rfl, rfl, ⟨by decide, by decide⟩, x0, R, n, _, lp0, lr0, rs, ds, rfl, J.s0, by omega, fun H3 ds2 f3 S3 l3 => ?_⟩
        exact ⟨F', rs, hs', ds2, _, _, rfl, sF, J.deed f3 S3 (fun x hx => .inl hx), by omega, by omega⟩
      clear J hh sF hd
      rintro σ' H3 ⟨F2, rs2, hs2, ds2, y7', y10'', rfl, sF, J, hd, hh⟩
      refine ⟨_, rfl, _, rfl, ite2 (fun z => by cases z) (fun _ => ?_)⟩
      refine ⟨_, rfl, _, rfl, _, rfl, _, rfl, _, _, rfl, rfl, ⟨by decide, by decide⟩, x0, R, n, _, lp0, lr0, rs2, ds2, rfl, J.s0, fun H4 s4 => ⟨_, rfl, ite2 (fun z => by cases z) (fun _ => ?_)⟩⟩
      exact ⟨F2, rs2, hs2, ds2, _, _, _, _, _, rfl, sF, J.later s4, hd, hh⟩
    clear J0 hd0 hmm rs ds
    rintro σ H1 ⟨F, rs, hs, ds, y6, y7, y8, y9, y10, rfl, sF, J, hd, hh⟩
    have hd : ds.length ≤ 60 := by omega
    have hh : hs.length ≤ 49 := by omega
    refine ⟨fun σ' H' => ∃ (F' : Hp) (hs' : List Addr), σ' = [some (.ref a), some (.int n), some (.ref x0), some (.ref x1), some (.ref R), some (.ref L), y6, y7, y8, y9, y10, none] ∧ Same F0 F' ∧ One K C F' H' x0 R n lp0 lr0 rs ds L hs' ∧ hs'.length ≤ 60, ?_, ?_⟩
    · refine ⟨_, rfl, a, ns, 0, rfl, (sF.trans J.hl.same).seq hS0, by decide, _, _, rfl, rfl, by show (0 : Int) < 13; decide, rfl, _, rfl, ite2 (fun _ => ?_) (fun _ => iteF ⟨F, hs, rfl, sF, J, by omega⟩)⟩
      refine fun x2 d2 hx2 hd2 ne2 => ⟨x2, d2, .int 1, .int 1, rfl, upd_same, .int 1, fun bad => ?_, fun m' em good H2 lp2 lr2 f2 hlp2 hlr2 D2 => ⟨rfl, ?_⟩⟩
      · cases bad
      cases em
      have sx2 : Same H1 (upd (upd H1 d2 (.own x2)) x2 (.ins C d2 [])) := (same_new hd2).trans (same_new (by rw [upd_ne ne2.symm]; exact hx2))
      have s2 : Same H1 H2 := fr_fresh sx2 f2 hx2
      have nlp2 := sx2.free hlp2
      have nlr2 := sx2.free hlr2
      clear sx2 f2 hlp2 hlr2
      refine ⟨lb rfl, fun R2 hR2 => ?_⟩
      have nR2 := s2.free hR2
      have lpR2 : lp2 ≠ R2 := by
        obtain ⟨_, ep, _⟩ := D2.prs
        exact ne_of_none ep hR2
      have lrR2 : lr2 ≠ R2 := ne_of_none D2.rs hR2
      have s3 := same_new (o := .lst []) hR2
      have eR2 : (upd H2 R2 (.lst [])) R2 = some (.lst []) := upd_same
      generalize upd H2 R2 (.lst []) = H3 at s3 eR2 ⊢
      have J3 := J.later (s2.trans s3)
      have none2 : ∀ x ∈ foot lp2 lr2 R2 [], H1 x = none := fun x hx => by
        simp only [foot, List.mem_cons, List.not_mem_nil, or_false] at hx
        rcases hx with rfl | rfl | rfl
        · exact nlp2
        · exact nlr2
        · exact nR2
      have J2 : One K C F H3 x2 R2 1 lp2 lr2 [] [] L hs := by
        refine ⟨J3.hl, ⟨D2.same s3, ⟨eR2, rfl, fun j r z => by cases z⟩, ?_⟩, fun z => ?_, fun x hx => J.hl.same.free (none2 x hx)⟩
        · simp only [foot, List.nodup_cons, List.mem_cons, List.not_mem_nil, or_false, not_or, not_false_eq_true, List.nodup_nil, and_true]
          exact ⟨⟨D2.ne, lpR2⟩, lrR2⟩
        · have := none2 L z
          rw [J.hl.held] at this
          cases this
      refine ⟨_, rfl, x2, R2, L, 1, 0, lp2, lr2, [], hs, [], F, rfl, J2, by decide, by omega, fun F' H4 ds4 hs4 FF Fn f4 J4 l4 l5 => ⟨_, rfl, ite2 (fun z => by cases z) (fun _ => ?_)⟩⟩
      refine ⟨F', hs4, rfl, sF.trans FF, ⟨J4.hl, J3.s0.fr f4 (fun x hx => ?_) (fun x hx z => ?_), J.h0, fun x hx => ?_⟩, by omega⟩
      · rcases List.mem_cons.mp hx with y | y
        · rw [y]
          exact ⟨_, J3.hl.held⟩
        · exact J2.s0.lists x y
      · rcases List.mem_cons.mp z with y | y
        · rw [y] at hx
          exact J.h0 hx
        · obtain ⟨vs, ex⟩ := J.s0.lists x hx
          rw [none2 x y] at ex
          cases ex
      · obtain ⟨vs, ex⟩ := J3.s0.lists x hx
        exact Fn x vs ex (J.f0 x hx)
    clear J hh sF
    rintro σ' H2 ⟨F', hs', rfl, sF, J, hh⟩
    refine ⟨_, rfl, _, rfl, _, rfl, _, rfl, x0, R, L, n, 0, lp0, lr0, rs, hs', ds, F', rfl, J, hd, by omega, fun F2 H3 ds3 hs3 FF Fn f3 J3 l3 l4 => ⟨_, rfl, ite2 (fun z => by cases z) (fun _ => ?_)⟩⟩
    have DO := DF.same ((sF.trans FF).trans J3.hl.same)
    obtain ⟨dx, hp⟩ := DO.obj
    refine ⟨_, rfl, x1, dx, _, rfl, hp, dayF_standing, x1, 3, lp1, lr1, [(0, 2, 5)], rfl, DO, fun H4 M us s4 nM' e4 tu => ?_⟩
    refine ⟨szn (by show 4 ≤ 100000; decide), fun t ht => ⟨szn (by show 1 ≤ 100000; decide), fun l hl => ?_⟩⟩
    have es : standL [((0 : Int), (2 : Int), (5 : Int))] = [(0, (0, 2, 5))] := by decide
    have s5 := same_new (o := .tup [.int 0, .int 0, .int 2, .int 5]) ht
    have s6 := same_new (o := .lst [.ref t]) hl
    have s46 := s5.trans s6
    have dM : Dp K (upd (upd H4 t (.tup [.int 0, .int 0, .int 2, .int 5])) l (.lst [.ref t])) (.ref M) (.list ((standL [((0 : Int), (2 : Int), (5 : Int))]).map encS)) := .lst (SqL.of (s46 _ _ e4)) (s46.dpA (dpA_st tu))
    have dl : Dp K (upd (upd H4 t (.tup [.int 0, .int 0, .int 2, .int 5])) l (.lst [.ref t])) (.ref l) (.list ((standL [((0 : Int), (2 : Int), (5 : Int))]).map encS)) := by
      rw [es]
      exact .lst (SqL.of upd_same) (dpA_st (qs := [(0, (0, 2, 5))]) (.cons ⟨t, rfl, SqT.of (s6 _ _ upd_same)⟩ .nil))
    have sh := sh_st (standL [((0 : Int), (2 : Int), (5 : Int))])
    generalize upd (upd H4 t (.tup [.int 0, .int 0, .int 2, .int 5])) l (.lst [.ref t]) = H5 at s46 dM dl ⊢
    refine ⟨_, _, dM, dl, sh.shaped (by decide), sh.shaped (by decide), _, rfl, ite2 (fun z => by rw [eqv_self sh] at z; cases z) (fun _ => ?_)⟩
    have J5 := J3.hl.later (s4.trans s46)
    refine ⟨_, rfl, L, rfl, ⟨_, SqL.of J5.held⟩, fun M hM => lc_list (xs := hs3.map V.ref) (fun i H4 => Same H5 H4 ∧ H4 M = some (.lst [])) ⟨same_new hM, upd_same⟩ ?_ ?_ ?_⟩
    · rintro i H4 _ ⟨s4, _⟩
      exact SqL.of (s4 _ _ J5.held)
    · rintro i x H4 hx ⟨s4, e4⟩
      obtain ⟨h, hh, rfl⟩ := List.mem_map.mp (List.mem_of_getElem? hx)
      obtain ⟨u, u', d, tt, d1, d2, sh⟩ := (J5.ok h hh).same (J5.same.trans s4)
      refine ⟨rfl, _, rfl, h, _, 0, _, rfl, rfl, tt, rfl, _, rfl, h, _, 1, _, rfl, rfl, tt, rfl, _, _, d1, d2, sh.shaped (by decide), sh.shaped (by decide), _, rfl, ite2 (fun z => by rw [eqv_self sh] at z; cases z) (fun _ => ⟨s4, e4⟩)⟩
    · rintro H4 ⟨s4, e4⟩
      refine ⟨lb rfl, fun N hN => ?_⟩
      have dM : Dp K (upd H4 N (.lst [])) (.ref M) (.list (([] : List Int).map PyData.int)) := .lst (SqL.of (same_new hN _ _ e4)) .nil
      have dN : Dp K (upd H4 N (.lst [])) (.ref N) (.list (([] : List Int).map PyData.int)) := .lst (SqL.of upd_same) .nil
      refine ⟨_, _, dM, dN, (sh_ints []).shaped (by decide), (sh_ints []).shaped (by decide), ?_⟩
      rw [eqv_self (sh_ints [])]
      exact q _

end
theorem all_ok {P : Program} {w : World} {K : PySem.W.Frag} {mg : Str → Option Value} {base : Heap}
    {C C0 C1 C6 C7 C8 : Addr}
    {t_MOST_AMOUNT t_MOST_HOUSES : Tok}
    (B : Blt mg)
    (g_MOST_AMOUNT : mg "MOST_AMOUNT" = some (.int 1000000000 t_MOST_AMOUNT))
    (g_MOST_HOUSES : mg "MOST_HOUSES" = some (.int 20 t_MOST_HOUSES))
    (x_BadAmount : ExcOf K mg "BadAmount" C8)
    (x_BadCount : ExcOf K mg "BadCount" C0)
    (x_BadDebt : ExcOf K mg "BadDebt" C1)
    (x_NoDebt : ExcOf K mg "NoDebt" C6)
    (x_NoHouse : ExcOf K mg "NoHouse" C7)
    (g_BadAmount : mg "BadAmount" = some (.ref C8))
    (cs8 : CatchF K C8 C8)
    (T : DayC K mg C)
    (D_L_cell_at : DefAt K mg "_law_cell_at" s_L_cell_at)
    (D_L_whole : DefAt K mg "_law_whole" s_L_whole)
    (D_is_whole : DefAt K mg "is_whole" s_is_whole)
    (D_is_number : DefAt K mg "is_number" s_is_number)
    (D_is_debt : DefAt K mg "is_debt" s_is_debt)
    (D_check_count : DefAt K mg "check_count" s_check_count)
    (D_balances : DefAt K mg "balances" s_balances)
    (D_circle : DefAt K mg "circle" s_circle)
    (D_moves : DefAt K mg "moves" s_moves)
    (D_climb : DefAt K mg "climb" s_climb)
    (D_changed : DefAt K mg "changed" s_changed)
    (D_best : DefAt K mg "best" s_best)
    (D_Day___init__ : IDef K C "Day.__init__" s_Day___init__)
    (D_Day_standing : MDef K C "standing" "Day.standing" s_Day_standing)
    (D_Day_rest : MDef K C "rest" "Day.rest" s_Day_rest)
    (D_Day_balance : MDef K C "balance" "Day.balance" s_Day_balance)
    (D_Day_owe : MDef K C "owe" "Day.owe" s_Day_owe)
    (D_Day_pay : MDef K C "pay" "Day.pay" s_Day_pay)
    (D_Day_clear : MDef K C "clear" "Day.clear" s_Day_clear)
    (D_L_debt : DefAt K mg "_law_debt" s_L_debt)
    (D_L_settles : DefAt K mg "_law_settles" s_L_settles)
    (D_L_sums : DefAt K mg "_law_sums" s_L_sums)
    (D_L_ringless : DefAt K mg "_law_ringless" s_L_ringless)
    (D_L_told : DefAt K mg "_law_told" s_L_told)
    (D_L_stands : DefAt K mg "_law_stands" s_L_stands)
    (D_L_cut_of : DefAt K mg "_law_cut_of" s_L_cut_of)
    (D_L_paid : DefAt K mg "_law_paid" s_L_paid)
    (D_L_cleared : DefAt K mg "_law_cleared" s_L_cleared)
    (D_law : DefAt K mg "law" s_law)
    : Cal P w K mg base CX0 7 "law" ["_law_script"] (spLaw K) := by
  have c_L_cell_at := ok_L_cell_at (P := P) (w := w) (base := base) D_L_cell_at B
  have c_L_whole := ok_L_whole (P := P) (w := w) (base := base) D_L_whole B
  have c_is_whole := ok_is_whole (P := P) (w := w) (base := base) D_is_whole B
  have c_is_number := ok_is_number (P := P) (w := w) (base := base) D_is_number c_is_whole
  have c_is_debt := ok_is_debt (P := P) (w := w) (base := base) D_is_debt B g_MOST_AMOUNT c_is_number
  have c_check_count := ok_check_count (P := P) (w := w) (base := base) D_check_count g_MOST_HOUSES x_BadCount c_is_number
  have c_balances := ok_balances (P := P) (w := w) (base := base) D_balances
  have c_circle := ok_circle (P := P) (w := w) (base := base) D_circle B
  have c_moves := ok_moves (P := P) (w := w) (base := base) D_moves B
  have c_climb := ok_climb (P := P) (w := w) (base := base) D_climb B c_circle
  have c_changed := ok_changed (P := P) (w := w) (base := base) D_changed B
  have c_best := ok_best (P := P) (w := w) (base := base) D_best B c_moves c_climb c_changed
  have c_Day := ok_Day___init__ (P := P) (w := w) (base := base) D_Day___init__ T c_check_count
  have c_Day_standing := ok_Day_standing (P := P) (w := w) (base := base) D_Day_standing B T
  have c_Day_rest := ok_Day_rest (P := P) (w := w) (base := base) D_Day_rest B T x_NoDebt c_is_number
  have c_Day_balance := ok_Day_balance (P := P) (w := w) (base := base) D_Day_balance T x_NoHouse c_is_number c_balances c_Day_standing
  have c_Day_owe := ok_Day_owe (P := P) (w := w) (base := base) D_Day_owe B T x_BadDebt c_is_debt
  have c_Day_pay := ok_Day_pay (P := P) (w := w) (base := base) D_Day_pay T x_BadAmount c_is_number c_Day_rest
  have c_Day_clear := ok_Day_clear (P := P) (w := w) (base := base) D_Day_clear B T c_best c_Day_standing
  have c_L_debt := ok_L_debt (P := P) (w := w) (base := base) D_L_debt
  have c_L_settles := ok_L_settles (P := P) (w := w) (base := base) D_L_settles B
  have c_L_sums := ok_L_sums (P := P) (w := w) (base := base) D_L_sums B
  have c_L_ringless := ok_L_ringless (P := P) (w := w) (base := base) D_L_ringless B
  have c_L_told := ok_L_told (P := P) (w := w) (base := base) D_L_told B T c_L_whole c_L_sums c_Day_rest c_Day_balance c_Day_standing
  have c_L_stands := ok_L_stands (P := P) (w := w) (base := base) D_L_stands B c_L_told
  have c_L_cut_of := ok_L_cut_of (P := P) (w := w) (base := base) D_L_cut_of B c_L_whole
  have c_L_paid := ok_L_paid (P := P) (w := w) (base := base) D_L_paid B T g_BadAmount cs8 c_L_whole c_Day_pay
  have c_L_cleared := ok_L_cleared (P := P) (w := w) (base := base) D_L_cleared B T c_L_cut_of c_L_sums c_L_settles c_L_ringless c_L_stands c_Day_clear
  exact ok_law D_law B T c_L_cell_at c_L_debt c_Day c_Day_standing c_Day_owe c_Day_clear c_L_paid c_L_cleared c_L_stands
end Cd
open PySem PySem.W PyProof.Rows
set_option maxRecDepth 100000 in
set_option maxHeartbeats 0 in
theorem PySem.Challenge.cw_clearday_k11_whole_days_cleared_holds : PySem.Challenge.rw_clearday_k11_whole_days_cleared.Holds := by
  w_on; o_law; k_head; (case hw => w_witness2)
  k_fill
  refine L2.walk_of (l := PySem.Challenge.rw_clearday_k11_whole_days_cleared) (n := 63) (k := 7) (x := "_law_script") (CX := fun _ => L2.CX0) (sp := fun w => Cd.spLaw _) rfl (by decide) rfl ⟨rfl, by decide, by decide⟩ (fun w h Y => PySem.W.kIn_of Y) ?F (fun _ _ a ns hl _ hS => ⟨a, ns, rfl, hS, fun _ => rfl⟩) (fun _ _ _ _ _ h => h)
  case F =>
    intro w mg fa h KX G hmg
    have B : Cd.Blt mg := by
      refine' ⟨PySem.W.mg_none_of KX G ?b_len, PySem.W.mg_none_of KX G ?b_range, PySem.W.mg_none_of KX G ?b_isinstance, PySem.W.mg_none_of KX G ?b_list, PySem.W.mg_none_of KX G ?b_int, PySem.W.mg_none_of KX G ?b_bool, PySem.W.mg_none_of KX G ?b_tuple, PySem.W.mg_none_of KX G ?b_sum, PySem.W.mg_none_of KX G ?b_min, PySem.W.mg_none_of KX G ?b_max, PySem.W.mg_none_of KX G ?b_enumerate, PySem.W.mg_none_of KX G ?b_zip, PySem.W.mg_none_of KX G ?b_any, PySem.W.mg_none_of KX G ?b_all, PySem.W.mg_none_of KX G ?b_abs, PySem.W.mg_none_of KX G ?b_sorted, PySem.W.mg_none_of KX G ?b_reversed, PySem.W.mg_none_of KX G ?b_ValueError, PySem.W.mg_none_of KX G ?b_set⟩
      (case b_len => k_is)
      (case b_range => k_is)
      (case b_isinstance => k_is)
      (case b_list => k_is)
      (case b_int => k_is)
      (case b_bool => k_is)
      (case b_tuple => k_is)
      (case b_sum => k_is)
      (case b_min => k_is)
      (case b_max => k_is)
      (case b_enumerate => k_is)
      (case b_zip => k_is)
      (case b_any => k_is)
      (case b_all => k_is)
      (case b_abs => k_is)
      (case b_sorted => k_is)
      (case b_reversed => k_is)
      (case b_ValueError => k_is)
      (case b_set => k_is)
    have T := Cd.dayC_mk KX G (by k_is) (by k_is) (by k_is) (by k_is) (by k_is) (by k_is) (by k_is) (by k_is)
    have D_L_cell_at := Cd.defAt_mk (x := "_law_cell_at") (st := Cd.s_L_cell_at) KX G (by k_is) (by k_is) (by k_is) (by k_is)
    have D_L_whole := Cd.defAt_mk (x := "_law_whole") (st := Cd.s_L_whole) KX G (by k_is) (by k_is) (by k_is) (by k_is)
    have D_is_whole := Cd.defAt_mk (x := "is_whole") (st := Cd.s_is_whole) KX G (by k_is) (by k_is) (by k_is) (by k_is)
    have D_is_number := Cd.defAt_mk (x := "is_number") (st := Cd.s_is_number) KX G (by k_is) (by k_is) (by k_is) (by k_is)
    have D_is_debt := Cd.defAt_mk (x := "is_debt") (st := Cd.s_is_debt) KX G (by k_is) (by k_is) (by k_is) (by k_is)
    have D_check_count := Cd.defAt_mk (x := "check_count") (st := Cd.s_check_count) KX G (by k_is) (by k_is) (by k_is) (by k_is)
    have D_balances := Cd.defAt_mk (x := "balances") (st := Cd.s_balances) KX G (by k_is) (by k_is) (by k_is) (by k_is)
    have D_circle := Cd.defAt_mk (x := "circle") (st := Cd.s_circle) KX G (by k_is) (by k_is) (by k_is) (by k_is)
    have D_moves := Cd.defAt_mk (x := "moves") (st := Cd.s_moves) KX G (by k_is) (by k_is) (by k_is) (by k_is)
    have D_climb := Cd.defAt_mk (x := "climb") (st := Cd.s_climb) KX G (by k_is) (by k_is) (by k_is) (by k_is)
    have D_changed := Cd.defAt_mk (x := "changed") (st := Cd.s_changed) KX G (by k_is) (by k_is) (by k_is) (by k_is)
    have D_best := Cd.defAt_mk (x := "best") (st := Cd.s_best) KX G (by k_is) (by k_is) (by k_is) (by k_is)
    have D_Day___init__ := Cd.idef_mk (qual := "Day.__init__") (st := Cd.s_Day___init__) T (by k_is) (by k_is) (by k_is) (by k_is) (by k_is) (by k_is) (by k_is)
    have D_Day_standing := Cd.mdef_mk (m := "standing") (qual := "Day.standing") (st := Cd.s_Day_standing) T (by k_is) (by k_is) (by k_is) (by k_is) (by k_is)
    have D_Day_rest := Cd.mdef_mk (m := "rest") (qual := "Day.rest") (st := Cd.s_Day_rest) T (by k_is) (by k_is) (by k_is) (by k_is) (by k_is)
    have D_Day_balance := Cd.mdef_mk (m := "balance") (qual := "Day.balance") (st := Cd.s_Day_balance) T (by k_is) (by k_is) (by k_is) (by k_is) (by k_is)
    have D_Day_owe := Cd.mdef_mk (m := "owe") (qual := "Day.owe") (st := Cd.s_Day_owe) T (by k_is) (by k_is) (by k_is) (by k_is) (by k_is)
    have D_Day_pay := Cd.mdef_mk (m := "pay") (qual := "Day.pay") (st := Cd.s_Day_pay) T (by k_is) (by k_is) (by k_is) (by k_is) (by k_is)
    have D_Day_clear := Cd.mdef_mk (m := "clear") (qual := "Day.clear") (st := Cd.s_Day_clear) T (by k_is) (by k_is) (by k_is) (by k_is) (by k_is)
    have D_L_debt := Cd.defAt_mk (x := "_law_debt") (st := Cd.s_L_debt) KX G (by k_is) (by k_is) (by k_is) (by k_is)
    have D_L_settles := Cd.defAt_mk (x := "_law_settles") (st := Cd.s_L_settles) KX G (by k_is) (by k_is) (by k_is) (by k_is)
    have D_L_sums := Cd.defAt_mk (x := "_law_sums") (st := Cd.s_L_sums) KX G (by k_is) (by k_is) (by k_is) (by k_is)
    have D_L_ringless := Cd.defAt_mk (x := "_law_ringless") (st := Cd.s_L_ringless) KX G (by k_is) (by k_is) (by k_is) (by k_is)
    have D_L_told := Cd.defAt_mk (x := "_law_told") (st := Cd.s_L_told) KX G (by k_is) (by k_is) (by k_is) (by k_is)
    have D_L_stands := Cd.defAt_mk (x := "_law_stands") (st := Cd.s_L_stands) KX G (by k_is) (by k_is) (by k_is) (by k_is)
    have D_L_cut_of := Cd.defAt_mk (x := "_law_cut_of") (st := Cd.s_L_cut_of) KX G (by k_is) (by k_is) (by k_is) (by k_is)
    have D_L_paid := Cd.defAt_mk (x := "_law_paid") (st := Cd.s_L_paid) KX G (by k_is) (by k_is) (by k_is) (by k_is)
    have D_L_cleared := Cd.defAt_mk (x := "_law_cleared") (st := Cd.s_L_cleared) KX G (by k_is) (by k_is) (by k_is) (by k_is)
    have D_law := Cd.defAt_mk (x := "law") (st := Cd.s_law) KX G (by k_is) (by k_is) (by k_is) (by k_is)
    have x_BadAmount := Cd.excOf_mk (x := "BadAmount") KX G (by k_is) (by k_exc) (by k_is) (by k_is) (by k_is)
    have x_BadCount := Cd.excOf_mk (x := "BadCount") KX G (by k_is) (by k_exc) (by k_is) (by k_is) (by k_is)
    have x_BadDebt := Cd.excOf_mk (x := "BadDebt") KX G (by k_is) (by k_exc) (by k_is) (by k_is) (by k_is)
    have x_NoDebt := Cd.excOf_mk (x := "NoDebt") KX G (by k_is) (by k_exc) (by k_is) (by k_is) (by k_is)
    have x_NoHouse := Cd.excOf_mk (x := "NoHouse") KX G (by k_is) (by k_exc) (by k_is) (by k_is) (by k_is)
    have g_BadAmount := PySem.W.mg_of (n := "BadAmount") KX G (by k_is)
    have g_MOST_AMOUNT := PySem.W.mg_of (n := "MOST_AMOUNT") KX G (by k_is)
    have g_MOST_HOUSES := PySem.W.mg_of (n := "MOST_HOUSES") KX G (by k_is)
    exact Cd.law_end D_law hmg (fun _ _ _ _ _ _ _ _ => .of_eq rfl) fun base _ _ => Cd.all_ok B g_MOST_AMOUNT g_MOST_HOUSES x_BadAmount x_BadCount x_BadDebt x_NoDebt x_NoHouse g_BadAmount ⟨by k_is, by k_is, by k_is, by k_is⟩ T D_L_cell_at D_L_whole D_is_whole D_is_number D_is_debt D_check_count D_balances D_circle D_moves D_climb D_changed D_best D_Day___init__ D_Day_standing D_Day_rest D_Day_balance D_Day_owe D_Day_pay D_Day_clear D_L_debt D_L_settles D_L_sums D_L_ringless D_L_told D_L_stands D_L_cut_of D_L_paid D_L_cleared D_law
