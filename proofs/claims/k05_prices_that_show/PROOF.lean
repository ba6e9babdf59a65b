import PyProof.Rows.All
import Wide.All
import OpenK.AllK
import Wide.FinOn
import HandS.ForMost
import HandS.IsInst
import HandS.Codes
import HandS.More
import HandS.Walk
import HandS.ForExc
import HandS.ExcCtx
import HandS.FStr
import HandS.HotCalls
import HandS.ExcIs
import HandS.SortInts
import HandS.Conv
import HandS.Zip
import HandS.List
import PySem.Challenge.RW_clearday_k05_prices_that_show
set_option Elab.async false
set_option linter.all false
set_option maxRecDepth 100000
set_option maxHeartbeats 4000000
/-! Clearday: words of our own over the hand layer, for every law. -/
namespace Cd
open PySem PySem.Spec PyProof.Rows L2

/-! ### a def that is called by its name -/
structure Cal (P : Program) (w : World) (K : PySem.W.Frag) (mg : Str → Option Value) (base : Heap) (CX : CXT) (k : Nat) (x : Str) (ps : List Str) (sp : Sp) : Prop where
  ex : ∃ f fd, FnOk P w K mg base CX k f fd ps sp ∧ mg x = some (.ref f) ∧ PySem.W.keepIn K (.ref f) = true ∧ Binds K fd ps [] ∧ ∃ oc od osl, K.lookup f = some ⟨oc, od, .func fd, osl⟩
/-- where a def of the text stands -/
def DefAt (K : PySem.W.Frag) (mg : Str → Option Value) (x : Str) (st : Stmt) : Prop := ∃ f fd, Fun K x x st f fd ∧ mg x = some (.ref f)
abbrev BindsBy (x : Str) (st : Stmt) (ps : List Str) : Prop := ∀ (kV doc pm : Value) (an : Option Addr) (cdv ct : Value) (us : List Value), us.length = ps.length → bindArgs (PySem.W.fnOf x x (defArgs st) (defBody st) (defScope st) .none kV doc pm an cdv ct) ⟨us, []⟩ = pure (ps.zip us)
section
variable {P : Program} {w : World} {K : PySem.W.Frag} {mg : Str → Option Value} {base : Heap}
theorem DefAt.ok {x : Str} {st : Stmt} {N ps : List Str} {k : Nat} {sp : Sp} (D : DefAt K mg x st) (S : FnScope N ps (defScope st)) (hb : BindsBy x st ps) (len : ∀ vs H Q E, sp vs H Q E → vs.length = ps.length)
    (hbody : ∀ (f : Addr) (cdv : Value) (A : Around) (outer : List Env) (s : Shared) (H : Hp) (vs : List V) (Q : VK) (E : XK), Room k (A.deeper (envOfC x (defScope st) s.heap.objs.size f cdv)) → sp vs H Q E →
      ∃ t, PSs (cxOf CX0 P w K mg base N x (defScope st) f cdv A outer s H E).nox (defBody st) t ∧ t { nx := fun _ H' => Q .non H', rt := Q } (start N vs) H) : Cal P w K mg base CX0 (k + 1) x ps sp := by
  obtain ⟨f, fd, F, m⟩ := D
  obtain ⟨oc, od, kV, doc, pm, an, cdv, ct, osl, e, lk, hcd⟩ := F.ex
  exact ⟨f, fd, F.ok S len (hbody f), m, F.kp, F.binds hb, oc, od, osl, lk⟩
theorem Cal.mono {CX : CXT} {x : Str} {ps : List Str} {sp : Sp} {j k : Nat} (c : Cal P w K mg base CX j x ps sp) (h : j ≤ k) : Cal P w K mg base CX k x ps sp := by
  obtain ⟨f, fd, F, m, kp, b, lk⟩ := c.ex
  exact ⟨f, fd, F.mono h, m, kp, b, lk⟩
theorem defAt_mk {h : Heap} {x : Str} {st : Stmt} {f : Addr} {oc : Value} {od an : Option Addr} {osl : Array (Option Value)} {kV doc pm cdv ct : Value} (X : K.In h) (G : h.Ns mainGlobals mg) (a : PySem.W.nsIn K mainGlobals x = some (some (.ref f)))
    (l : K.lookup f = some ⟨oc, od, .func (PySem.W.fnOf x x (defArgs st) (defBody st) (defScope st) .none kV doc pm an cdv ct), osl⟩) (c : PySem.W.codeIn K cdv x = true) (k : PySem.W.keepIn K (.ref f) = true) : DefAt K mg x st := ⟨f, _, fun_mk l c k, PySem.W.mg_of X G a⟩
/-- the law's own def, as walk_of asks for it -/
theorem law_end {k : Nat} {x p : Str} {st : Stmt} {fa : Addr} {sp : Sp} (D : DefAt K mg x st) (hfa : mg x = some (.ref fa))
    (hb : ∀ (kV doc pm : Value) (an : Option Addr) (cdv ct : Value) (s : Shared) (v : Value), BindsTo s (PySem.W.fnOf x x (defArgs st) (defBody st) (defScope st) .none kV doc pm an cdv ct) ⟨[v], []⟩ [(p, v)])
    (hc : ∀ base : Heap, K.In base → base.Ns mainGlobals mg → Cal P w K mg base CX0 k x [p] sp) :
    ∃ fd : FuncData, (∀ (s : Shared) (v : Value), BindsTo s fd ⟨[v], []⟩ [(p, v)]) ∧ ∀ base : Heap, K.In base → base.Ns mainGlobals mg → FnOk P w K mg base CX0 k fa fd [p] sp := by
  obtain ⟨f, fd, F, m⟩ := D
  obtain ⟨oc, od, kV, doc, pm, an, cdv, ct, osl, rfl, lk, hcd⟩ := F.ex
  rw [hfa] at m
  cases m
  refine ⟨_, hb kV doc pm an cdv ct, fun base hK hG => ?_⟩
  obtain ⟨f', fd', F', m', _, _, oc', od', osl', lk'⟩ := (hc base hK hG).ex
  rw [hfa] at m'
  cases m'
  rw [lk] at lk'
  cases lk'
  exact F'
end
section
variable {X : Cx} {CX : CXT} {k : Nat} {ps : List Str} {sp : Sp} {E : XK} {x : Str} {p pos : Pos} {e : Expr} {es : List Expr} {t : TA}
theorem pe_cal (c : Cal X.prog X.w X.K X.mg X.base CX k x ps sp) (hr : Room k X.A) (hg : Gl X x) (hx : Passes CX X E) (ha : PA X (e :: es) t) (hdb : (x == ("__debug__" : Str)) = false := by decide)
    (he : starEach (e :: es) X.env = (false, eval e X.env) :: starEach es X.env := by rfl) (hpl : (backTo pos (starEach es X.env)).any (·.1) = false := by rfl) : PE X (.Call (.Name x p) (e :: es) [] pos) (tCall sp [] E t) := by
  obtain ⟨f, fd, F, m, kp, b, _⟩ := c.ex
  exact pe_call F hr hg m kp b .nil hx ha hdb he hpl
/-- xs[i] read for xs[i] op= e, i not below nought -/
theorem get_list : PGet X (rIxL X.K) := by
  intro pins s σ H o i ov iv Q I ro ri h
  obtain ⟨a, xs, n, z, rfl, rfl, hq, he, q⟩ := h
  cases ro
  obtain ⟨tk, rfl⟩ := ri
  obtain ⟨its, r, pl, hz⟩ := I.list hq
  obtain ⟨j, h1, h2, h3, h4, h5⟩ := atI_get he
  obtain ⟨w, ew, rw'⟩ := r.get h2
  have hl := r.length
  have hn := line63
  have done_ : EP X pins σ Q w s := ⟨z, H, I, rw', q⟩
  by_cases h0 : 0 ≤ n
  · have hj : n.toNat = j := by
      rw [seqIndex_of h0 h5] at h1
      exact Option.some.inj h1
    exact wpAny_getItem_list pl.isList h0 (by omega) (by rw [hj]; simpa using ew) done_
  · have hj : (n + (its.toArray.size : Int)).toNat = j := by
      rw [seqIndex_neg (by omega) h4] at h1
      rw [List.size_toArray, ← hl]
      exact Option.some.inj h1
    exact wpAny_getItem_list_neg pl.isList (by omega) (by rw [List.size_toArray] <;> omega) (by omega) (by rw [hj]; simpa using ew) done_
end
/-- the built-in names that stay what they are -/
structure Blt (mg : Str → Option Value) : Prop where
  len : mg "len" = none
  range : mg "range" = none
  isinstance : mg "isinstance" = none
  list : mg "list" = none
  int : mg "int" = none
  bool : mg "bool" = none
  tuple : mg "tuple" = none
  sum : mg "sum" = none
  min : mg "min" = none
  max : mg "max" = none
  enumerate : mg "enumerate" = none
  zip : mg "zip" = none
  any : mg "any" = none
  all : mg "all" = none
  abs : mg "abs" = none
  sorted : mg "sorted" = none
  reversed : mg "reversed" = none
  ValueError : mg "ValueError" = none
  set : mg "set" = none

/-! ### data in a heap -/
section
variable {K : PySem.W.Frag} {H H' H1 : Hp} {a p : Addr} {xs : List V}
theorem same_new {o : HO} (h : H p = none) : Same H (upd H p o) := fun b x e => by
  rw [upd_ne (ne_of_none e h)]
  exact e
/-- what the start did not know may change -/
theorem same_mut {o : HO} (e : Same H H') (h : H p = none) : Same H (upd H' p o) := fun b x q => by
  rw [upd_ne (ne_of_none q h)]
  exact e _ _ q
theorem same_tup (e : Same H H') (h : SqT K H a xs) : SqT K H' a xs := by
  rcases h with (h | ⟨o, h⟩) | h
  · exact .inl (.inl (e _ _ h))
  · exact .inl (.inr ⟨o, e _ _ h⟩)
  · exact .inr h
theorem same_none (e : Same H H') (h : H' a = none) : H a = none := e.free h
mutual
theorem dp_same (e : Same H H') : ∀ (d : PyData) (v : V), Dp K H v d → Dp K H' v d
  | .none, _, h => by cases h; exact .non
  | .bool b, _, h => by cases h; exact .bl b
  | .int i, _, h => by cases h; exact .int i
  | .str x, _, h => by cases h; exact .str x
  | .list ds, _, h => by
    cases h with
    | lst hs ha => exact .lst (e.seq hs) (dpA_same e ds _ ha)
  | .tuple ds, _, h => by
    cases h with
    | tup hs ha => exact .tup (same_tup e hs) (dpA_same e ds _ ha)
  | .dict kvs, _, h => by cases h
theorem dpA_same (e : Same H H') : ∀ (ds : List PyData) (vs : List V), DpAll K H vs ds → DpAll K H' vs ds
  | [], _, h => by cases h; exact .nil
  | d :: ds, _, h => by
    cases h with
    | cons h1 h2 => exact .cons (dp_same e d _ h1) (dpA_same e ds _ h2)
end
theorem _root_.L2.Same.dp {v : V} {d : PyData} (e : Same H H') (h : Dp K H v d) : Dp K H' v d := dp_same e d v h
theorem _root_.L2.Same.dpA {vs : List V} {ds : List PyData} (e : Same H H') (h : DpAll K H vs ds) : DpAll K H' vs ds := dpA_same e ds vs h
theorem _root_.L2.Same.tup (e : Same H H') (h : SqT K H a xs) : SqT K H' a xs := same_tup e h
theorem dpA_len : ∀ {vs : List V} {ds : List PyData}, DpAll K H vs ds → vs.length = ds.length
  | _, _, .nil => rfl
  | _, _, .cons _ t => by
    rw [List.length_cons, List.length_cons, dpA_len t]
theorem dpA_get : ∀ {vs : List V} {ds : List PyData} {i : Nat} {v : V}, DpAll K H vs ds → vs[i]? = some v → ∃ d, ds[i]? = some d ∧ Dp K H v d
  | _, _, _, _, .nil, e => by simp at e
  | _, _, 0, _, .cons h _, e => by
    cases (Option.some.inj e : _ = _)
    exact ⟨_, rfl, h⟩
  | _, _, i + 1, v, .cons _ t, e => by
    obtain ⟨d, e1, h1⟩ := dpA_get (i := i) (v := v) t e
    exact ⟨d, e1, h1⟩
theorem dpA_get' {vs : List V} {ds : List PyData} {i : Nat} {d : PyData} (h : DpAll K H vs ds) (e : ds[i]? = some d) : ∃ v, vs[i]? = some v ∧ Dp K H v d := by
  have hl := dpA_len h
  have hi := (List.getElem?_eq_some_iff.mp e).1
  have e1 : vs[i]? = some (vs[i]'(by omega)) := List.getElem?_eq_getElem (by omega)
  obtain ⟨d', e2, h2⟩ := dpA_get h e1
  rw [e] at e2
  cases e2
  exact ⟨_, e1, h2⟩
theorem dpA_app : ∀ {vs ws : List V} {ds es : List PyData}, DpAll K H vs ds → DpAll K H ws es → DpAll K H (vs ++ ws) (ds ++ es)
  | _, _, _, _, .nil, h => h
  | _, _, _, _, .cons h t, h' => .cons h (dpA_app t h')
theorem dpA_take : ∀ {vs : List V} {ds : List PyData} (n : Nat), DpAll K H vs ds → DpAll K H (vs.take n) (ds.take n)
  | _, _, 0, _ => .nil
  | _, _, _ + 1, .nil => .nil
  | _, _, n + 1, .cons h t => .cons h (dpA_take n t)
theorem dpA_drop : ∀ {vs : List V} {ds : List PyData} (n : Nat), DpAll K H vs ds → DpAll K H (vs.drop n) (ds.drop n)
  | _, _, 0, h => h
  | _, _, _ + 1, .nil => .nil
  | _, _, n + 1, .cons _ t => dpA_drop n t
theorem dpA_ints : ∀ ns : List Int, DpAll K H (ns.map V.int) (ns.map PyData.int)
  | [] => .nil
  | n :: r => .cons (.int n) (dpA_ints r)
theorem dpA_ints_inv : ∀ {ns : List Int} {vs : List V}, DpAll K H vs (ns.map PyData.int) → vs = ns.map V.int
  | [], _, h => by cases h; rfl
  | n :: r, _, h => by
    cases h with
    | cons h1 h2 =>
      cases h1
      rw [dpA_ints_inv h2]
      rfl
/-- a list of ours may change: tuples of flat data don't lean on it -/
theorem tup_mut {l : Addr} {vs : List V} {o : HO} (hl : H l = some (.lst vs)) (h : SqT K H a xs) : SqT K (upd H l o) a xs := by
  rcases h with (h | ⟨ob, h⟩) | h
  · have ne : a ≠ l := fun q => by
      rw [q, hl] at h
      cases h
    exact .inl (.inl (by rw [upd_ne ne]; exact h))
  · have ne : a ≠ l := fun q => by
      rw [q, hl] at h
      cases h
    exact .inl (.inr ⟨ob, by rw [upd_ne ne]; exact h⟩)
  · exact .inr h
end

/-! ### debts -/
abbrev Debt := Int × Int × Int
def encT (d : Debt) : List PyData := [.int d.1, .int d.2.1, .int d.2.2]
def enc (d : Debt) : PyData := .tuple (encT d)
def encs (ds : List Debt) : List PyData := ds.map enc
/-- the values that a debt's tuple holds -/
def tV (d : Debt) : List V := [.int d.1, .int d.2.1, .int d.2.2]
/-- v is a tuple with d's parts -/
def DV (K : PySem.W.Frag) (H : Hp) (v : V) (d : Debt) : Prop := ∃ p, v = .ref p ∧ SqT K H p (tV d)
def DVs (K : PySem.W.Frag) (H : Hp) : List V → List Debt → Prop := Paired (DV K H)
section
variable {K : PySem.W.Frag} {H H' : Hp}
theorem _root_.L2.Same.dv {v : V} {d : Debt} (e : Same H H') (h : DV K H v d) : DV K H' v d := by
  obtain ⟨p, r, h⟩ := h
  exact ⟨p, r, e.tup h⟩
theorem dvs_same : ∀ {vs : List V} {ds : List Debt}, Same H H' → DVs K H vs ds → DVs K H' vs ds
  | _, _, _, .nil => .nil
  | _, _, e, .cons h t => .cons (e.dv h) (dvs_same e t)
theorem _root_.L2.Same.dvs {vs : List V} {ds : List Debt} (e : Same H H') (h : DVs K H vs ds) : DVs K H' vs ds := dvs_same e h
theorem dv_mut {l : Addr} {vs : List V} {o : HO} {v : V} {d : Debt} (hl : H l = some (.lst vs)) (h : DV K H v d) : DV K (upd H l o) v d := by
  obtain ⟨p, r, h⟩ := h
  exact ⟨p, r, tup_mut hl h⟩
theorem dvs_mut {l : Addr} {ws : List V} {o : HO} (hl : H l = some (.lst ws)) : ∀ {vs : List V} {ds : List Debt}, DVs K H vs ds → DVs K (upd H l o) vs ds
  | _, _, .nil => .nil
  | _, _, .cons h t => .cons (dv_mut hl h) (dvs_mut hl t)
theorem dvs_len {vs : List V} {ds : List Debt} (h : DVs K H vs ds) : vs.length = ds.length := Paired.length h
theorem dvs_get : ∀ {vs : List V} {ds : List Debt} {i : Nat} {v : V}, DVs K H vs ds → vs[i]? = some v → ∃ d, ds[i]? = some d ∧ DV K H v d
  | _, _, _, _, .nil, e => by simp at e
  | _, _, 0, _, .cons h _, e => by
    cases (Option.some.inj e : _ = _)
    exact ⟨_, rfl, h⟩
  | _, _, i + 1, v, .cons _ t, e => by
    obtain ⟨d, e1, h1⟩ := dvs_get (i := i) (v := v) t e
    exact ⟨d, e1, h1⟩
theorem dvs_get' {vs : List V} {ds : List Debt} {i : Nat} {d : Debt} (h : DVs K H vs ds) (e : ds[i]? = some d) : ∃ v, vs[i]? = some v ∧ DV K H v d := by
  have hl := dvs_len h
  have hi := (List.getElem?_eq_some_iff.mp e).1
  have e1 : vs[i]? = some (vs[i]'(by omega)) := List.getElem?_eq_getElem (by omega)
  obtain ⟨d', e2, h2⟩ := dvs_get h e1
  rw [e] at e2
  cases e2
  exact ⟨_, e1, h2⟩
theorem dvs_app : ∀ {vs ws : List V} {ds es : List Debt}, DVs K H vs ds → DVs K H ws es → DVs K H (vs ++ ws) (ds ++ es)
  | _, _, _, _, .nil, h => h
  | _, _, _, _, .cons h t, h' => .cons h (dvs_app t h')
theorem dvs_take : ∀ {vs : List V} {ds : List Debt} (n : Nat), DVs K H vs ds → DVs K H (vs.take n) (ds.take n)
  | _, _, 0, _ => .nil
  | _, _, _ + 1, .nil => .nil
  | _, _, n + 1, .cons h t => .cons h (dvs_take n t)
theorem dvs_drop : ∀ {vs : List V} {ds : List Debt} (n : Nat), DVs K H vs ds → DVs K H (vs.drop n) (ds.drop n)
  | _, _, 0, h => h
  | _, _, _ + 1, .nil => .nil
  | _, _, n + 1, .cons _ t => dvs_drop n t
theorem dv_dp {v : V} {d : Debt} (h : DV K H v d) : Dp K H v (enc d) := by
  obtain ⟨p, rfl, h⟩ := h
  exact .tup h (.cons (.int _) (.cons (.int _) (.cons (.int _) .nil)))
theorem dp_dv {v : V} {d : Debt} (h : Dp K H v (enc d)) : DV K H v d := by
  cases h with
  | tup hs ha =>
    cases ha with
    | cons h1 ha =>
      cases ha with
      | cons h2 ha =>
        cases ha with
        | cons h3 ha =>
          cases ha
          cases h1
          cases h2
          cases h3
          exact ⟨_, rfl, hs⟩
theorem dvs_dp : ∀ {vs : List V} {ds : List Debt}, DVs K H vs ds → DpAll K H vs (encs ds)
  | _, _, .nil => .nil
  | _, _, .cons h t => .cons (dv_dp h) (dvs_dp t)
/-- a list of debts that may be read at a; one that is ours at a -/
def DL (K : PySem.W.Frag) (H : Hp) (a : Addr) (ds : List Debt) : Prop := ∃ vs, SqL K H a vs ∧ DVs K H vs ds
def DM (K : PySem.W.Frag) (H : Hp) (a : Addr) (ds : List Debt) : Prop := ∃ vs, H a = some (.lst vs) ∧ DVs K H vs ds
theorem DM.dl {a : Addr} {ds : List Debt} (h : DM K H a ds) : DL K H a ds := by
  obtain ⟨vs, h1, h2⟩ := h
  exact ⟨vs, SqL.of h1, h2⟩
theorem DL.dp {a : Addr} {ds : List Debt} (h : DL K H a ds) : Dp K H (.ref a) (.list (encs ds)) := by
  obtain ⟨vs, h1, h2⟩ := h
  exact .lst h1 (dvs_dp h2)
theorem _root_.L2.Same.dl {a : Addr} {ds : List Debt} (e : Same H H') (h : DL K H a ds) : DL K H' a ds := by
  obtain ⟨vs, h1, h2⟩ := h
  exact ⟨vs, e.seq h1, e.dvs h2⟩
theorem _root_.L2.Same.dm {a : Addr} {ds : List Debt} (e : Same H H') (h : DM K H a ds) : DM K H' a ds := by
  obtain ⟨vs, h1, h2⟩ := h
  exact ⟨vs, e _ _ h1, e.dvs h2⟩
end
/-- a debt of a book of n houses -/
structure Good (n : Int) (d : Debt) : Prop where
  a0 : 0 ≤ d.1
  an : d.1 < n
  b0 : 0 ≤ d.2.1
  bn : d.2.1 < n
  ne : d.1 ≠ d.2.1
  m1 : 1 ≤ d.2.2
  mM : d.2.2 ≤ 1000000000
def Goods (n : Int) (ds : List Debt) : Prop := ∀ d ∈ ds, Good n d
/-- the cell of a script -/
def cell (ns : List Int) (k : Int) : Int := if k < (ns.length : Int) then ns.getD k.toNat 0 else 0
theorem szn {n : Nat} (h : n ≤ 100000) : n ≤ sizeLine := Nat.le_trans h (by decide)
theorem szl {n : Nat} (h : n < 100000) : n < sizeLine := Nat.lt_of_lt_of_le h (by decide)

/-! ### kinds, numbers -/
def isInt : PyData → Bool
  | .int _ => true
  | _ => false
def isNum (d : PyData) (lo hi : Int) : Bool := match d with
  | .int i => decide (lo ≤ i) && decide (i ≤ hi)
  | _ => false
/-- the built-in class of data -/
def tyD : PyData → String
  | .none => "NoneType"
  | .bool _ => "bool"
  | .int _ => "int"
  | .str _ => "str"
  | .list _ => "list"
  | .tuple _ => "tuple"
  | .dict _ => "dict"
theorem tyx_of {K : PySem.W.Frag} {H : Hp} {v : V} {d : PyData} (h : Dp K H v d) : TyX K H v (.type (tyD d)) := by
  cases h with
  | non => exact .base .non
  | bl b => exact .base (.bl b)
  | int i => exact .base (.int i)
  | str x => exact .base (.str x)
  | lst hs _ =>
    rcases hs with (h | ⟨o, h⟩) | ⟨o, its, n, l, c, _⟩
    · exact .base (.lst h)
    · exact .base (.frz h)
    · exact .kList l c
  | tup hs _ =>
    rcases hs with (h | ⟨o, h⟩) | ⟨o, its, n, l, c, _⟩
    · exact .base (.tup h)
    · exact .fTuple h
    · exact .kTuple l c
def isI : PyData → Bool
  | .int _ => true
  | .bool _ => true
  | _ => false
def isB : PyData → Bool
  | .bool _ => true
  | _ => false
def isL : PyData → Bool
  | .list _ => true
  | _ => false
def isT : PyData → Bool
  | .tuple _ => true
  | _ => false
section
variable {K : PySem.W.Frag}
theorem kit_int : ∀ d : PyData, PySem.W.kitOne K (.type (tyD d)) (.type "int") = some (isI d)
  | .none => kit_ty (show kitB "NoneType" "int" = some false by decide +kernel)
  | .bool _ => kit_ty (show kitB "bool" "int" = some true by decide +kernel)
  | .int _ => kit_ty (show kitB "int" "int" = some true by decide +kernel)
  | .str _ => kit_ty (show kitB "str" "int" = some false by decide +kernel)
  | .list _ => kit_ty (show kitB "list" "int" = some false by decide +kernel)
  | .tuple _ => kit_ty (show kitB "tuple" "int" = some false by decide +kernel)
  | .dict _ => kit_ty (show kitB "dict" "int" = some false by decide +kernel)
theorem kit_bool : ∀ d : PyData, PySem.W.kitOne K (.type (tyD d)) (.type "bool") = some (isB d)
  | .none => kit_ty (show kitB "NoneType" "bool" = some false by decide +kernel)
  | .bool _ => kit_ty (show kitB "bool" "bool" = some true by decide +kernel)
  | .int _ => kit_ty (show kitB "int" "bool" = some false by decide +kernel)
  | .str _ => kit_ty (show kitB "str" "bool" = some false by decide +kernel)
  | .list _ => kit_ty (show kitB "list" "bool" = some false by decide +kernel)
  | .tuple _ => kit_ty (show kitB "tuple" "bool" = some false by decide +kernel)
  | .dict _ => kit_ty (show kitB "dict" "bool" = some false by decide +kernel)
theorem kit_list : ∀ d : PyData, PySem.W.kitOne K (.type (tyD d)) (.type "list") = some (isL d)
  | .none => kit_ty (show kitB "NoneType" "list" = some false by decide +kernel)
  | .bool _ => kit_ty (show kitB "bool" "list" = some false by decide +kernel)
  | .int _ => kit_ty (show kitB "int" "list" = some false by decide +kernel)
  | .str _ => kit_ty (show kitB "str" "list" = some false by decide +kernel)
  | .list _ => kit_ty (show kitB "list" "list" = some true by decide +kernel)
  | .tuple _ => kit_ty (show kitB "tuple" "list" = some false by decide +kernel)
  | .dict _ => kit_ty (show kitB "dict" "list" = some false by decide +kernel)
theorem kit_tuple : ∀ d : PyData, PySem.W.kitOne K (.type (tyD d)) (.type "tuple") = some (isT d)
  | .none => kit_ty (show kitB "NoneType" "tuple" = some false by decide +kernel)
  | .bool _ => kit_ty (show kitB "bool" "tuple" = some false by decide +kernel)
  | .int _ => kit_ty (show kitB "int" "tuple" = some false by decide +kernel)
  | .str _ => kit_ty (show kitB "str" "tuple" = some false by decide +kernel)
  | .list _ => kit_ty (show kitB "list" "tuple" = some false by decide +kernel)
  | .tuple _ => kit_ty (show kitB "tuple" "tuple" = some true by decide +kernel)
  | .dict _ => kit_ty (show kitB "dict" "tuple" = some false by decide +kernel)
/-- data, or an empty dict, which Dp does not tell -/
def Kd (K : PySem.W.Frag) (H : Hp) (v : V) (d : PyData) : Prop := TyX K H v (.type (tyD d)) ∧ ((∀ e, d ≠ .dict e) → Dp K H v d)
theorem kd_of {H : Hp} {v : V} {d : PyData} (h : Dp K H v d) : Kd K H v d := ⟨tyx_of h, fun _ => h⟩
theorem kd_dict {H : Hp} {a : Addr} {kvs : List (Key × V)} (h : H a = some (.dK kvs)) : Kd K H (.ref a) (.dict []) := ⟨.base (.dK h), fun z => absurd rfl (z [])⟩
end
/-! ### numbers -/
theorem emod_b {x n : Int} (h : 0 < n) : 0 ≤ x % n ∧ x % n < n := ⟨Int.emod_nonneg _ (by omega), Int.emod_lt_of_pos _ h⟩
theorem wrap_ne {a n u : Int} (ha : 0 ≤ a) (hn : a < n) (hu : 0 ≤ u) (hu' : u < n - 1) : a ≠ (a + 1 + u) % n := by
  intro e
  by_cases h : a + 1 + u < n
  · rw [Int.emod_eq_of_lt (by omega) h] at e
    omega
  · have e2 : (a + 1 + u) % n = a + 1 + u - n := by
      rw [← Int.sub_emod_right, Int.emod_eq_of_lt (by omega) (by omega)]
    omega
/-! ### lists of debts that grow -/
section
variable {K : PySem.W.Frag} {H : Hp}
theorem dm_set {l : Addr} {vs ws : List V} {ds : List Debt} (h : H l = some (.lst vs)) (hw : DVs K H ws ds) : DM K (upd H l (.lst ws)) l ds := ⟨ws, upd_same, dvs_mut h hw⟩
theorem dv_new {p : Addr} {d : Debt} (h : H p = some (.tup (tV d))) : DV K H (.ref p) d := ⟨p, rfl, SqT.of h⟩
theorem dvs_one {v : V} {d : Debt} (h : DV K H v d) : DVs K H [v] [d] := .cons h .nil
end
theorem goods_app {n : Int} {ds es : List Debt} (h : Goods n ds) (h' : Goods n es) : Goods n (ds ++ es) := fun d hd => (List.mem_append.mp hd).elim (h d) (h' d)
theorem goods_one {n : Int} {d : Debt} (h : Good n d) : Goods n [d] := fun e he => by
  rw [List.mem_singleton.mp he]
  exact h
theorem goods_nil {n : Int} : Goods n [] := fun _ h => nomatch h
theorem goods_take {n : Int} {ds : List Debt} (k : Nat) (h : Goods n ds) : Goods n (ds.take k) := fun d hd => h d (List.mem_of_mem_take hd)
theorem goods_drop {n : Int} {ds : List Debt} (k : Nat) (h : Goods n ds) : Goods n (ds.drop k) := fun d hd => h d (List.mem_of_mem_drop hd)
theorem dpA_3 {K : PySem.W.Frag} {H : Hp} {vs : List V} {d1 d2 d3 : PyData} (h : DpAll K H vs [d1, d2, d3]) : ∃ v1 v2 v3, vs = [v1, v2, v3] ∧ Dp K H v1 d1 ∧ Dp K H v2 d2 ∧ Dp K H v3 d3 := by
  cases h with
  | cons h1 h =>
    cases h with
    | cons h2 h =>
      cases h with
      | cons h3 h =>
        cases h
        exact ⟨_, _, _, rfl, h1, h2, h3⟩
end Cd

/-! Clearday: errors. -/
namespace Cd
open PySem PySem.Spec PyProof.Rows L2

/-- an error class of the text, without a body, somewhere under ValueError -/
structure ExcOf (K : PySem.W.Frag) (mg : Str → Option Value) (x : Str) (C : Addr) : Prop where
  g : mg x = some (.ref C)
  e : PySem.W.excIn K C [.type "ValueError", .type "Exception", .type "BaseException", .type "object"] "ValueError.__new__" = true
  k : PySem.W.keepIn K (.ref C) = true
  b : PySem.W.subIn K (.ref C) (.type "BaseException") = some true
  t : PySem.W.typeIn K (.ref C) = some (.type "type")
theorem excOf_mk {K : PySem.W.Frag} {mg : Str → Option Value} {h : Heap} {x : Str} {C : Addr} (X : K.In h) (G : h.Ns mainGlobals mg) (a : PySem.W.nsIn K mainGlobals x = some (some (.ref C)))
    (e : PySem.W.excIn K C [.type "ValueError", .type "Exception", .type "BaseException", .type "object"] "ValueError.__new__" = true) (k : PySem.W.keepIn K (.ref C) = true) (b : PySem.W.subIn K (.ref C) (.type "BaseException") = some true) (t : PySem.W.typeIn K (.ref C) = some (.type "type")) : ExcOf K mg x C :=
  ⟨PySem.W.mg_of X G a, e, k, b, t⟩
section
variable {X : Cx} {C : Addr} {x : Str} {p pos : Pos} {e : Expr} {es : List Expr} {t : TA}
/-- X(e, ..) raised -/
theorem pmk_x (F : ExcOf X.K X.mg x C) (ha : PA X (e :: es) t) (hg : Gl X x) (hdb : (x == ("__debug__" : Str)) = false := by decide)
    (he : starEach (e :: es) X.env = (false, eval e X.env) :: starEach es X.env := by rfl) (hpl : (backTo pos (starEach es X.env)).any (·.1) = false := by rfl) :
    L2N.PMk X (.Call (.Name x p) (e :: es) [] pos) (fun σ H Q => t σ H fun vs H1 => vs.length ≤ 100 ∧ Q (.ref C) none H1) := by
  intro pins s σ H Q I h
  refine wpAny_Call_Name_kw (ld_glob I hg F.g ?_ hdb)
  refine PySem.W.callWith_K (h₀ := X.base) I.ok.mod.kin F.k (thn (ha.run pos pins s σ H _ I h) fun us s1 hv => ?_) he hpl
  obtain ⟨vs, H1, I1, r1, hz, q1⟩ := hv
  refine ⟨I1.kIn, ?_⟩
  obtain ⟨bm, N, nm, qn, bs, hdct, sn, sub, ab, col, dd, k0, k1, k2, k3, k5, mN, hC, hN, hni, T⟩ := exc_obj I1.kIn F.e
  show wpAny _ _ (call (.ref C) us) _ _ _
  have hus : us.length ≤ sizeLine := by
    rw [← r1.length]
    exact szn (by omega)
  exact wpAny_call_exc_subT PySem.F.excBase_ValueError T hC hN hni (fun h' a hm => L2N.mk_of I1 hm (raises_own F.b F.t) q1 (I1.hok.gone hm.new)) hus
theorem passN : Passes (L2N.CX X.prog X.w) X E0 := fun _ _ _ _ _ _ _ h => by
  obtain ⟨_, _, _, _, _, _, _, _, _, _, _, _, z⟩ := h
  exact z.elim
end
section
variable {P : Program} {w : World} {K : PySem.W.Frag} {mg : Str → Option Value} {base : Heap}
/-- as DefAt.ok, for a def that errors leave -/
theorem DefAt.okN {x : Str} {st : Stmt} {N ps : List Str} {k : Nat} {sp : Sp} (D : DefAt K mg x st) (S : FnScope N ps (defScope st)) (hb : BindsBy x st ps) (len : ∀ vs H Q E, sp vs H Q E → vs.length = ps.length)
    (hbody : ∀ (f : Addr) (cdv : Value) (A : Around) (outer : List Env) (s : Shared) (H : Hp) (vs : List V) (Q : VK) (E : XK), Room k (A.deeper (envOfC x (defScope st) s.heap.objs.size f cdv)) → sp vs H Q E →
      ∃ t, PSs (cxOf (L2N.CX P w) P w K mg base N x (defScope st) f cdv A outer s H E) (defBody st) t ∧ t { nx := fun _ H' => Q .non H', rt := Q } (start N vs) H) : Cal P w K mg base (L2N.CX P w) (k + 1) x ps sp := by
  obtain ⟨f, fd, F, m⟩ := D
  obtain ⟨oc, od, kV, doc, pm, an, cdv, ct, osl, rfl, lk, hcd⟩ := F.ex
  refine ⟨f, _, ?_, m, F.kp, F.binds hb, oc, od, osl, lk⟩
  exact fn_of lk hcd S len fun A outer s H vs Q E hr hsp => hbody f cdv A outer s H vs Q E hr hsp
end
/-! ### a message's length -/
theorem msg_add {a b : Str} {m n : Nat} (h1 : a.length ≤ m) (h2 : b.length ≤ n) : (a ++ b).length ≤ m + n := by
  have e : (a ++ b).length = a.length + b.length := by
    show (a.cps ++ b.cps).size = _
    rw [Array.size_append]
    rfl
  omega
theorem msg_int {i : Int} (h : i.natAbs < 2 ^ 1900) : i.natAbs.log2 < 1920 := by
  by_cases h0 : i.natAbs = 0
  · rw [h0]
    decide
  · rw [Nat.log2_lt h0]
    exact Nat.lt_trans h (Nat.pow_lt_pow_right (by decide) (by decide))
section
variable {σ : L2.St} {H : Hp} {Q : Str → Hp → Prop} {acc s : Str} {ts : List TE} {m n : Nat} {i : Int} {k : Nat}
theorem js_end (h : Q acc H) : tJs [] acc σ H Q := h
theorem js_c (ha : acc.length ≤ m) (hs : s.length ≤ n) (hm : m + n ≤ 100000) (h : ∀ a : Str, a.length ≤ m + n → tJs ts a σ H Q) : tJs (tC (.str s) :: ts) acc σ H Q :=
  ⟨s, rfl, szn (Nat.le_trans (msg_add ha hs) hm), h _ (msg_add ha hs)⟩
theorem js_k (ha : acc.length ≤ m) (hi : i.natAbs < 2 ^ 1900) (hm : m + 1921 ≤ 100000) (h : ∀ a : Str, a.length ≤ m + 1921 → tJs ts a σ H Q) : tJs (tFmt (tC (.int i)) :: ts) acc σ H Q :=
  .inr ⟨i, rfl, msg_int hi, _, rfl, szn (Nat.le_trans (msg_add ha (int_text_len_1921 (msg_int hi))) hm), h _ (msg_add ha (int_text_len_1921 (msg_int hi)))⟩
theorem js_v (ha : acc.length ≤ m) (hx : σ[k]? = some (some (.int i))) (hi : i.natAbs < 2 ^ 1900) (hm : m + 1921 ≤ 100000) (h : ∀ a : Str, a.length ≤ m + 1921 → tJs ts a σ H Q) : tJs (tFmt (tVar k) :: ts) acc σ H Q :=
  ⟨_, hx, .inr ⟨i, rfl, msg_int hi, _, rfl, szn (Nat.le_trans (msg_add ha (int_text_len_1921 (msg_int hi))) hm), h _ (msg_add ha (int_text_len_1921 (msg_int hi)))⟩⟩
theorem small_pow {i : Int} (h : i.natAbs < 2 ^ 64) : i.natAbs < 2 ^ 1900 := Nat.lt_of_lt_of_le h (Nat.pow_le_pow_right (by decide) (by decide))
end
end Cd

/-! Clearday: data compared; sums. -/
namespace Cd
open PySem PySem.Spec PyProof.Rows L2

/-- data of depth k at most, without dicts -/
def Sh (k : Nat) (d : PyData) : Prop := d.canLay0 = true ∧ d.depth ≤ k
theorem Sh.shaped {k : Nat} {d : PyData} (h : Sh k d) (hk : k ≤ 64) : SeqAt.shaped d = true := by
  unfold SeqAt.shaped
  rw [h.1, decide_eq_true (Nat.le_trans h.2 hk)]
  rfl
theorem sh_int (i : Int) : Sh 0 (.int i) := ⟨by unfold PyData.canLay0; rfl, by unfold PyData.depth; exact Nat.le_refl _⟩
theorem sh_bool (b : Bool) : Sh 0 (.bool b) := ⟨by unfold PyData.canLay0; rfl, by unfold PyData.depth; exact Nat.le_refl _⟩
theorem sh_all {k : Nat} : ∀ {ds : List PyData}, (∀ d ∈ ds, Sh k d) → PyData.canLayAll0 ds = true ∧ PyData.depthAll ds ≤ k
  | [], _ => ⟨by unfold PyData.canLayAll0; rfl, by unfold PyData.depthAll; exact Nat.zero_le _⟩
  | d :: ds, h => by
    have h1 := h d List.mem_cons_self
    have h2 := sh_all (ds := ds) fun e he => h e (List.mem_cons_of_mem _ he)
    refine ⟨?_, ?_⟩
    · unfold PyData.canLayAll0
      rw [h1.1, h2.1]
      rfl
    · unfold PyData.depthAll
      exact Nat.max_le.mpr ⟨h1.2, h2.2⟩
theorem sh_list {k : Nat} {ds : List PyData} (h : ∀ d ∈ ds, Sh k d) : Sh (k + 1) (.list ds) := by
  have z := sh_all h
  refine ⟨?_, ?_⟩
  · unfold PyData.canLay0
    exact z.1
  · unfold PyData.depth
    have := z.2
    omega
theorem sh_tuple {k : Nat} {ds : List PyData} (h : ∀ d ∈ ds, Sh k d) : Sh (k + 1) (.tuple ds) := by
  have z := sh_all h
  refine ⟨?_, ?_⟩
  · unfold PyData.canLay0
    exact z.1
  · unfold PyData.depth
    have := z.2
    omega
theorem Sh.mono {j k : Nat} {d : PyData} (h : Sh j d) (e : j ≤ k) : Sh k d := ⟨h.1, Nat.le_trans h.2 e⟩
theorem sh_ints (ns : List Int) : Sh 1 (.list (ns.map PyData.int)) := sh_list fun d hd => by
  obtain ⟨i, _, rfl⟩ := List.mem_map.mp hd
  exact sh_int i
theorem sh_enc (d : Debt) : Sh 1 (enc d) := sh_tuple fun e he => by
  simp only [encT, List.mem_cons, List.not_mem_nil, or_false] at he
  rcases he with rfl | rfl | rfl <;> exact sh_int _
theorem sh_encs (ds : List Debt) : Sh 2 (.list (encs ds)) := sh_list fun d hd => by
  obtain ⟨e, _, rfl⟩ := List.mem_map.mp hd
  exact sh_enc e
theorem eqv_self {d : PyData} {k : Nat} (h : Sh k d) : PyData.eqv d d = true := SeqAt.eqv_refl d h.1
theorem eqvAll_ints : ∀ ns ms : List Int, PyData.eqvAll (ns.map PyData.int) (ms.map PyData.int) = decide (ns = ms)
  | [], [] => by simp [PyData.eqvAll]
  | [], _ :: _ => by simp [PyData.eqvAll]
  | _ :: _, [] => by simp [PyData.eqvAll]
  | n :: ns, m :: ms => by
    have ih := eqvAll_ints ns ms
    simp only [List.map_cons]
    unfold PyData.eqvAll
    rw [ih]
    unfold PyData.eqv
    by_cases h1 : n = m
    · by_cases h2 : ns = ms
      · simp [h1, h2]
      · simp [h1, h2]
    · simp [h1]
theorem eqv_ints (ns ms : List Int) : PyData.eqv (.list (ns.map PyData.int)) (.list (ms.map PyData.int)) = decide (ns = ms) := by
  unfold PyData.eqv
  exact eqvAll_ints ns ms
theorem eqv_intsL {K : PySem.W.Frag} {H : Hp} {a : Addr} {ns : List Int} (h : SqL K H a (ns.map V.int)) : Dp K H (.ref a) (.list (ns.map PyData.int)) := .lst h (dpA_ints ns)

/-! ### balances -/
def addAt (l : List Int) (i x : Int) : List Int := l.set i.toNat (l.getD i.toNat 0 + x)
def balStep (l : List Int) (d : Debt) : List Int := addAt (addAt l d.1 (-d.2.2)) d.2.1 d.2.2
def bal (n : Int) (ds : List Debt) : List Int := ds.foldl balStep (List.replicate n.toNat 0)
theorem addAt_len (l : List Int) (i x : Int) : (addAt l i x).length = l.length := List.length_set
theorem balStep_len (l : List Int) (d : Debt) : (balStep l d).length = l.length := by
  unfold balStep
  rw [addAt_len, addAt_len]
theorem balFold_len : ∀ (ds : List Debt) (l : List Int), (ds.foldl balStep l).length = l.length
  | [], _ => rfl
  | d :: ds, l => by
    rw [List.foldl_cons, balFold_len ds, balStep_len]
theorem bal_len (n : Int) (ds : List Debt) : (bal n ds).length = n.toNat := by
  unfold bal
  rw [balFold_len, List.length_replicate]
theorem bal_take {n : Int} {ds : List Debt} {i : Nat} {d : Debt} (h : ds[i]? = some d) : bal n (ds.take (i + 1)) = balStep (bal n (ds.take i)) d := by
  unfold bal
  rw [List.take_add_one, h, List.foldl_append]
  rfl
/-- the houses of a debt are houses -/
structure InB (n : Int) (d : Debt) : Prop where
  a0 : 0 ≤ d.1
  an : d.1 < n
  b0 : 0 ≤ d.2.1
  bn : d.2.1 < n
theorem Good.inb {n : Int} {d : Debt} (h : Good n d) : InB n d := ⟨h.a0, h.an, h.b0, h.bn⟩
/-- reading and storing an item of a list of ints -/
theorem at_int {l : List Int} {i : Int} (h0 : 0 ≤ i) (h1 : i < (l.length : Int)) : atI (l.map V.int) i = some (.int (l.getD i.toNat 0)) := by
  refine at_of (j := i.toNat) (by omega) ?_
  rw [List.getElem?_map, List.getD_eq_getElem?_getD, List.getElem?_eq_getElem (by omega)]
  rfl
theorem ix_int {l : List Int} {i : Int} (h0 : 0 ≤ i) (h1 : i < (l.length : Int)) : ixN (l.map V.int).length i = some i.toNat := by
  rw [List.length_map]
  unfold ixN
  rw [if_pos h0, if_pos h1]
theorem set_int {l : List Int} {j : Nat} {x : Int} : (l.map V.int).set j (.int x) = (l.set j x).map V.int := by
  rw [List.map_set]
/-! ### relations by name -/
def rLenQ (K : PySem.W.Frag) : List V → Hp → VK → Prop := fun xs H Q => ∃ p ys, xs = [.ref p] ∧ (SqL K H p ys ∨ SqT K H p ys) ∧ Q (.int ys.length) H
def rListQ (K : PySem.W.Frag) : List V → Hp → VK → Prop := fun xs H Q => ∃ p ys, xs = [.ref p] ∧ (SqL K H p ys ∨ SqT K H p ys) ∧ ∀ l, H l = none → Q (.ref l) (upd H l (.lst ys))
def rTupQ (K : PySem.W.Frag) : List V → Hp → VK → Prop := fun xs H Q => ∃ p ys, xs = [.ref p] ∧ ((SqL K H p ys ∧ ∀ l, H l = none → Q (.ref l) (upd H l (.tup ys))) ∨ (SqT K H p ys ∧ Q (.ref p) H))
end Cd

/-! Clearday: a def of the law that is handed the error which is handled. -/
namespace Cd
open PySem PySem.Spec PyProof.Rows L2

/-- as Cal, for a def that is called within an except suite; its promise knows the object of the handled error -/
structure CalE (P : Program) (w : World) (K : PySem.W.Frag) (mg : Str → Option Value) (base : Heap) (k : Nat) (x : Str) (ps : List Str) (sp : Addr × Obj → Sp) : Prop where
  ex : ∃ f fd, mg x = some (.ref f) ∧ PySem.W.keepIn K (.ref f) = true ∧ Binds K fd ps [] ∧ (∀ p vs H Q E, sp p vs H Q E → vs.length = ps.length) ∧
    ∀ (A : Around) (outer : List Env) (s : Shared) (H : Hp) (args : Args) (us : List Value) (vs : List V) (Q : VK) (E : XK) (p : Addr × Obj), L2H.RoomH k A → L2H.Hot1 A p → L2H.PinOk outer H s p →
      Env0 P w K mg base A outer s H → BindsTo s fd args (ps.zip us) → Vals vs us → sp p vs H Q E → codeAny (model P w) A (.call (.ref f) args) (CR CX0 outer P w H s Q E) s
section
variable {P : Program} {w : World} {K : PySem.W.Frag} {mg : Str → Option Value} {base : Heap}
theorem DefAt.okE {x : Str} {st : Stmt} {N ps : List Str} {k : Nat} {sp : Addr × Obj → Sp} (D : DefAt K mg x st) (S : FnScope N ps (defScope st)) (hb : BindsBy x st ps) (len : ∀ p vs H Q E, sp p vs H Q E → vs.length = ps.length)
    (hbody : ∀ (f : Addr) (cdv : Value) (A : Around) (outer : List Env) (s : Shared) (H : Hp) (vs : List V) (Q : VK) (E : XK) (p : Addr × Obj), L2H.Hot1 A p → L2H.RoomH k (A.deeper (envOfC x (defScope st) s.heap.objs.size f cdv)) → sp p vs H Q E →
      ∃ t, PSs (L2H.cxH CX0 P w K mg base N x (defScope st) f cdv A outer s H E p).nox (defBody st) t ∧ t { nx := fun _ H' => Q .non H', rt := Q } (L2.start N vs) H) : CalE P w K mg base (k + 1) x ps sp := by
  obtain ⟨f, fd, F, m⟩ := D
  obtain ⟨oc, od, kV, doc, pm, an, cdv, ct, osl, rfl, lk, hcd⟩ := F.ex
  refine ⟨f, _, m, F.kp, F.binds hb, len, fun A outer s H args us vs Q E p room hot pin e0 bt rel hsp => ?_⟩
  have kin : K.In s.heap := e0.mod.kin.keeps fun b o e => (e0.bs b o e).1
  have nolim : s.heap.NoLimit := e0.mod.nolimit.keeps fun b o e => (e0.bs b o e).1
  have kinds : ∀ y ∈ ps.zip us, (defScope st).names.lookup y.1 = some .local ∨ ((defScope st).names.lookup y.1 = some .cell ∧ ((cellsFrom (s.heap.objs.size + 1) (defScope st).names []).lookup y.1).isSome = true) := by
    rintro ⟨n, v⟩ hy
    rcases S.par n (List.of_mem_zip hy).1 with q | q
    · exact Or.inl q
    · exact Or.inr ⟨q, PySem.W.cellsFrom_some _ _ _ (Or.inl q)⟩
  refine codeAny_call_function room.depth (kin _ _ lk) rfl S.co S.gen rfl (PySem.W.codeRec_of kin hcd) (bt _ _ _ _ ?_)
  refine wpAny_newFunctionEnv_cells S.kind kinds fun env he s1 inc => ?_
  subst he
  refine ⟨nolim.keeps inc.toInCall.keep, codeAny_func ?_⟩
  obtain ⟨t, ht, hq⟩ := hbody f cdv A outer s H vs Q E p hot (room.deeper _) hsp
  have I0 : Inv (L2H.cxH CX0 P w K mg base N x (defScope st) f cdv A outer s H E p) [] (L2.start N vs) H s1 := L2H.inv_startH S pin e0 (len _ _ _ _ _ hsp) rel inc
  refine wpAny_mono (ht.nox.run [] s1 (L2.start N vs) H _ I0 hq) (fun fl s2 hs => ?_) fun e s2 hs => hs
  cases fl with
  | ret u =>
    obtain ⟨v, σ2, H2, J, rv, q⟩ := hs
    exact ⟨v, H2, J.os, J.bare, J.base, J.hok, rv, q⟩
  | next =>
    obtain ⟨σ2, H2, J, q⟩ := hs
    exact ⟨V.non, H2, J.os, J.bare, J.base, J.hok, rfl, q⟩
  | brk =>
    obtain ⟨_, _, _, q⟩ := hs
    exact q.elim
  | cont =>
    obtain ⟨_, _, _, q⟩ := hs
    exact q.elim
end
section
variable {X : Cx} {k : Nat} {ps : List Str} {sp : Addr × Obj → Sp} {x : Str} {q pos : Pos} {e : Expr} {es : List Expr} {t : TA} {p : Addr × Obj}
theorem pe_calE (c : CalE X.prog X.w X.K X.mg X.base k x ps sp) (hr : L2H.RoomH k X.A) (hot : L2H.Hot1 X.A p) (hp : p ∈ X.pn) (hg : Gl X x) (ha : PA X (e :: es) t) (hdb : (x == ("__debug__" : Str)) = false := by decide)
    (he : starEach (e :: es) X.env = (false, eval e X.env) :: starEach es X.env := by rfl) (hpl : (backTo pos (starEach es X.env)).any (·.1) = false := by rfl) :
    PE X (.Call (.Name x q) (e :: es) [] pos) (fun σ H Q => t σ H fun vs H1 => sp p vs H1 Q E0) := by
  obtain ⟨f, fd, m, kp, hb, len, run⟩ := c.ex
  refine ⟨fun pins s σ H Q I h => ?_⟩
  refine wpAny_Call_Name_kw (ld_glob I hg m ?_ hdb)
  refine PySem.W.callWith_K (h₀ := X.base) I.ok.mod.kin kp (thn (ha.run pos pins s σ H _ I h) fun us s1 hv => ?_) he hpl
  obtain ⟨vs, H1, I1, r, hsp⟩ := hv
  refine ⟨I1.kIn, ?_⟩
  have hl : us.length = ps.length := by
    rw [← r.length]
    exact len _ _ _ _ _ hsp
  have bt := hb s1 us I1.kIn (by rw [List.append_nil]; exact hl)
  rw [List.append_nil] at bt
  have pin1 := I1.pin p (List.mem_append_left _ hp)
  have pin : L2H.PinOk X.stack H1 s1 p := ⟨pin1.1, pin1.2.1, fun hm => (List.mem_cons.mp (I1.stkSub p.1 hm)).elim pin1.2.2.1 pin1.2.2.2.1, pin1.2.2.2.2⟩
  show wpAny _ _ (call (.ref f) us) _ _ _
  refine wpAny_call (codeAny_mono (run X.A X.stack s1 H1 ⟨us, []⟩ us vs Q E0 p hr hot pin I1.env0 bt r hsp) fun r2 s2 hq => ?_)
  cases r2 with
  | error e2 => exact False.elim hq
  | ok fl =>
    cases fl with
    | ret u => exact I1.after hq
    | next => exact False.elim hq
    | brk => exact False.elim hq
    | cont => exact False.elim hq
/-- isinstance(e, c), e the handled error, kept by a pin of the context -/
theorem call_isP {D : Addr} (C : ExcC X.K D) (hp : p ∈ X.pn) (hz : Zc (.ref D) none p.2) (hf : ∃ vs, p.2.data = .fields vs) : CallR X (.builtin "isinstance") (rIsE X.K D p.1) := by
  intro pins s σ H xs us Q I r h
  obtain ⟨c, cv, b, rfl, hcv, e, q⟩ := h
  obtain ⟨u1, u2, rfl, r1, r2⟩ := vals2 r
  have e1 : u1 = Value.ref p.1 := r1
  have e2 := hcv _ r2
  subst e1 e2
  have pin1 := I.pin p (List.mem_append_left _ hp)
  obtain ⟨vs, hv⟩ := hf
  have at_ : PySem.W.InstAt s.heap p.1 p.2 D none := by
    have h0 := pin1.1
    obtain ⟨a, oc, od, oda, osl⟩ := p
    obtain ⟨z1, z2⟩ := hz
    dsimp only at z1 z2 hv h0
    subst z1 z2 hv
    exact ⟨h0, rfl, rfl, trivial⟩
  exact PySem.W.kia_one (PySem.W.handS_kitx_exc C.hg C.hk C.hs C.hd C.ha C.hn C.ht C.hm) I.kIn at_ e (fun z => nomatch z) fun tk => ⟨.bl b, H, I.tok tk, rfl, q⟩
end
/-- the nine classes of refusals -/
structure Nine (mg : Str → Option Value) (C0 C1 C2 C3 C4 C5 C6 C7 C8 : Addr) : Prop where
  BadCount : mg "BadCount" = some (.ref C0)
  BadDebt : mg "BadDebt" = some (.ref C1)
  BadCut : mg "BadCut" = some (.ref C2)
  Uneven : mg "Uneven" = some (.ref C3)
  BadPrices : mg "BadPrices" = some (.ref C4)
  NotBest : mg "NotBest" = some (.ref C5)
  NoDebt : mg "NoDebt" = some (.ref C6)
  NoHouse : mg "NoHouse" = some (.ref C7)
  BadAmount : mg "BadAmount" = some (.ref C8)
theorem nine_mk {K : PySem.W.Frag} {mg : Str → Option Value} {h : Heap} {C0 C1 C2 C3 C4 C5 C6 C7 C8 : Addr} (X : K.In h) (G : h.Ns mainGlobals mg) (a0 : PySem.W.nsIn K mainGlobals "BadCount" = some (some (.ref C0))) (a1 : PySem.W.nsIn K mainGlobals "BadDebt" = some (some (.ref C1))) (a2 : PySem.W.nsIn K mainGlobals "BadCut" = some (some (.ref C2)))
    (a3 : PySem.W.nsIn K mainGlobals "Uneven" = some (some (.ref C3))) (a4 : PySem.W.nsIn K mainGlobals "BadPrices" = some (some (.ref C4))) (a5 : PySem.W.nsIn K mainGlobals "NotBest" = some (some (.ref C5))) (a6 : PySem.W.nsIn K mainGlobals "NoDebt" = some (some (.ref C6)))
    (a7 : PySem.W.nsIn K mainGlobals "NoHouse" = some (some (.ref C7))) (a8 : PySem.W.nsIn K mainGlobals "BadAmount" = some (some (.ref C8))) : Nine mg C0 C1 C2 C3 C4 C5 C6 C7 C8 :=
  ⟨PySem.W.mg_of X G a0, PySem.W.mg_of X G a1, PySem.W.mg_of X G a2, PySem.W.mg_of X G a3, PySem.W.mg_of X G a4, PySem.W.mg_of X G a5, PySem.W.mg_of X G a6, PySem.W.mg_of X G a7, PySem.W.mg_of X G a8⟩
/-- what the class D of an error says of the nine and of ValueError: it is the i-th alone -/
structure KindF (K : PySem.W.Frag) (C0 C1 C2 C3 C4 C5 C6 C7 C8 D : Addr) (i : Nat) : Prop where
  c : ExcC K D
  v : PySem.W.kitOne K (.ref D) (.type "ValueError") = some true
  k0 : PySem.W.kitOne K (.ref D) (.ref C0) = some (i == 0)
  k1 : PySem.W.kitOne K (.ref D) (.ref C1) = some (i == 1)
  k2 : PySem.W.kitOne K (.ref D) (.ref C2) = some (i == 2)
  k3 : PySem.W.kitOne K (.ref D) (.ref C3) = some (i == 3)
  k4 : PySem.W.kitOne K (.ref D) (.ref C4) = some (i == 4)
  k5 : PySem.W.kitOne K (.ref D) (.ref C5) = some (i == 5)
  k6 : PySem.W.kitOne K (.ref D) (.ref C6) = some (i == 6)
  k7 : PySem.W.kitOne K (.ref D) (.ref C7) = some (i == 7)
  k8 : PySem.W.kitOne K (.ref D) (.ref C8) = some (i == 8)
theorem kit_ref {K : PySem.W.Frag} {D C : Addr} {b : Bool} (ht : PySem.W.typeIn K (.ref C) = some (.type "type")) (hc : PySem.W.isClsIn K C = true) (hs : PySem.W.subIn K (.ref D) (.ref C) = some b) (hd : D = C → b = true) : PySem.W.kitOne K (.ref D) (.ref C) = some b := by
  unfold PySem.W.kitOne
  by_cases e : D = C
  · rw [hd e, e, if_pos (beq_self_eq_true _)]
  · rw [if_neg (fun z => e (Value.ref.inj (beq_iff_eq.mp z)))]
    unfold PySem.W.kitCls
    have hc' : (PySem.W.clsIn K C).isSome = true := hc
    dsimp only
    rw [hc', ht, if_pos (by rfl)]
    exact hs
theorem kit_val {K : PySem.W.Frag} {D : Addr} (hs : PySem.W.subIn K (.ref D) (.type "ValueError") = some true) : PySem.W.kitOne K (.ref D) (.type "ValueError") = some true := by
  unfold PySem.W.kitOne
  rw [if_neg (fun z => Value.noConfusion (beq_iff_eq.mp z))]
  unfold PySem.W.kitCls
  dsimp only
  rw [if_pos (show PySem.W.kitMeta "ValueError" = true by decide +kernel)]
  exact hs
def wordOf (i : Nat) : Str := (["count", "debt", "cut", "uneven", "prices", "not best", "number", "house", "amount"] : List Str).getD i "other"
/-- that an error of the class D is caught by the clause over DebtError (at S) -/
structure CatchF (K : PySem.W.Frag) (S D : Addr) : Prop where
  b : PySem.W.subIn K (.ref S) (.type "BaseException") = some true
  d : PySem.W.hasDictIn K S = true
  t : PySem.W.typeIn K (.ref S) = some (.type "type")
  s : PySem.W.subIn K (.ref D) (.ref S) = some true
theorem CatchF.m {K : PySem.W.Frag} {S D : Addr} (c : CatchF K S D) : PySem.W.exmOne K (.ref D) (.ref S) = some true := PySem.W.exm_ref c.b c.d c.t c.s
def spKind (K : PySem.W.Frag) (C0 C1 C2 C3 C4 C5 C6 C7 C8 : Addr) (p : Addr × Obj) : Sp := fun vs H Q _ => vs = [.ref p.1] ∧ ∃ (C : Addr) (i : Nat), L2N.Zn (.ref C) none p.2 ∧ (∃ vs, p.2.data = .fields vs) ∧ KindF K C0 C1 C2 C3 C4 C5 C6 C7 C8 C i ∧ i < 9 ∧ ∀ H', Same H H' → Q (.str (wordOf i)) H'
section
variable {X : Cx} {q pos npos : Pos} {i : Nat} {a : Addr} {oe : Obj} {cls : Value} {d : Option Addr} {pn : List (Addr × Obj)} {C0 C1 C2 C3 C4 C5 C6 C7 C8 : Addr} {x : Str} {k : Nat} {te : TE}
/-- what _law_kind(e) asks in the suite that holds the error at a -/
def tKind (K : PySem.W.Frag) (C0 C1 C2 C3 C4 C5 C6 C7 C8 a : Addr) (cls : Value) (d : Option Addr) (i : Nat) : TE := fun σ H Q => σ[i]? = some (some (.ref a)) ∧ ∃ (C : Addr) (j : Nat), cls = .ref C ∧ d = none ∧ KindF K C0 C1 C2 C3 C4 C5 C6 C7 C8 C j ∧ j < 9 ∧ ∀ H', Same H H' → Q (.str (wordOf j)) H'
theorem pe_kind (hz : L2N.Zn cls d oe) (hf : ∃ vs, oe.data = .fields vs) (c : CalE X.prog X.w X.K X.mg X.base 1 "_law_kind" ["_law_error"] (spKind X.K C0 C1 C2 C3 C4 C5 C6 C7 C8)) (hr : Room 1 X.A)
    (hg : Gl (X.suite a ((a, oe) :: pn)) "_law_kind") (he : PE (X.suite a ((a, oe) :: pn)) (.Name x npos) (tVar i)) :
    PE (X.suite a ((a, oe) :: pn)) (.Call (.Name "_law_kind" q) [.Name x npos] [] pos) (tKind X.K C0 C1 C2 C3 C4 C5 C6 C7 C8 a cls d i) := by
  obtain ⟨vs, hv⟩ := hf
  have hot : L2H.Hot1 (X.suite a ((a, oe) :: pn)).A (a, oe) := ⟨rfl, vs, hv, hz.2.2 vs hv⟩
  have hrm : L2H.RoomH 1 (X.suite a ((a, oe) :: pn)).A := ⟨hr.dp, hr.un⟩
  refine ⟨fun pins s σ H Q I h => ?_⟩
  obtain ⟨hx, C, j, rfl, rfl, kf, hj, k⟩ := h
  exact (pe_calE (X := X.suite a ((a, oe) :: pn)) (p := (a, oe)) c hrm hot List.mem_cons_self hg (pa_cons he pa_nil)).run pins s σ H Q I ⟨_, hx, rfl, C, j, hz, ⟨vs, hv⟩, kf, hj, k⟩
theorem takesN : L2N.Takes X (fun _ _ _ _ => False) := fun _ _ x => by
  obtain ⟨_, _, _, _, _, _, _, _, _, _, _, _, _, _, _, _, z⟩ := x
  exact z.elim
end
section
variable {X : Cx} {CX : CXT} {k : Nat} {ps : List Str} {sp : Sp} {E : L2.St → XK} {x : Str} {p pos : Pos} {e : Expr} {es : List Expr} {t : TA}
/-- a call in a try's body -/
theorem pe_calS (c : Cal X.prog X.w X.K X.mg X.base CX k x ps sp) (hr : Room k X.A) (hg : Gl X x) (hx : ∀ σ, PassesAt CX X σ (E σ)) (ha : PA X (e :: es) t) (hdb : (x == ("__debug__" : Str)) = false := by decide)
    (he : starEach (e :: es) X.env = (false, eval e X.env) :: starEach es X.env := by rfl) (hpl : (backTo pos (starEach es X.env)).any (·.1) = false := by rfl) : PE X (.Call (.Name x p) (e :: es) [] pos) (tCallS sp E t) := by
  obtain ⟨f, fd, F, m, kp, b, _⟩ := c.ex
  exact pe_callS F hr hg m kp b hx ha hdb he hpl
end
end Cd

/-! Clearday: what an expression gives, as data. -/
namespace Cd
open PySem PySem.Spec PyProof.Rows L2

/-- te gives the data d, whatever has come to the heap; all that stood stands -/
def EvD (K : PySem.W.Frag) (te : TE) (σ : L2.St) (H : Hp) (d : PyData) : Prop := ∀ H1, Same H H1 → ∀ Q : VK, (∀ v H2, Same H1 H2 → Dp K H2 v d → Q v H2) → te σ H1 Q
def EvDA (K : PySem.W.Frag) (ta : TA) (σ : L2.St) (H : Hp) (ds : List PyData) : Prop := ∀ H1, Same H H1 → ∀ Q : List V → Hp → Prop, (∀ vs H2, Same H1 H2 → DpAll K H2 vs ds → Q vs H2) → ta σ H1 Q
/-- te gives a list that may be changed -/
def EvL (K : PySem.W.Frag) (te : TE) (σ : L2.St) (H : Hp) (ds : List PyData) : Prop := ∀ H1, Same H H1 → ∀ Q : VK, (∀ p vs H2, Same H1 H2 → H2 p = some (.lst vs) → DpAll K H2 vs ds → Q (.ref p) H2) → te σ H1 Q
/-- a new one -/
def EvM (K : PySem.W.Frag) (te : TE) (σ : L2.St) (H : Hp) (ds : List PyData) : Prop := ∀ H1, Same H H1 → ∀ Q : VK, (∀ p vs H2, Same H1 H2 → H1 p = none → H2 p = some (.lst vs) → DpAll K H2 vs ds → Q (.ref p) H2) → te σ H1 Q
section
variable {K : PySem.W.Frag} {σ : L2.St} {H H' : Hp} {te ta tb : TE} {ts us : TA} {ds es : List PyData} {d e : PyData} {v : V} {i : Nat}
theorem EvM.l (h : EvM K te σ H ds) : EvL K te σ H ds := fun H1 s Q q => h H1 s Q fun p vs H2 s2 _ e a => q p vs H2 s2 e a
theorem EvL.dat (h : EvL K te σ H ds) : EvD K te σ H (.list ds) := fun H1 s Q q => h H1 s Q fun p vs H2 s2 e a => q _ H2 s2 (.lst (SqL.of e) a)
theorem EvM.dat (h : EvM K te σ H ds) : EvD K te σ H (.list ds) := h.l.dat
theorem evd_int (j : Int) : EvD K (tC (.int j)) σ H (.int j) := fun H1 _ _ q => q _ H1 (Same.refl H1) (.int j)
theorem evd_bl (b : Bool) : EvD K (tC (.bl b)) σ H (.bool b) := fun H1 _ _ q => q _ H1 (Same.refl H1) (.bl b)
theorem evd_str (x : Str) : EvD K (tC (.str x)) σ H (.str x) := fun H1 _ _ q => q _ H1 (Same.refl H1) (.str x)
theorem evd_non : EvD K (tC .non) σ H .none := fun H1 _ _ q => q _ H1 (Same.refl H1) .non
theorem evd_var (h : σ[i]? = some (some v)) (hd : Dp K H v d) : EvD K (tVar i) σ H d := fun H1 s _ q => ⟨v, h, q v H1 (Same.refl H1) (s.dp hd)⟩
theorem evd_vint {j : Int} (h : σ[i]? = some (some (.int j))) : EvD K (tVar i) σ H (.int j) := evd_var h (.int j)
theorem evl_var {p : Addr} {vs : List V} (h : σ[i]? = some (some (.ref p))) (hp : H p = some (.lst vs)) (ha : DpAll K H vs ds) : EvL K (tVar i) σ H ds := fun H1 s _ q => ⟨_, h, q p vs H1 (Same.refl H1) (s _ _ hp) (s.dpA ha)⟩
theorem evda_nil : EvDA K tNil σ H [] := fun H1 _ _ q => q [] H1 (Same.refl H1) .nil
theorem evda_cons (h : EvD K te σ H d) (hr : EvDA K ts σ H ds) : EvDA K (tCons te ts) σ H (d :: ds) := fun H1 s _ q => h H1 s _ fun v H2 s2 hd =>
  hr H2 (s.trans s2) _ fun vs H3 s3 ha => q _ H3 (s2.trans s3) (.cons (s3.dp hd) ha)
theorem evd_tup (h : EvDA K ts σ H ds) (hl : ds.length ≤ 100000) : EvD K (tTup ts) σ H (.tuple ds) := fun H1 s _ q => h H1 s _ fun vs H2 s2 ha =>
  ⟨szn (by rw [dpA_len ha]; exact hl), fun p hp => q _ _ (s2.trans (same_new hp)) (.tup (SqT.of upd_same) ((same_new hp).dpA ha))⟩
theorem evm_lst (h : EvDA K ts σ H ds) (hl : ds.length ≤ 100000) : EvM K (tLst ts) σ H ds := fun H1 s _ q => h H1 s _ fun vs H2 s2 ha =>
  ⟨szn (by rw [dpA_len ha]; exact hl), fun p hp => q p vs _ (s2.trans (same_new hp)) (s2.free hp) upd_same ((same_new hp).dpA ha)⟩
theorem evd_lst (h : EvDA K ts σ H ds) (hl : ds.length ≤ 100000) : EvD K (tLst ts) σ H (.list ds) := (evm_lst h hl).dat
theorem evm_cat (h1 : EvL K ta σ H ds) (h2 : EvL K tb σ H es) (hl : ds.length + es.length ≤ 100000) : EvM K (tOp rCat ta tb) σ H (ds ++ es) := fun H1 s _ q => h1 H1 s _ fun p vs H2 s2 e1 a1 =>
  h2 H2 (s.trans s2) _ fun p' vs' H3 s3 e2 a2 => ⟨p, p', vs, vs', rfl, rfl, s3 _ _ e1, e2, szn (by rw [dpA_len a1, dpA_len a2]; exact hl), fun l hl =>
    q l _ _ ((s2.trans s3).trans (same_new hl)) ((s2.trans s3).free hl) upd_same ((same_new hl).dpA (dpA_app (s3.dpA a1) a2))⟩
theorem evd_I0 {f : Int → Int → Int} {j k : Int} (h1 : EvD K ta σ H (.int j)) (h2 : EvD K tb σ H (.int k)) : EvD K (tOp (rI0 fun i j => .int (f i j)) ta tb) σ H (.int (f j k)) := fun H1 s _ q => h1 H1 s _ fun v H2 s2 d1 => by
  cases d1
  refine h2 H2 (s.trans s2) _ fun v H3 s3 d2 => ?_
  cases d2
  exact ⟨j, k, rfl, rfl, q _ H3 (s2.trans s3) (.int _)⟩
theorem evd_I {C : Int → Int → Prop} {f : Int → Int → Int} {j k : Int} (h1 : EvD K ta σ H (.int j)) (h2 : EvD K tb σ H (.int k)) (hc : C j k) : EvD K (tOp (rI C fun i j => .int (f i j)) ta tb) σ H (.int (f j k)) := fun H1 s _ q => h1 H1 s _ fun v H2 s2 d1 => by
  cases d1
  refine h2 H2 (s.trans s2) _ fun v H3 s3 d2 => ?_
  cases d2
  exact ⟨j, k, rfl, rfl, hc, q _ H3 (s2.trans s3) (.int _)⟩
theorem evd_neg {j : Int} (h : EvD K ta σ H (.int j)) : EvD K (tUn (rU fun i => .int (-i)) ta) σ H (.int (-j)) := fun H1 s _ q => h H1 s _ fun v H2 s2 d1 => by
  cases d1
  exact ⟨j, rfl, q _ H2 s2 (.int _)⟩
/-- an item of such a list -/
theorem evd_ix {j : Nat} {k : Int} (h1 : EvL K ta σ H ds) (h2 : EvD K tb σ H (.int k)) (hk : k = (j : Int)) (hj : ds[j]? = some d) : EvD K (tOp (rIxL K) ta tb) σ H d := fun H1 s _ q => h1 H1 s _ fun p vs H2 s2 e1 a1 =>
  h2 H2 (s.trans s2) _ fun v H3 s3 d2 => by
    cases d2
    obtain ⟨v, ev, hv⟩ := dpA_get' (s3.dpA a1) hj
    exact ⟨p, vs, k, v, rfl, rfl, SqL.of (s3 _ _ e1), at_of hk ev, q v H3 (s2.trans s3) hv⟩
theorem EvD.mono (h : EvD K te σ H d) (e : Same H H') : EvD K te σ H' d := fun H1 s Q q => h H1 (e.trans s) Q q
/-- name = e -/
theorem evd_asg {D : Ends} (h : EvD K te σ H d) (q : ∀ v H2, Same H H2 → Dp K H2 v d → D.nx (σ.set i (some v)) H2) : tAsg te (gName i) D σ H := h H (Same.refl H) _ q
theorem evm_asg {D : Ends} (h : EvM K te σ H ds) (q : ∀ p vs H2, Same H H2 → H p = none → H2 p = some (.lst vs) → DpAll K H2 vs ds → D.nx (σ.set i (some (.ref p))) H2) : tAsg te (gName i) D σ H := h H (Same.refl H) _ q
theorem lb {a b : Nat} (h : Nat.ble a b = true) : a ≤ b := Nat.le_of_ble_eq_true h
theorem evd_seq {D : Ends} {tu : TS} (h : EvD K te σ H d) (q : ∀ v H2, Same H H2 → Dp K H2 v d → tu D (σ.set i (some v)) H2) : tSeq (tAsg te (gName i)) tu D σ H := h H (Same.refl H) _ q
theorem evm_seq {D : Ends} {tu : TS} (h : EvM K te σ H ds) (q : ∀ p vs H2, Same H H2 → H p = none → H2 p = some (.lst vs) → DpAll K H2 vs ds → tu D (σ.set i (some (.ref p))) H2) : tSeq (tAsg te (gName i)) tu D σ H := h H (Same.refl H) _ q
theorem evd_ret {D : Ends} (h : EvD K te σ H d) (q : ∀ v H2, Same H H2 → Dp K H2 v d → D.rt v H2) : tRet te D σ H := h H (Same.refl H) _ q
end
/-! ### slices -/
theorem cut_take (xs : List V) {k : Int} (h : 0 ≤ k) : cutV xs none (some k) = xs.take k.toNat := by
  obtain ⟨j, rfl⟩ := Int.eq_ofNat_of_zero_le h
  unfold cutV
  rw [HT.sIx_none, HT.sIx_nat, List.drop_zero, Nat.sub_zero, Int.toNat_natCast]
  rcases Nat.le_total j xs.length with z | z
  · rw [Nat.min_eq_left z]
  · rw [Nat.min_eq_right z, List.take_length, List.take_of_length_le z]
theorem cut_drop (xs : List V) {k : Int} (h : 0 ≤ k) : cutV xs (some k) none = xs.drop k.toNat := by
  obtain ⟨j, rfl⟩ := Int.eq_ofNat_of_zero_le h
  unfold cutV
  rw [HT.sIx_none, HT.sIx_nat, Int.toNat_natCast]
  rcases Nat.le_total j xs.length with z | z
  · rw [Nat.min_eq_left z, List.take_of_length_le (by rw [List.length_drop]; exact Nat.le_refl _)]
  · rw [Nat.min_eq_right z, List.drop_of_length_le z, List.drop_of_length_le (Nat.le_refl _), List.take_nil]
section
variable {K : PySem.W.Frag} {σ : L2.St} {H H' : Hp} {te ta tb : TE} {ds : List PyData} {k : Int}
theorem evm_to (h1 : EvL K ta σ H ds) (h2 : EvD K tb σ H (.int k)) (hk : 0 ≤ k) : EvM K (tSl (rSlL K) ta tNoPart (tPart tb)) σ H (ds.take k.toNat) := fun H1 s _ q => h1 H1 s _ fun p vs H2 s2 e1 a1 =>
  h2 H2 (s.trans s2) _ fun v H3 s3 d2 => by
    cases d2
    refine ⟨k, rfl, p, vs, rfl, SqL.of (s3 _ _ e1), fun l hl => ?_⟩
    rw [cut_take vs hk]
    exact q l _ _ ((s2.trans s3).trans (same_new hl)) ((s2.trans s3).free hl) upd_same ((same_new hl).dpA (dpA_take _ (s3.dpA a1)))
theorem evm_from (h1 : EvL K ta σ H ds) (h2 : EvD K tb σ H (.int k)) (hk : 0 ≤ k) : EvM K (tSl (rSlL K) ta (tPart tb) tNoPart) σ H (ds.drop k.toNat) := fun H1 s _ q => h1 H1 s _ fun p vs H2 s2 e1 a1 =>
  h2 H2 (s.trans s2) _ fun v H3 s3 d2 => by
    cases d2
    refine ⟨k, rfl, p, vs, rfl, SqL.of (s3 _ _ e1), fun l hl => ?_⟩
    rw [cut_drop vs hk]
    exact q l _ _ ((s2.trans s3).trans (same_new hl)) ((s2.trans s3).free hl) upd_same ((same_new hl).dpA (dpA_drop _ (s3.dpA a1)))
end
/-- every law: at every script it gives True -/
def spLaw (K : PySem.W.Frag) : Sp := fun vs H Q _ => ∃ (a : Addr) (ns : List Int), vs = [.ref a] ∧ SqL K H a (ns.map V.int) ∧ ∀ H', Q (.bl true) H'
theorem dm_evl {K : PySem.W.Frag} {σ : L2.St} {H : Hp} {i : Nat} {p : Addr} {ds : List Debt} (h : σ[i]? = some (some (.ref p))) (hd : DM K H p ds) : EvL K (tVar i) σ H (encs ds) := by
  obtain ⟨vs, e, a⟩ := hd
  exact evl_var h e (dvs_dp a)
theorem encs_len (ds : List Debt) : (encs ds).length = ds.length := List.length_map _
theorem encs_take (ds : List Debt) (k : Nat) : (encs ds).take k = encs (ds.take k) := List.map_take.symm
theorem encs_drop (ds : List Debt) (k : Nat) : (encs ds).drop k = encs (ds.drop k) := List.map_drop.symm
end Cd

/-! Clearday: cuts. -/
namespace Cd
open PySem PySem.Spec PyProof.Rows L2

/-! ### any of a list of numbers -/
def someNot (ns : List Int) : Bool := ns.any fun n => n != 0
def rAnyI (K : PySem.W.Frag) : List V → Hp → VK → Prop := fun vs H Q => ∃ (a : Addr) (ns : List Int), vs = [V.ref a] ∧ SqL K H a (ns.map V.int) ∧ Q (.bl (someNot ns)) H
theorem any_places : ∀ ns : List Int, (List.range ns.length).any (fun i => ns.getD i 0 != 0) = someNot ns
  | [] => rfl
  | n :: ns => by
    have ih := any_places ns
    unfold someNot at ih ⊢
    rw [List.length_cons, List.range_succ_eq_map, List.any_cons, List.any_map, List.any_cons, ← ih]
    rfl
theorem truth_nums {prog : Program} {w : World} {A : Around} {ns : List Int} {its : List Value} (e : Vals (ns.map V.int) its) :
    TruthOf prog w A (fun i v => its.toArray[i]? = some v) (fun i => ns.getD i 0 != 0) := fun i v s Q E hv hq => by
  have hv' : its[i]? = some v := by simpa using hv
  have hl := e.length
  have hi : i < its.length := (List.getElem?_eq_some_iff.mp hv').1
  rw [List.length_map] at hl
  have e1 : (ns.map V.int)[i]? = some (.int (ns.getD i 0)) := by
    rw [List.getElem?_map, List.getD_eq_getElem?_getD, List.getElem?_eq_getElem (by omega)]
    rfl
  obtain ⟨u, eu, ru⟩ := e.get e1
  rw [hv'] at eu
  cases eu
  obtain ⟨tk, rfl⟩ := ru
  exact PyProof.Rows.truthy_int hq
theorem cr_anyI {X : Cx} (hc : X.calm = true) : CallR X (.builtin "any") (rAnyI X.K) := by
  intro pins s σ H vs us Q I r h
  obtain ⟨a, ns, rfl, hs, q⟩ := h
  obtain ⟨its, rv, hl, _⟩ := I.list hs
  rw [Vals.ref1 r]
  refine call_any_walk (iter_any hl.isList fun s2 e2 st hne => ?_)
  subst e2
  refine ⟨_, _, _, _, _, _, _, rfl, Walks.list (A := X.A.in1) (I.ok.hd hc) _ a hne its.toArray, st, truth_nums rv, fun h' tk hk => ?_⟩
  have kept : ∀ b o, s.heap.get? b = some o → h'.get? b = some o := fun b o eo => by
    refine hk b o (fun hm => ?_) (Heap.get?_push_of_some _ eo)
    rw [List.mem_singleton] at hm
    rw [hm] at eo
    exact absurd (Heap.lt_size eo) (Nat.lt_irrefl _)
  refine ⟨.bl _, H, I.kept kept, ?_, q⟩
  show Value.bool _ = Value.bool _
  have hn : its.toArray.size = ns.length := by
    rw [List.size_toArray, ← rv.length, List.length_map]
  rw [hn, any_places]

/-! ### what is a cut -/
/-- the numbers of a cut lie within their bounds -/
structure IsCut (ds : List Debt) (cs : List Int) : Prop where
  len : cs.length = ds.length
  at_ : ∀ (i : Nat) (d : Debt) (c : Int), ds[i]? = some d → cs[i]? = some c → 0 ≤ c ∧ c ≤ d.2.2
/-- as data: what check_cut looks at -/
def okCut (ds : List Debt) (d : PyData) : Bool := match d with
  | .list es => decide (es.length = ds.length) && (List.range ds.length).all fun i => isNum (es.getD i .none) 0 ((ds.getD i (0, 0, 0)).2.2)
  | _ => false
/-- debts with other amounts -/
def withAmounts (ds : List Debt) (cs : List Int) : List Debt := ds.zipWith (fun d c => (d.1, d.2.1, c)) cs
/-- what is left -/
def leftOf (ds : List Debt) (cs : List Int) : List Debt := (ds.zip cs).filterMap fun p => if p.2 < p.1.2.2 then some (p.1.1, p.1.2.1, p.1.2.2 - p.2) else none
def evenB (n : Int) (ds : List Debt) (cs : List Int) : Bool := !someNot (bal n (withAmounts ds cs))
theorem num_inv' {d : PyData} {lo hi : Int} (h : isNum d lo hi = true) : ∃ i, d = .int i ∧ lo ≤ i ∧ i ≤ hi := by
  cases d with
  | int i =>
    have h' : (decide (lo ≤ i) && decide (i ≤ hi)) = true := h
    rw [Bool.and_eq_true] at h'
    exact ⟨i, rfl, of_decide_eq_true h'.1, of_decide_eq_true h'.2⟩
  | _ => cases h
theorem okCut_inv {ds : List Debt} {d : PyData} (h : okCut ds d = true) : ∃ cs, d = .list (cs.map PyData.int) ∧ IsCut ds cs := by
  cases d with
  | list es =>
    have h' : (decide (es.length = ds.length) && (List.range ds.length).all fun i => isNum (es.getD i .none) 0 ((ds.getD i (0, 0, 0)).2.2)) = true := h
    rw [Bool.and_eq_true, List.all_eq_true] at h'
    have hl := of_decide_eq_true h'.1
    have hn : ∀ i, i < ds.length → isNum (es.getD i .none) 0 ((ds.getD i (0, 0, 0)).2.2) = true := fun i hi => h'.2 i (List.mem_range.mpr hi)
    refine ⟨es.map fun e => match e with | .int i => i | _ => 0, ?_, ?_, ?_⟩
    · congr 1
      refine List.ext_getElem (by rw [List.length_map, List.length_map]) fun i h1 h2 => ?_
      obtain ⟨k, e, _⟩ := num_inv' (hn i (by omega))
      rw [List.getD_eq_getElem?_getD, List.getElem?_eq_getElem h1] at e
      have e2 : es[i] = .int k := e
      rw [List.getElem_map, List.getElem_map, e2]
    · rw [List.length_map]
      exact hl
    · intro i d c e1 e2
      have hi : i < ds.length := (List.getElem?_eq_some_iff.mp e1).1
      obtain ⟨k, e, k0, k1⟩ := num_inv' (hn i hi)
      have h1 : i < es.length := by omega
      rw [List.getD_eq_getElem?_getD, List.getElem?_eq_getElem h1] at e
      have e3 : es[i] = .int k := e
      rw [List.getElem?_map, List.getElem?_eq_getElem h1, e3] at e2
      cases (Option.some.inj e2 : _ = _)
      rw [List.getD_eq_getElem?_getD, e1] at k1
      exact ⟨k0, k1⟩
  | _ => cases h
theorem okCut_of {ds : List Debt} {cs : List Int} (h : IsCut ds cs) : okCut ds (.list (cs.map PyData.int)) = true := by
  show (decide ((cs.map PyData.int).length = ds.length) && (List.range ds.length).all fun i => isNum ((cs.map PyData.int).getD i .none) 0 ((ds.getD i (0, 0, 0)).2.2)) = true
  rw [List.length_map, h.len, decide_eq_true rfl, Bool.true_and, List.all_eq_true]
  intro i hi
  have hi := List.mem_range.mp hi
  have hc : i < cs.length := by
    rw [h.len]
    exact hi
  have h1 := h.at_ i ds[i] cs[i] (List.getElem?_eq_getElem hi) (List.getElem?_eq_getElem hc)
  rw [List.getD_eq_getElem?_getD, List.getElem?_map, List.getElem?_eq_getElem hc, List.getD_eq_getElem?_getD, List.getElem?_eq_getElem hi]
  show (decide (0 ≤ cs[i]) && decide (cs[i] ≤ ds[i].2.2)) = true
  rw [decide_eq_true h1.1, decide_eq_true h1.2]
  rfl
/-- as zips, turn by turn -/
def leftZ (ps : List (Debt × Int)) : List Debt := ps.filterMap fun p => if p.2 < p.1.2.2 then some (p.1.1, p.1.2.1, p.1.2.2 - p.2) else none
theorem leftZ_add (ps : List (Debt × Int)) (d : Debt) (c : Int) : leftZ (ps ++ [(d, c)]) = leftZ ps ++ (if c < d.2.2 then [(d.1, d.2.1, d.2.2 - c)] else []) := by
  unfold leftZ
  rw [List.filterMap_append]
  congr 1
  by_cases h : c < d.2.2
  · rw [if_pos h]
    simp [h]
  · rw [if_neg h]
    simp [h]
theorem leftZ_len (ps : List (Debt × Int)) : (leftZ ps).length ≤ ps.length := List.length_filterMap_le _ _
theorem zip_take {ds : List Debt} {cs : List Int} {i : Nat} {d : Debt} {c : Int} (h1 : ds[i]? = some d) (h2 : cs[i]? = some c) : (ds.zip cs).take (i + 1) = (ds.zip cs).take i ++ [(d, c)] := by
  have h : (ds.zip cs)[i]? = some (d, c) := by
    rw [List.getElem?_zip_eq_some]
    exact ⟨h1, h2⟩
  rw [List.take_add_one, h]
  rfl
def amtZ (ps : List (Debt × Int)) : List Debt := ps.map fun p => (p.1.1, p.1.2.1, p.2)
theorem amtZ_add (ps : List (Debt × Int)) (d : Debt) (c : Int) : amtZ (ps ++ [(d, c)]) = amtZ ps ++ [(d.1, d.2.1, c)] := by
  unfold amtZ
  rw [List.map_append]
  rfl
theorem amtZ_zip : ∀ (ds : List Debt) (cs : List Int), amtZ (ds.zip cs) = withAmounts ds cs
  | [], _ => rfl
  | _ :: _, [] => rfl
  | d :: ds, c :: cs => by
    have ih := amtZ_zip ds cs
    unfold withAmounts amtZ at ih ⊢
    rw [List.zip_cons_cons, List.map_cons, List.zipWith_cons_cons, ih]
theorem amt_inb {n : Int} {ds : List Debt} {cs : List Int} (h : ∀ d ∈ ds, InB n d) : ∀ d ∈ withAmounts ds cs, InB n d := fun d hd => by
  rw [← amtZ_zip] at hd
  obtain ⟨p, hp, rfl⟩ := List.mem_map.mp hd
  have z := h p.1 (List.of_mem_zip hp).1
  exact ⟨z.a0, z.an, z.b0, z.bn⟩
theorem ints_get {cs : List Int} {i : Nat} {x : V} (h : (cs.map V.int)[i]? = some x) : ∃ c, cs[i]? = some c ∧ x = .int c := by
  rw [List.getElem?_map] at h
  cases e : cs[i]? with
  | none =>
    rw [e] at h
    cases h
  | some c =>
    rw [e] at h
    exact ⟨c, rfl, (Option.some.inj h).symm⟩
/-- data that is a list of numbers, as values -/
theorem dp_ints {K : PySem.W.Frag} {H : Hp} {v : V} {cs : List Int} (h : Dp K H v (.list (cs.map PyData.int))) : ∃ b, v = .ref b ∧ SqL K H b (cs.map V.int) := by
  cases h with
  | lst hs ha =>
    rw [dpA_ints_inv ha] at hs
    exact ⟨_, rfl, hs⟩
/-- amounts within their bounds -/
def Amts (ds : List Debt) : Prop := ∀ d ∈ ds, 0 ≤ d.2.2 ∧ d.2.2 ≤ 1000000000
end Cd

/-! Clearday: paths and rings of debts, even cuts. -/
namespace Cd
open PySem PySem.Spec PyProof.Rows L2

/-- the i-th debt -/
def dbt (ds : List Debt) (i : Nat) : Debt := ds.getD i (0, 0, 0)
theorem dbt_of {ds : List Debt} {i : Nat} {d : Debt} (h : ds[i]? = some d) : dbt ds i = d := by
  unfold dbt
  rw [List.getD_eq_getElem?_getD, h]
  rfl
theorem dbt_at {ds : List Debt} {i : Nat} (h : i < ds.length) : ds[i]? = some (dbt ds i) := by
  rw [List.getElem?_eq_getElem h, dbt_of (List.getElem?_eq_getElem h)]
/-- numbers of debts, as values -/
def idxV (r : List Nat) : List V := r.map fun i : Nat => V.int (i : Int)
def idxI (r : List Nat) : List Int := r.map fun i : Nat => (i : Int)
theorem idxV_ints (r : List Nat) : idxV r = (idxI r).map V.int := by
  unfold idxV idxI
  rw [List.map_map]
  rfl
theorem idxV_get {r : List Nat} {k : Nat} {x : V} (h : (idxV r)[k]? = some x) : ∃ i, r[k]? = some i ∧ x = .int (i : Int) := by
  unfold idxV at h
  rw [List.getElem?_map] at h
  cases e : r[k]? with
  | none =>
    rw [e] at h
    cases h
  | some i =>
    rw [e] at h
    exact ⟨i, rfl, (Option.some.inj h).symm⟩
theorem idxV_at {r : List Nat} {k i : Nat} (h : r[k]? = some i) : (idxV r)[k]? = some (.int (i : Int)) := by
  unfold idxV
  rw [List.getElem?_map, h]
  rfl
theorem idxV_len (r : List Nat) : (idxV r).length = r.length := List.length_map _

/-- each debt's creditor is the next one's debtor, no house is debtor twice -/
structure PathOf (ds : List Debt) (r : List Nat) : Prop where
  lt : ∀ i ∈ r, i < ds.length
  link : ∀ k i j, r[k]? = some i → r[k + 1]? = some j → (dbt ds i).2.1 = (dbt ds j).1
  nd : (r.map fun i => (dbt ds i).1).Nodup
structure RingOf (ds : List Debt) (r : List Nat) : Prop where
  path : PathOf ds r
  ne : 0 < r.length
  close : ∀ i j, r[0]? = some i → r[r.length - 1]? = some j → (dbt ds j).2.1 = (dbt ds i).1
theorem PathOf.drop {ds : List Debt} {r : List Nat} (h : PathOf ds r) (k : Nat) : PathOf ds (r.drop k) where
  lt := fun i hi => h.lt i (List.mem_of_mem_drop hi)
  link := fun m i j e1 e2 => by
    rw [List.getElem?_drop] at e1 e2
    exact h.link (k + m) i j e1 (by rw [Nat.add_assoc]; exact e2)
  nd := by
    rw [List.map_drop]
    exact h.nd.sublist (List.drop_sublist _ _)
theorem PathOf.snoc {ds : List Debt} {r : List Nat} {j : Nat} (h : PathOf ds r) (hj : j < ds.length) (hl : ∀ i, r[r.length - 1]? = some i → (dbt ds i).2.1 = (dbt ds j).1) (hn : ∀ i ∈ r, (dbt ds i).1 ≠ (dbt ds j).1) : PathOf ds (r ++ [j]) where
  lt := fun i hi => by
    rcases List.mem_append.mp hi with h1 | h1
    · exact h.lt i h1
    · rw [List.mem_singleton.mp h1]
      exact hj
  link := fun k x y e1 e2 => by
    have hk : k + 1 < (r ++ [j]).length := (List.getElem?_eq_some_iff.mp e2).1
    rw [List.length_append, List.length_singleton] at hk
    have hk' : k < r.length := by omega
    rw [List.getElem?_append_left hk'] at e1
    by_cases z : k + 1 < r.length
    · rw [List.getElem?_append_left z] at e2
      exact h.link k x y e1 e2
    · rw [List.getElem?_append_right (by omega)] at e2
      have e3 : k + 1 - r.length = 0 := by omega
      rw [e3] at e2
      cases (Option.some.inj e2 : _ = _)
      have e4 : r.length - 1 = k := by omega
      exact hl x (by rw [e4]; exact e1)
  nd := by
    rw [List.map_append, List.nodup_append]
    refine ⟨h.nd, List.nodup_cons.mpr ⟨List.not_mem_nil, List.nodup_nil⟩, ?_⟩
    intro a ha b hb
    rw [List.map_singleton, List.mem_singleton] at hb
    obtain ⟨i, hi, rfl⟩ := List.mem_map.mp ha
    rw [hb]
    exact hn i hi
theorem PathOf.one {ds : List Debt} {j : Nat} (hj : j < ds.length) : PathOf ds [j] where
  lt := fun i hi => by
    rw [List.mem_singleton.mp hi]
    exact hj
  link := fun k x y e1 e2 => by
    have := (List.getElem?_eq_some_iff.mp e2).1
    rw [List.length_singleton] at this
    omega
  nd := List.nodup_cons.mpr ⟨List.not_mem_nil, List.nodup_nil⟩
theorem nodup_of_map {α β : Type} {f : α → β} : ∀ {l : List α}, (l.map f).Nodup → l.Nodup
  | [], _ => List.nodup_nil
  | a :: l, h => by
    rw [List.map_cons, List.nodup_cons] at h
    exact List.nodup_cons.mpr ⟨fun z => h.1 (List.mem_map_of_mem z), nodup_of_map h.2⟩
theorem PathOf.idx {ds : List Debt} {r : List Nat} (h : PathOf ds r) : r.Nodup := nodup_of_map h.nd
/-- round a ring the creditors are the debtors -/
theorem RingOf.turn {ds : List Debt} {r : List Nat} (h : RingOf ds r) : r.map (fun i => (dbt ds i).2.1) = (r.map fun i => (dbt ds i).1).drop 1 ++ (r.map fun i => (dbt ds i).1).take 1 := by
  have hl := h.ne
  refine List.ext_getElem ?_ fun k h1 h2 => ?_
  · rw [List.length_append, List.length_drop, List.length_take, List.length_map, List.length_map]
    omega
  · rw [List.length_map] at h1
    rw [List.getElem_map]
    by_cases z : k + 1 < r.length
    · rw [List.getElem_append_left (by rw [List.length_drop, List.length_map]; omega), List.getElem_drop, List.getElem_map]
      have e := h.path.link k r[k] r[k + 1] (List.getElem?_eq_getElem h1) (List.getElem?_eq_getElem z)
      rw [e]
      congr 3
      omega
    · rw [List.getElem_append_right (by rw [List.length_drop, List.length_map]; omega), List.getElem_take, List.getElem_map]
      have e := h.close r[0] r[k] (List.getElem?_eq_getElem (by omega)) (by
        rw [List.getElem?_eq_getElem (by omega)]
        congr 2
        omega)
      rw [e]
      congr 3
      rw [List.length_drop, List.length_map]
      omega
theorem RingOf.counts {ds : List Debt} {r : List Nat} (h : RingOf ds r) (x : Int) : (r.map fun i => (dbt ds i).2.1).count x = (r.map fun i => (dbt ds i).1).count x := by
  rw [h.turn, List.count_append]
  have e : (r.map fun i => (dbt ds i).1).count x = ((r.map fun i => (dbt ds i).1).take 1 ++ (r.map fun i => (dbt ds i).1).drop 1).count x := by
    rw [List.take_append_drop]
  rw [e, List.count_append]
  omega

/-! ### what a cut cuts off a house -/
def sumBy (f : Debt → Int) (h : Int) (ds : List Debt) (cs : List Int) : Int := ((ds.zip cs).map fun p => if f p.1 = h then p.2 else 0).sum
/-- even: off what a house owes as much as off what is owed to it -/
def EvenC (ds : List Debt) (cs : List Int) : Prop := ∀ h, sumBy (fun d => d.1) h ds cs = sumBy (fun d => d.2.1) h ds cs
theorem sumBy_set (f : Debt → Int) (h : Int) : ∀ {ds : List Debt} {cs : List Int} {i : Nat} {d : Debt} {c : Int} (x : Int), ds[i]? = some d → cs[i]? = some c →
    sumBy f h ds (cs.set i x) = sumBy f h ds cs + if f d = h then x - c else 0
  | [], cs, i, d, c, x, h1, h2 => by simp at h1
  | d0 :: ds, [], i, d, c, x, h1, h2 => by simp at h2
  | d0 :: ds, c0 :: cs, 0, d, c, x, h1, h2 => by
    cases (Option.some.inj h1 : _ = _)
    cases (Option.some.inj h2 : _ = _)
    unfold sumBy
    rw [List.set_cons_zero, List.zip_cons_cons, List.zip_cons_cons, List.map_cons, List.map_cons, List.sum_cons, List.sum_cons]
    dsimp only
    split <;> omega
  | d0 :: ds, c0 :: cs, i + 1, d, c, x, h1, h2 => by
    have ih := sumBy_set f h (ds := ds) (cs := cs) (i := i) x h1 h2
    unfold sumBy at ih ⊢
    rw [List.set_cons_succ, List.zip_cons_cons, List.zip_cons_cons, List.map_cons, List.map_cons, List.sum_cons, List.sum_cons, ih]
    omega
/-- m less at each place of r -/
def subAt (rs : List Int) (m : Int) (r : List Nat) : List Int := r.foldl (fun l i => l.set i (l.getD i 0 - m)) rs
theorem subAt_len (m : Int) : ∀ (r : List Nat) (rs : List Int), (subAt rs m r).length = rs.length
  | [], _ => rfl
  | i :: r, rs => by
    show (subAt (rs.set i (rs.getD i 0 - m)) m r).length = rs.length
    rw [subAt_len m r, List.length_set]
theorem subAt_add (rs : List Int) (m : Int) (r : List Nat) (i : Nat) : subAt rs m (r ++ [i]) = (subAt rs m r).set i ((subAt rs m r).getD i 0 - m) := by
  unfold subAt
  rw [List.foldl_append]
  rfl
theorem subAt_get (m : Int) : ∀ (r : List Nat) (rs : List Int) (i : Nat), r.Nodup → i < rs.length → (subAt rs m r).getD i 0 = if i ∈ r then rs.getD i 0 - m else rs.getD i 0
  | [], rs, i, _, _ => by
    rw [if_neg List.not_mem_nil]
    rfl
  | j :: r, rs, i, hn, hi => by
    rw [List.nodup_cons] at hn
    show (subAt (rs.set j (rs.getD j 0 - m)) m r).getD i 0 = _
    rw [subAt_get m r _ i hn.2 (by rw [List.length_set]; exact hi)]
    by_cases e : i = j
    · subst e
      have z : (rs.set i (rs.getD i 0 - m)).getD i 0 = rs.getD i 0 - m := by
        rw [List.getD_eq_getElem?_getD, List.getElem?_set_self hi]
        rfl
      rw [if_neg hn.1, z, if_pos List.mem_cons_self]
    · have z : (rs.set j (rs.getD j 0 - m)).getD i 0 = rs.getD i 0 := by
        rw [List.getD_eq_getElem?_getD, List.getElem?_set_ne (fun q => e q.symm), ← List.getD_eq_getElem?_getD]
      rw [z]
      by_cases hm : i ∈ r
      · rw [if_pos hm, if_pos (List.mem_cons_of_mem _ hm)]
      · rw [if_neg hm, if_neg (fun q => (List.mem_cons.mp q).elim e hm)]
/-- the cut that leaves this room -/
def cutOf (ds : List Debt) (rs : List Int) : List Int := ds.zipWith (fun d r => d.2.2 - r) rs
theorem cutOf_len {ds : List Debt} {rs : List Int} (h : rs.length = ds.length) : (cutOf ds rs).length = ds.length := by
  unfold cutOf
  rw [List.length_zipWith]
  omega
theorem cutOf_get {ds : List Debt} {rs : List Int} {i : Nat} {d : Debt} {x : Int} (h1 : ds[i]? = some d) (h2 : rs[i]? = some x) : (cutOf ds rs)[i]? = some (d.2.2 - x) := by
  unfold cutOf
  rw [List.getElem?_zipWith, h1, h2]
theorem cutOf_set {ds : List Debt} : ∀ {rs : List Int} {i : Nat} {d : Debt} {x : Int}, ds[i]? = some d → cutOf ds (rs.set i x) = (cutOf ds rs).set i (d.2.2 - x) := by
  induction ds with
  | nil => intro rs i d x h; simp at h
  | cons d0 ds ih =>
    intro rs i d x h
    cases rs with
    | nil => rfl
    | cons r0 rs =>
      cases i with
      | zero =>
        cases (Option.some.inj h : _ = _)
        rfl
      | succ i =>
        have e := ih (rs := rs) (i := i) (x := x) h
        show (d0.2.2 - r0) :: cutOf ds (rs.set i x) = (d0.2.2 - r0) :: (cutOf ds rs).set i (d.2.2 - x)
        rw [e]
/-- what is so cut off more, by houses -/
theorem sumBy_sub (f : Debt → Int) (h : Int) (m : Int) {ds : List Debt} : ∀ (r : List Nat) (rs : List Int), rs.length = ds.length → (∀ i ∈ r, i < ds.length) →
    sumBy f h ds (cutOf ds (subAt rs m r)) = sumBy f h ds (cutOf ds rs) + m * ((r.map fun i => f (dbt ds i)).count h : Nat)
  | [], rs, _, _ => by
    show sumBy f h ds (cutOf ds rs) = _
    rw [List.map_nil, List.count_nil]
    simp
  | i :: r, rs, hl, hr => by
    have hi := hr i List.mem_cons_self
    have e1 := dbt_at hi
    have e2 : rs[i]? = some (rs.getD i 0) := by
      rw [List.getD_eq_getElem?_getD, List.getElem?_eq_getElem (by omega)]
      rfl
    have ih := sumBy_sub f h m r (rs.set i (rs.getD i 0 - m)) (by rw [List.length_set]; exact hl) fun j hj => hr j (List.mem_cons_of_mem _ hj)
    show sumBy f h ds (cutOf ds (subAt (rs.set i (rs.getD i 0 - m)) m r)) = _
    rw [ih, cutOf_set e1, sumBy_set f h _ e1 (cutOf_get e1 e2), List.map_cons, List.count_cons]
    by_cases z : f (dbt ds i) = h
    · rw [if_pos z, if_pos (by rw [z]; exact beq_self_eq_true h)]
      have e3 : m * (((r.map fun i => f (dbt ds i)).count h + 1 : Nat) : Int) = m * ((r.map fun i => f (dbt ds i)).count h : Nat) + m := by
        rw [Int.natCast_add, Int.mul_add]
        simp
      omega
    · rw [if_neg z, if_neg (by intro q; exact z (beq_iff_eq.mp q))]
      simp
/-- room: what can still be cut off; an even cut is behind it -/
structure RoomOk (ds : List Debt) (rs : List Int) : Prop where
  len : rs.length = ds.length
  at_ : ∀ i, i < ds.length → 0 ≤ rs.getD i 0 ∧ rs.getD i 0 ≤ (dbt ds i).2.2
  even : EvenC ds (cutOf ds rs)
theorem RoomOk.sub {ds : List Debt} {rs : List Int} {r : List Nat} {m : Int} (h : RoomOk ds rs) (hr : RingOf ds r) (m0 : 0 ≤ m) (hm : ∀ i ∈ r, m ≤ rs.getD i 0) : RoomOk ds (subAt rs m r) where
  len := by rw [subAt_len, h.len]
  at_ := fun i hi => by
    have z := h.at_ i hi
    rw [subAt_get m r rs i hr.path.idx (by rw [h.len]; exact hi)]
    by_cases q : i ∈ r
    · rw [if_pos q]
      have := hm i q
      omega
    · rw [if_neg q]
      exact z
  even := fun x => by
    rw [sumBy_sub (fun d => d.1) x m r rs h.len hr.path.lt, sumBy_sub (fun d => d.2.1) x m r rs h.len hr.path.lt, h.even x, hr.counts x]
theorem RoomOk.cut {ds : List Debt} {rs : List Int} (h : RoomOk ds rs) : IsCut ds (cutOf ds rs) where
  len := cutOf_len h.len
  at_ := fun i d c e1 e2 => by
    have hi := (List.getElem?_eq_some_iff.mp e1).1
    have z := h.at_ i hi
    rw [dbt_of e1] at z
    have e3 : rs[i]? = some (rs.getD i 0) := by
      rw [List.getD_eq_getElem?_getD, List.getElem?_eq_getElem (by rw [h.len]; exact hi)]
      rfl
    rw [cutOf_get e1 e3] at e2
    cases (Option.some.inj e2 : _ = _)
    omega
theorem roomOk_start {ds : List Debt} (h : ∀ d ∈ ds, 0 ≤ d.2.2) : RoomOk ds (ds.map fun d => d.2.2) where
  len := List.length_map _
  at_ := fun i hi => by
    have e : (ds.map fun d => d.2.2).getD i 0 = (dbt ds i).2.2 := by
      rw [List.getD_eq_getElem?_getD, List.getElem?_map, dbt_at hi]
      rfl
    rw [e]
    exact ⟨h _ (List.mem_of_getElem? (dbt_at hi)), Int.le_refl _⟩
  even := fun x => by
    have zero : ∀ (f : Debt → Int) (l : List Debt), sumBy f x l (cutOf l (l.map fun d => d.2.2)) = 0 := by
      intro f l
      induction l with
      | nil => rfl
      | cons d l ih =>
        unfold sumBy cutOf at ih ⊢
        rw [List.map_cons, List.zipWith_cons_cons, List.zip_cons_cons, List.map_cons, List.sum_cons, ih]
        dsimp only
        split <;> omega
    rw [zero, zero]
end Cd

/-! Clearday: balances as sums, even cuts, prices. -/
namespace Cd
open PySem PySem.Spec PyProof.Rows L2

/-! ### a balance is a sum -/
theorem getD_set (l : List Int) (i h : Nat) (x : Int) (hi : i < l.length) : (l.set i x).getD h 0 = if i = h then x else l.getD h 0 := by
  by_cases e : i = h
  · subst e
    rw [if_pos rfl, List.getD_eq_getElem?_getD, List.getElem?_set_self hi]
    rfl
  · rw [if_neg e, List.getD_eq_getElem?_getD, List.getElem?_set_ne e, ← List.getD_eq_getElem?_getD]
theorem addAt_get (l : List Int) (i x : Int) (h : Nat) (i0 : 0 ≤ i) (hi : i < l.length) : (addAt l i x).getD h 0 = l.getD h 0 + if i = (h : Int) then x else 0 := by
  unfold addAt
  rw [getD_set l i.toNat h _ (by omega)]
  by_cases e : i = (h : Int)
  · have e2 : i.toNat = h := by omega
    rw [if_pos e, if_pos e2, e2]
  · rw [if_neg e, if_neg (by omega), Int.add_zero]
/-- what a debt does to the balance of a house -/
def moves (h : Int) (d : Debt) : Int := (if d.2.1 = h then d.2.2 else 0) - (if d.1 = h then d.2.2 else 0)
theorem balStep_get {n : Int} (l : List Int) (d : Debt) (h : Nat) (hl : l.length = n.toNat) (hd : InB n d) : (balStep l d).getD h 0 = l.getD h 0 + moves h d := by
  obtain ⟨a0, an, b0, bn⟩ := hd
  unfold balStep moves
  rw [addAt_get _ _ _ _ b0 (by rw [addAt_len]; omega), addAt_get _ _ _ _ a0 (by omega)]
  split <;> split <;> omega
theorem balFold_get {n : Int} (h : Nat) : ∀ (ds : List Debt) (l : List Int), l.length = n.toNat → (∀ d ∈ ds, InB n d) → (ds.foldl balStep l).getD h 0 = l.getD h 0 + (ds.map (moves h)).sum
  | [], l, _, _ => by
    show l.getD h 0 = l.getD h 0 + 0
    omega
  | d :: ds, l, hl, hd => by
    rw [List.foldl_cons, balFold_get h ds _ (by rw [balStep_len]; exact hl) (fun e he => hd e (List.mem_cons_of_mem _ he)), balStep_get l d h hl (hd d List.mem_cons_self), List.map_cons, List.sum_cons]
    omega
theorem bal_get {n : Int} {ds : List Debt} (hd : ∀ d ∈ ds, InB n d) (h : Nat) : (bal n ds).getD h 0 = (ds.map (moves h)).sum := by
  unfold bal
  rw [balFold_get h ds _ (List.length_replicate) hd]
  have : (List.replicate n.toNat (0 : Int)).getD h 0 = 0 := by
    rw [List.getD_eq_getElem?_getD, List.getElem?_replicate]
    split <;> rfl
  omega
theorem someNot_iff (ns : List Int) : someNot ns = false ↔ ∀ h : Nat, ns.getD h 0 = 0 := by
  unfold someNot
  rw [List.any_eq_false]
  constructor
  · intro h k
    by_cases hk : k < ns.length
    · have z := h ns[k] (List.getElem_mem hk)
      rw [List.getD_eq_getElem?_getD, List.getElem?_eq_getElem hk]
      show ns[k] = 0
      simpa using z
    · rw [List.getD_eq_getElem?_getD, List.getElem?_eq_none (by omega)]
      rfl
  · intro h x hx
    obtain ⟨k, hk, rfl⟩ := List.getElem_of_mem hx
    have z := h k
    rw [List.getD_eq_getElem?_getD, List.getElem?_eq_getElem hk] at z
    have z' : ns[k] = 0 := z
    simp [z']
/-- the same, by houses -/
theorem sum_moves (h : Int) : ∀ (ds : List Debt) (cs : List Int), ((withAmounts ds cs).map (moves h)).sum = sumBy (fun d => d.2.1) h ds cs - sumBy (fun d => d.1) h ds cs
  | [], _ => rfl
  | _ :: _, [] => rfl
  | d :: ds, c :: cs => by
    have ih := sum_moves h ds cs
    unfold sumBy withAmounts at ih ⊢
    rw [List.zipWith_cons_cons, List.map_cons, List.sum_cons, ih, List.zip_cons_cons, List.map_cons, List.map_cons, List.sum_cons, List.sum_cons]
    unfold moves
    dsimp only
    omega
theorem sumBy_out (f : Debt → Int) (h : Int) : ∀ {ds : List Debt} (cs : List Int), (∀ d ∈ ds, f d ≠ h) → sumBy f h ds cs = 0
  | [], _, _ => rfl
  | _ :: _, [], _ => rfl
  | d :: ds, c :: cs, hn => by
    have ih := sumBy_out f h cs fun e he => hn e (List.mem_cons_of_mem _ he)
    unfold sumBy at ih ⊢
    rw [List.zip_cons_cons, List.map_cons, List.sum_cons, ih, if_neg (hn d List.mem_cons_self)]
    rfl
theorem evenB_iff {n : Int} {ds : List Debt} {cs : List Int} (hd : ∀ d ∈ ds, InB n d) : evenB n ds cs = true ↔ EvenC ds cs := by
  unfold evenB
  rw [Bool.not_eq_true', someNot_iff]
  have e : ∀ h : Nat, (bal n (withAmounts ds cs)).getD h 0 = sumBy (fun d => d.2.1) h ds cs - sumBy (fun d => d.1) h ds cs := fun h => by
    rw [bal_get (amt_inb hd), sum_moves]
  constructor
  · intro h x
    by_cases x0 : 0 ≤ x
    · obtain ⟨k, rfl⟩ := Int.eq_ofNat_of_zero_le x0
      have z := h k
      rw [e k] at z
      show sumBy (fun d => d.1) (k : Int) ds cs = sumBy (fun d => d.2.1) (k : Int) ds cs
      omega
    · rw [sumBy_out _ _ _ (fun d hd' => by have := (hd d hd').a0; omega), sumBy_out _ _ _ (fun d hd' => by have := (hd d hd').b0; omega)]
  · intro h k
    rw [e k]
    have z := h k
    omega

/-! ### prices -/
def lure (p : Int → Int) (d : Debt) : Int := 1 + p d.1 - p d.2.1
/-- what a cut gives, each number times g -/
def weigh (g : Debt → Int) (ds : List Debt) (cs : List Int) : Int := ((ds.zip cs).map fun q => q.2 * g q.1).sum
theorem weigh_cons (g : Debt → Int) (d : Debt) (ds : List Debt) (c : Int) (cs : List Int) : weigh g (d :: ds) (c :: cs) = c * g d + weigh g ds cs := by
  unfold weigh
  rw [List.zip_cons_cons, List.map_cons, List.sum_cons]
theorem sum_pick (p : Int → Int) (x c : Int) : ∀ n : Nat, 0 ≤ x → ((List.range n).map fun h : Nat => p h * (if x = (h : Int) then c else 0)).sum = if x < n then c * p x else 0
  | 0, x0 => by
    rw [if_neg (by omega)]
    rfl
  | n + 1, x0 => by
    rw [List.range_succ, List.map_append, List.sum_append, sum_pick p x c n x0, List.map_singleton, List.sum_singleton]
    by_cases h1 : x < (n : Int)
    · rw [if_pos h1, if_neg (by omega), if_pos (by omega)]
      simp
    · by_cases h2 : x = (n : Int)
      · rw [if_neg h1, if_pos h2, if_pos (by omega), h2, Int.mul_comm]
        simp
      · rw [if_neg h1, if_neg h2, if_neg (by omega)]
        simp
theorem sum_add {α : Type} (f g : α → Int) : ∀ l : List α, (l.map fun x => f x + g x).sum = (l.map f).sum + (l.map g).sum
  | [] => rfl
  | a :: l => by
    rw [List.map_cons, List.map_cons, List.map_cons, List.sum_cons, List.sum_cons, List.sum_cons, sum_add f g l]
    omega
theorem weigh_houses (p : Int → Int) (f : Debt → Int) (n : Nat) : ∀ (ds : List Debt) (cs : List Int), (∀ d ∈ ds, 0 ≤ f d ∧ f d < n) →
    weigh (fun d => p (f d)) ds cs = ((List.range n).map fun h : Nat => p h * sumBy f h ds cs).sum
  | [], cs, _ => by
    have : ∀ l : List Nat, (l.map fun h : Nat => p h * sumBy f h [] cs).sum = 0 := fun l => by
      induction l with
      | nil => rfl
      | cons a l ih =>
        rw [List.map_cons, List.sum_cons, ih]
        show p a * 0 + 0 = 0
        simp
    rw [this]
    rfl
  | d :: ds, [], _ => by
    have : ∀ l : List Nat, (l.map fun h : Nat => p h * sumBy f h (d :: ds) []).sum = 0 := fun l => by
      induction l with
      | nil => rfl
      | cons a l ih =>
        rw [List.map_cons, List.sum_cons, ih]
        show p a * 0 + 0 = 0
        simp
    rw [this]
    rfl
  | d :: ds, c :: cs, hd => by
    have ih := weigh_houses p f n ds cs fun e he => hd e (List.mem_cons_of_mem _ he)
    have hx := hd d List.mem_cons_self
    rw [weigh_cons, ih]
    have e : ∀ h : Nat, p h * sumBy f h (d :: ds) (c :: cs) = p h * (if f d = (h : Int) then c else 0) + p h * sumBy f h ds cs := fun h => by
      unfold sumBy
      rw [List.zip_cons_cons, List.map_cons, List.sum_cons, Int.mul_add]
    have e2 : ((List.range n).map fun h : Nat => p h * sumBy f h (d :: ds) (c :: cs)) = (List.range n).map fun h : Nat => p h * (if f d = (h : Int) then c else 0) + p h * sumBy f h ds cs := List.map_congr_left fun h _ => e h
    rw [e2, sum_add, sum_pick p (f d) c n hx.1, if_pos hx.2]
theorem weigh_even {n : Int} {ds : List Debt} {cs : List Int} (hd : ∀ d ∈ ds, InB n d) (he : EvenC ds cs) (p : Int → Int) : weigh (fun d => p d.1) ds cs = weigh (fun d => p d.2.1) ds cs := by
  rw [weigh_houses p (fun d => d.1) n.toNat ds cs (fun d h => ⟨(hd d h).a0, by have := (hd d h).an; have := (hd d h).a0; omega⟩), weigh_houses p (fun d => d.2.1) n.toNat ds cs (fun d h => ⟨(hd d h).b0, by have := (hd d h).bn; have := (hd d h).b0; omega⟩)]
  congr 1
  exact List.map_congr_left fun h _ => by rw [he h]
theorem weigh_lure (p : Int → Int) : ∀ (ds : List Debt) (cs : List Int), cs.length = ds.length → weigh (lure p) ds cs = cs.sum + weigh (fun d => p d.1) ds cs - weigh (fun d => p d.2.1) ds cs
  | [], [], _ => rfl
  | d :: ds, c :: cs, h => by
    have ih := weigh_lure p ds cs (by simpa using h)
    rw [weigh_cons, weigh_cons, weigh_cons, ih, List.sum_cons]
    unfold lure
    rw [Int.mul_sub, Int.mul_add, Int.mul_one]
    omega
  | [], _ :: _, h => by cases h
  | _ :: _, [], h => by cases h
/-- the lures of what an even cut cuts off come to its worth -/
theorem lured_worth {n : Int} {ds : List Debt} {cs : List Int} (hd : ∀ d ∈ ds, InB n d) (he : EvenC ds cs) (hl : cs.length = ds.length) (p : Int → Int) : weigh (lure p) ds cs = cs.sum := by
  rw [weigh_lure p ds cs hl, weigh_even hd he p]
  omega
/-- prices show a cut -/
def Shows (p : Int → Int) (ds : List Debt) (cs : List Int) : Prop := ∀ (i : Nat) (d : Debt) (c : Int), ds[i]? = some d → cs[i]? = some c → (lure p d < 0 → c ≤ 0) ∧ (0 < lure p d → d.2.2 ≤ c)
theorem shows_most (p : Int → Int) : ∀ (ds : List Debt) (cs bs : List Int), IsCut ds cs → IsCut ds bs → Shows p ds cs → weigh (lure p) ds bs ≤ weigh (lure p) ds cs
  | [], _, _, _, _, _ => Int.le_refl _
  | d :: ds, [], _, h, _, _ => by cases h.len
  | d :: ds, _ :: _, [], _, h, _ => by cases h.len
  | d :: ds, c :: cs, b :: bs, hc, hb, hs => by
    have ih := shows_most p ds cs bs ⟨by simpa using hc.len, fun i d c e1 e2 => hc.at_ (i + 1) d c e1 e2⟩ ⟨by simpa using hb.len, fun i d c e1 e2 => hb.at_ (i + 1) d c e1 e2⟩ fun i d c e1 e2 => hs (i + 1) d c e1 e2
    rw [weigh_cons, weigh_cons]
    have z := hs 0 d c rfl rfl
    have zc := hc.at_ 0 d c rfl rfl
    have zb := hb.at_ 0 d b rfl rfl
    have : b * lure p d ≤ c * lure p d := by
      rcases Int.lt_trichotomy (lure p d) 0 with h | h | h
      · have c0 : c = 0 := by
          have := z.1 h
          omega
        rw [c0, Int.zero_mul]
        exact Int.mul_nonpos_of_nonneg_of_nonpos zb.1 (by omega)
      · rw [h, Int.mul_zero, Int.mul_zero]
        exact Int.le_refl _
      · have := z.2 h
        exact Int.mul_le_mul_of_nonneg_right (by omega) (by omega)
    omega
/-- an even cut that prices show is a best one -/
theorem shows_best {n : Int} {p : Int → Int} {ds : List Debt} {cs bs : List Int} (hd : ∀ d ∈ ds, InB n d) (hc : IsCut ds cs) (hs : Shows p ds cs) (he : EvenC ds cs) (hb : IsCut ds bs) (hbe : EvenC ds bs) : bs.sum ≤ cs.sum := by
  rw [← lured_worth hd he hc.len p, ← lured_worth hd hbe hb.len p]
  exact shows_most p ds cs bs hc hb hs
/-- by such prices each debt that is left leads to a dearer house -/
theorem left_rises {p : Int → Int} {ds : List Debt} {cs : List Int} (hs : Shows p ds cs) : ∀ d ∈ leftZ (ds.zip cs), p d.1 < p d.2.1 := by
  intro d hd
  unfold leftZ at hd
  obtain ⟨q, hq, e⟩ := List.mem_filterMap.mp hd
  obtain ⟨k, hk, eq⟩ := List.getElem_of_mem hq
  have hk' : k < ds.length ∧ k < cs.length := by
    rw [List.length_zip] at hk
    omega
  have eq' : q = (ds[k], cs[k]) := by
    rw [← eq, List.getElem_zip]
  by_cases h : q.2 < q.1.2.2
  · rw [if_pos h] at e
    have z := hs k ds[k] cs[k] (List.getElem?_eq_getElem hk'.1) (List.getElem?_eq_getElem hk'.2)
    rw [eq'] at h e
    have h' : cs[k] < ds[k].2.2 := h
    have e' := Option.some.inj e
    rw [← e']
    show p ds[k].1 < p ds[k].2.1
    have z2 := z.2
    unfold lure at z2
    by_cases q2 : 0 < 1 + p ds[k].1 - p ds[k].2.1
    · have := z2 q2
      omega
    · omega
  · rw [if_neg h] at e
    cases e
end Cd

/-! Clearday: heights that rise over what can still be cut off, and taken back. -/
namespace Cd
open PySem PySem.Spec PyProof.Rows L2

/-- from, to, how much dearer -/
abbrev Arc := Nat × Nat × Int
def arcs2 (d : Debt) (c : Int) : List Arc := (if c < d.2.2 then [(d.1.toNat, d.2.1.toNat, 1)] else []) ++ (if 0 < c then [(d.2.1.toNat, d.1.toNat, -1)] else [])
def arcsOf (ds : List Debt) (cs : List Int) : List Arc := (ds.zip cs).flatMap fun q => arcs2 q.1 q.2
def hAt (h : List Int) (i : Nat) : Int := h.getD i 0
def raises (h : List Int) (a : Arc) : Bool := decide (hAt h a.2.1 < hAt h a.1 + a.2.2)
def relax (s : List Int × Bool) (a : Arc) : List Int × Bool := if raises s.1 a then (s.1.set a.2.1 (hAt s.1 a.1 + a.2.2), true) else s
def turn (as : List Arc) (h : List Int) : List Int × Bool := as.foldl relax (h, false)
def settle (as : List Arc) : Nat → List Int → Bool
  | 0, _ => false
  | k + 1, h => if (turn as h).2 then settle as k (turn as h).1 else true

theorem relax_true (s : List Int × Bool) (a : Arc) (h : s.2 = true) : (relax s a).2 = true := by
  unfold relax
  split
  · rfl
  · exact h
theorem fold_true : ∀ (as : List Arc) (s : List Int × Bool), s.2 = true → (as.foldl relax s).2 = true
  | [], _, h => h
  | a :: as, s, h => fold_true as _ (relax_true s a h)
/-- where a turn raises nothing nothing is to be raised -/
theorem fold_still : ∀ (as : List Arc) (h : List Int), (as.foldl relax (h, false)).2 = false → (as.foldl relax (h, false)).1 = h ∧ ∀ a ∈ as, raises h a = false
  | [], _, _ => ⟨rfl, (fun _ z => nomatch z)⟩
  | a :: as, h, e => by
    rw [List.foldl_cons] at e ⊢
    cases r : raises h a with
    | true =>
      have : (relax (h, false) a).2 = true := by
        unfold relax
        rw [r]
        rfl
      rw [fold_true as _ this] at e
      cases e
    | false =>
      have e2 : relax (h, false) a = (h, false) := by
        unfold relax
        rw [r]
        rfl
      rw [e2] at e ⊢
      obtain ⟨z1, z2⟩ := fold_still as h e
      refine ⟨z1, fun b hb => ?_⟩
      rcases List.mem_cons.mp hb with rfl | hb
      · exact r
      · exact z2 b hb
theorem fold_none : ∀ (as : List Arc) (h : List Int), (∀ a ∈ as, raises h a = false) → as.foldl relax (h, false) = (h, false)
  | [], _, _ => rfl
  | a :: as, h, e => by
    have e2 : relax (h, false) a = (h, false) := by
      unfold relax
      rw [e a List.mem_cons_self]
      rfl
    rw [List.foldl_cons, e2]
    exact fold_none as h fun b hb => e b (List.mem_cons_of_mem _ hb)
/-- what comes to rest is a list of prices -/
theorem settle_prices (as : List Arc) : ∀ (k : Nat) (h : List Int), settle as k h = true → ∃ p : Nat → Int, ∀ a ∈ as, p a.1 + a.2.2 ≤ p a.2.1
  | 0, _, e => by cases e
  | k + 1, h, e => by
    unfold settle at e
    cases r : (turn as h).2 with
    | true =>
      rw [r] at e
      exact settle_prices as k _ e
    | false =>
      have z := (fold_still as h r).2
      refine ⟨hAt h, fun a ha => ?_⟩
      have := of_decide_eq_false (z a ha)
      omega

/-! ### it comes to rest where there are prices -/
section
variable {n : Nat} {p : Nat → Int} {as : List Arc}
structure Inv (n : Nat) (p : Nat → Int) (as : List Arc) (S : List Nat) (M : Int) (h : List Int) : Prop where
  len : h.length = n
  top : ∀ v ∈ S, M ≤ hAt h v - p v
  low : ∀ x, x < n → x ∉ S → hAt h x - p x ≤ M
  ins : ∀ a ∈ as, a.1 ∈ S → a.2.1 ∈ S → hAt h a.1 + a.2.2 ≤ hAt h a.2.1
  out : ∀ a ∈ as, a.1 ∈ S → a.2.1 ∉ S → hAt h a.1 + a.2.2 - p a.2.1 ≤ M
theorem hAt_set (h : List Int) (i k : Nat) (x : Int) (hi : i < h.length) : hAt (h.set i x) k = if i = k then x else hAt h k := getD_set h i k x hi
theorem relax_inv (hin : ∀ a ∈ as, a.1 < n ∧ a.2.1 < n) (hp : ∀ a ∈ as, p a.1 + a.2.2 ≤ p a.2.1) {S : List Nat} {M : Int} {s : List Int × Bool} (I : Inv n p as S M s.1) {a : Arc} (ha : a ∈ as) :
    Inv n p as S M (relax s a).1 ∧ (∀ v ∈ S, hAt (relax s a).1 v = hAt s.1 v) ∧ (∀ x, hAt s.1 x ≤ hAt (relax s a).1 x) ∧ hAt (relax s a).1 a.1 + a.2.2 ≤ hAt (relax s a).1 a.2.1 := by
  unfold relax
  cases r : raises s.1 a with
  | false =>
    have z := of_decide_eq_false r
    exact ⟨I, fun _ _ => rfl, fun _ => Int.le_refl _, by show hAt s.1 a.1 + a.2.2 ≤ hAt s.1 a.2.1; omega⟩
  | true =>
    have z := of_decide_eq_true r
    have hb := hin a ha
    have hpa := hp a ha
    have ne : a.2.1 ≠ a.1 := fun e => by
      rw [e] at z hpa
      omega
    have hS : a.2.1 ∉ S := fun q => by
      have t := I.top _ q
      by_cases q1 : a.1 ∈ S
      · have := I.ins a ha q1 q
        omega
      · have := I.low a.1 hb.1 q1
        omega
    have hM : hAt s.1 a.1 + a.2.2 - p a.2.1 ≤ M := by
      by_cases q1 : a.1 ∈ S
      · exact I.out a ha q1 hS
      · have := I.low a.1 hb.1 q1
        omega
    have at_ : ∀ k, hAt (s.1.set a.2.1 (hAt s.1 a.1 + a.2.2)) k = if a.2.1 = k then hAt s.1 a.1 + a.2.2 else hAt s.1 k := fun k => hAt_set _ _ _ _ (by rw [I.len]; exact hb.2)
    have same : ∀ v ∈ S, hAt (s.1.set a.2.1 (hAt s.1 a.1 + a.2.2)) v = hAt s.1 v := fun v hv => by
      rw [at_, if_neg (fun (e : a.2.1 = v) => hS (by rw [e]; exact hv))]
    show Inv n p as S M (s.1.set a.2.1 (hAt s.1 a.1 + a.2.2)) ∧ (∀ v ∈ S, hAt (s.1.set a.2.1 (hAt s.1 a.1 + a.2.2)) v = hAt s.1 v) ∧ (∀ x, hAt s.1 x ≤ hAt (s.1.set a.2.1 (hAt s.1 a.1 + a.2.2)) x) ∧ hAt (s.1.set a.2.1 (hAt s.1 a.1 + a.2.2)) a.1 + a.2.2 ≤ hAt (s.1.set a.2.1 (hAt s.1 a.1 + a.2.2)) a.2.1
    refine ⟨⟨?_, ?_, ?_, ?_, ?_⟩, same, ?_, ?_⟩
    · rw [List.length_set]
      exact I.len
    · intro v hv
      rw [same v hv]
      exact I.top v hv
    · intro x hx hxS
      rw [at_]
      by_cases e : a.2.1 = x
      · rw [if_pos e, ← e]
        exact hM
      · rw [if_neg e]
        exact I.low x hx hxS
    · intro b hb h1 h2
      rw [same _ h1, same _ h2]
      exact I.ins b hb h1 h2
    · intro b hb h1 h2
      rw [same _ h1]
      exact I.out b hb h1 h2
    · intro x
      rw [at_]
      by_cases e : a.2.1 = x
      · rw [if_pos e, ← e]
        omega
      · rw [if_neg e]
        exact Int.le_refl _
    · rw [at_, at_, if_neg ne, if_pos rfl]
      exact Int.le_refl _
theorem fold_inv (hin : ∀ a ∈ as, a.1 < n ∧ a.2.1 < n) (hp : ∀ a ∈ as, p a.1 + a.2.2 ≤ p a.2.1) {S : List Nat} {M : Int} : ∀ (l : List Arc) (s : List Int × Bool), (∀ a ∈ l, a ∈ as) → Inv n p as S M s.1 →
    Inv n p as S M (l.foldl relax s).1 ∧ (∀ v ∈ S, hAt (l.foldl relax s).1 v = hAt s.1 v) ∧ (∀ x, hAt s.1 x ≤ hAt (l.foldl relax s).1 x) ∧ ∀ a ∈ l, a.1 ∈ S → hAt (l.foldl relax s).1 a.1 + a.2.2 ≤ hAt (l.foldl relax s).1 a.2.1
  | [], s, _, I => ⟨I, fun _ _ => rfl, fun _ => Int.le_refl _, (fun _ h => nomatch h)⟩
  | a :: l, s, hl, I => by
    obtain ⟨I1, s1, m1, r1⟩ := relax_inv hin hp I (hl a List.mem_cons_self)
    obtain ⟨I2, s2, m2, r2⟩ := fold_inv hin hp l (relax s a) (fun b hb => hl b (List.mem_cons_of_mem _ hb)) I1
    rw [List.foldl_cons]
    refine ⟨I2, fun v hv => by rw [s2 v hv, s1 v hv], fun x => Int.le_trans (m1 x) (m2 x), fun b hb hS => ?_⟩
    rcases List.mem_cons.mp hb with rfl | hb
    · rw [s2 _ hS]
      exact Int.le_trans r1 (m2 _)
    · exact r2 b hb hS
theorem max_of (f : Nat → Int) : ∀ l : List Nat, l ≠ [] → ∃ m ∈ l, ∀ x ∈ l, f x ≤ f m
  | [], h => absurd rfl h
  | [a], _ => ⟨a, List.mem_cons_self, fun x hx => by rw [List.mem_singleton.mp hx]; exact Int.le_refl _⟩
  | a :: b :: l, _ => by
    obtain ⟨m, hm, hx⟩ := max_of f (b :: l) (by simp)
    by_cases h : f a ≤ f m
    · exact ⟨m, List.mem_cons_of_mem _ hm, fun x hx' => (List.mem_cons.mp hx').elim (fun e => e ▸ h) (hx x)⟩
    · exact ⟨a, List.mem_cons_self, fun x hx' => (List.mem_cons.mp hx').elim (fun e => e ▸ Int.le_refl _) fun q => by have := hx x q; omega⟩
theorem all_in {S : List Nat} (hn : S.Nodup) (hs : ∀ v ∈ S, v < n) (hl : n ≤ S.length) : ∀ x, x < n → x ∈ S := by
  intro x hx
  by_cases h : x ∈ S
  · exact h
  · have z : (x :: S).Nodup := List.nodup_cons.mpr ⟨h, hn⟩
    have y : (x :: S).length ≤ (List.range n).length := List.Nodup.length_le_of_subset z fun i hi => by
      rcases List.mem_cons.mp hi with rfl | hi
      · exact List.mem_range.mpr hx
      · exact List.mem_range.mpr (hs i hi)
    rw [List.length_range, List.length_cons] at y
    omega
theorem inv_more {S : List Nat} {M : Int} {h : List Int} (hin : ∀ a ∈ as, a.1 < n ∧ a.2.1 < n) (hp : ∀ a ∈ as, p a.1 + a.2.2 ≤ p a.2.1) (I : Inv n p as S M h) (R : ∀ a ∈ as, a.1 ∈ S → hAt h a.1 + a.2.2 ≤ hAt h a.2.1) (hs : ∀ v ∈ S, v < n) (hl : S.length < n) :
    ∃ v, v < n ∧ v ∉ S ∧ Inv n p as (v :: S) (hAt h v - p v) h := by
  have ne : (List.range n).filter (fun x => decide (x ∉ S)) ≠ [] := fun e => by
    have sub : ∀ x ∈ List.range n, x ∈ S := fun x hx => by
      have := (List.filter_eq_nil_iff.mp e) x hx
      simpa using this
    have y : (List.range n).length ≤ S.length := List.Nodup.length_le_of_subset List.nodup_range sub
    rw [List.length_range] at y
    omega
  obtain ⟨v, hv, hmax⟩ := max_of (fun x => hAt h x - p x) _ ne
  rw [List.mem_filter, List.mem_range] at hv
  have hvS : v ∉ S := of_decide_eq_true hv.2
  have mx : ∀ x, x < n → x ∉ S → hAt h x - p x ≤ hAt h v - p v := fun x hx hxS => hmax x (List.mem_filter.mpr ⟨List.mem_range.mpr hx, decide_eq_true hxS⟩)
  have lv := I.low v hv.1 hvS
  refine ⟨v, hv.1, hvS, ⟨I.len, ?_, ?_, ?_, ?_⟩⟩
  · intro u hu
    rcases List.mem_cons.mp hu with rfl | hu
    · exact Int.le_refl _
    · exact Int.le_trans lv (I.top u hu)
  · intro x hx hxS
    exact mx x hx fun q => hxS (List.mem_cons_of_mem _ q)
  · intro a ha h1 h2
    have hpa := hp a ha
    rcases List.mem_cons.mp h1 with e1 | h1
    · rcases List.mem_cons.mp h2 with e2 | h2
      · rw [e1, e2] at hpa ⊢
        omega
      · have := I.top _ h2
        rw [e1] at hpa ⊢
        omega
    · exact R a ha h1
  · intro a ha h1 h2
    have hpa := hp a ha
    have h2' : a.2.1 ∉ S := fun q => h2 (List.mem_cons_of_mem _ q)
    rcases List.mem_cons.mp h1 with e1 | h1
    · rw [e1] at hpa ⊢
      omega
    · have := R a ha h1
      have := mx a.2.1 (hin a ha).2 h2'
      omega
theorem settle_all (hin : ∀ a ∈ as, a.1 < n ∧ a.2.1 < n) (hp : ∀ a ∈ as, p a.1 + a.2.2 ≤ p a.2.1) : ∀ (k : Nat) (S : List Nat) (M : Int) (h : List Int), Inv n p as S M h → S.Nodup → (∀ v ∈ S, v < n) → n ≤ S.length + k → settle as (k + 1) h = true
  | 0, S, M, h, I, hn, hs, hl => by
    have al := all_in hn hs (by omega)
    unfold settle turn
    rw [fold_none as h fun a ha => decide_eq_false (by
      have := I.ins a ha (al _ (hin a ha).1) (al _ (hin a ha).2)
      omega)]
    rfl
  | k + 1, S, M, h, I, hn, hs, hl => by
    unfold settle
    obtain ⟨I2, _, _, R⟩ := fold_inv hin hp as (h, false) (fun _ ha => ha) I
    cases r : (turn as h).2 with
    | false => rfl
    | true =>
      show settle as (k + 1) (turn as h).1 = true
      by_cases z : S.length < n
      · obtain ⟨v, hv, hvS, I3⟩ := inv_more hin hp I2 R hs z
        refine settle_all hin hp k (v :: S) _ _ I3 (List.nodup_cons.mpr ⟨hvS, hn⟩) (fun u hu => ?_) ?_
        · rcases List.mem_cons.mp hu with rfl | hu
          · exact hv
          · exact hs u hu
        · rw [List.length_cons]
          omega
      · exact settle_all hin hp k S M _ I2 hn hs (by omega)
theorem settle_rest (hin : ∀ a ∈ as, a.1 < n ∧ a.2.1 < n) (hp : ∀ a ∈ as, p a.1 + a.2.2 ≤ p a.2.1) {h : List Int} (hl : h.length = n) : settle as (n + 1) h = true := by
  have : ∃ M, ∀ x, x < n → hAt h x - p x ≤ M := by
    by_cases z : n = 0
    · exact ⟨0, fun x hx => by omega⟩
    · obtain ⟨m, _, hm⟩ := max_of (fun x => hAt h x - p x) (List.range n) (fun e => z (by simpa using e))
      exact ⟨_, fun x hx => hm x (List.mem_range.mpr hx)⟩
  obtain ⟨M, hM⟩ := this
  exact settle_all hin hp n [] M h ⟨hl, (fun _ q => nomatch q), fun x hx _ => hM x hx, (fun _ _ q => nomatch q), (fun _ _ q => nomatch q)⟩ List.nodup_nil (fun _ q => nomatch q) (by simp)
end

/-! ### prices and arcs -/
theorem arcs_mem {ds : List Debt} {cs : List Int} {a : Arc} : a ∈ arcsOf ds cs ↔ ∃ (i : Nat) (d : Debt) (c : Int), ds[i]? = some d ∧ cs[i]? = some c ∧ a ∈ arcs2 d c := by
  unfold arcsOf
  rw [List.mem_flatMap]
  constructor
  · rintro ⟨q, hq, ha⟩
    obtain ⟨k, hk, rfl⟩ := List.getElem_of_mem hq
    have hk' : k < ds.length ∧ k < cs.length := by
      rw [List.length_zip] at hk
      omega
    rw [List.getElem_zip] at ha
    exact ⟨k, ds[k], cs[k], List.getElem?_eq_getElem hk'.1, List.getElem?_eq_getElem hk'.2, ha⟩
  · rintro ⟨i, d, c, e1, e2, ha⟩
    refine ⟨(d, c), ?_, ha⟩
    refine List.mem_of_getElem? (i := i) ?_
    rw [List.getElem?_zip_eq_some]
    exact ⟨e1, e2⟩
theorem arcs2_mem {d : Debt} {c : Int} {a : Arc} : a ∈ arcs2 d c ↔ (c < d.2.2 ∧ a = (d.1.toNat, d.2.1.toNat, 1)) ∨ (0 < c ∧ a = (d.2.1.toNat, d.1.toNat, -1)) := by
  unfold arcs2
  rw [List.mem_append]
  by_cases h1 : c < d.2.2 <;> by_cases h2 : 0 < c <;> simp [h1, h2]
theorem arcs_in {n : Int} {ds : List Debt} {cs : List Int} (hd : ∀ d ∈ ds, InB n d) : ∀ a ∈ arcsOf ds cs, a.1 < n.toNat ∧ a.2.1 < n.toNat := by
  intro a ha
  obtain ⟨i, d, c, e1, e2, h⟩ := arcs_mem.mp ha
  obtain ⟨a0, an, b0, bn⟩ := hd d (List.mem_of_getElem? e1)
  rcases arcs2_mem.mp h with ⟨_, rfl⟩ | ⟨_, rfl⟩
  · exact ⟨by show d.1.toNat < n.toNat; omega, by show d.2.1.toNat < n.toNat; omega⟩
  · exact ⟨by show d.2.1.toNat < n.toNat; omega, by show d.1.toNat < n.toNat; omega⟩
theorem shows_arcs {ds : List Debt} {cs : List Int} {n : Int} (hd : ∀ d ∈ ds, InB n d) (p : Int → Int) : Shows p ds cs ↔ ∀ a ∈ arcsOf ds cs, p (a.1 : Int) + a.2.2 ≤ p (a.2.1 : Int) := by
  constructor
  · intro h a ha
    obtain ⟨i, d, c, e1, e2, h2⟩ := arcs_mem.mp ha
    obtain ⟨a0, an, b0, bn⟩ := hd d (List.mem_of_getElem? e1)
    have z := h i d c e1 e2
    unfold lure at z
    have ea : ((d.1.toNat : Nat) : Int) = d.1 := Int.toNat_of_nonneg a0
    have eb : ((d.2.1.toNat : Nat) : Int) = d.2.1 := Int.toNat_of_nonneg b0
    rcases arcs2_mem.mp h2 with ⟨h3, rfl⟩ | ⟨h3, rfl⟩
    · show p ((d.1.toNat : Nat) : Int) + 1 ≤ p ((d.2.1.toNat : Nat) : Int)
      rw [ea, eb]
      by_cases q : 0 < 1 + p d.1 - p d.2.1
      · have := z.2 q
        omega
      · omega
    · show p ((d.2.1.toNat : Nat) : Int) + -1 ≤ p ((d.1.toNat : Nat) : Int)
      rw [ea, eb]
      by_cases q : 1 + p d.1 - p d.2.1 < 0
      · have := z.1 q
        omega
      · omega
  · intro h i d c e1 e2
    obtain ⟨a0, an, b0, bn⟩ := hd d (List.mem_of_getElem? e1)
    have ea : ((d.1.toNat : Nat) : Int) = d.1 := Int.toNat_of_nonneg a0
    have eb : ((d.2.1.toNat : Nat) : Int) = d.2.1 := Int.toNat_of_nonneg b0
    unfold lure
    constructor
    · intro q
      by_cases c0 : 0 < c
      · have z := h _ (arcs_mem.mpr ⟨i, d, c, e1, e2, arcs2_mem.mpr (.inr ⟨c0, rfl⟩)⟩)
        have z' : p ((d.2.1.toNat : Nat) : Int) + -1 ≤ p ((d.1.toNat : Nat) : Int) := z
        rw [ea, eb] at z'
        omega
      · omega
    · intro q
      by_cases c0 : c < d.2.2
      · have z := h _ (arcs_mem.mpr ⟨i, d, c, e1, e2, arcs2_mem.mpr (.inl ⟨c0, rfl⟩)⟩)
        have z' : p ((d.1.toNat : Nat) : Int) + 1 ≤ p ((d.2.1.toNat : Nat) : Int) := z
        rw [ea, eb] at z'
        omega
      · omega
/-- the rising comes to rest just where some prices show the cut -/
def settlesB (n : Int) (ds : List Debt) (cs : List Int) : Bool := settle (arcsOf ds cs) (n.toNat + 1) (List.replicate n.toNat 0)
theorem settles_iff {n : Int} {ds : List Debt} {cs : List Int} (hd : ∀ d ∈ ds, InB n d) : settlesB n ds cs = true ↔ ∃ p : Int → Int, Shows p ds cs := by
  constructor
  · intro h
    obtain ⟨p, hp⟩ := settle_prices _ _ _ h
    exact ⟨fun x => p x.toNat, (shows_arcs hd _).mpr fun a ha => by
      have z := hp a ha
      show p ((a.1 : Int).toNat) + a.2.2 ≤ p ((a.2.1 : Int).toNat)
      rw [Int.toNat_natCast, Int.toNat_natCast]
      exact z⟩
  · rintro ⟨p, hp⟩
    exact settle_rest (p := fun k => p (k : Int)) (arcs_in hd) ((shows_arcs hd p).mp hp) List.length_replicate
end Cd

/-! Clearday: what the program's functions are held to (best.py), and what prices are. -/
namespace Cd
open PySem PySem.Spec PyProof.Rows L2

/-! ### a method of a list within a comprehension -/
theorem pe_bmK {K : PySem.W.Frag} {X : Cx} {o e : Expr} {es : List Expr} {to : TE} {t : TA} {name : Str} {apos cpos : Pos} {T id : String} {r : V → List V → Hp → VK → Prop} (hK : X.K = K)
    (h1 : PlainAttrs T) (h2 : Slot T name id) (h3 : typeOf (Value.builtin id) = pure (Value.type "method_descriptor")) (h4 : MtR X id r) (h5 : PE X o to) (h6 : PA X (e :: es) t)
    (h7 : attributeBase o name X.env (eval o X.env) = eval o X.env := by rfl)
    (h8 : ((((backTo cpos (starEach (e :: es) X.env)).all fun x => !x.fst) && (backToKw cpos (keywordEach [] X.env)).all fun x => x.fst.isSome) && decide (((e :: es).length + ([] : List Nat).length + if ([] : List Nat).isEmpty = true then 0 else 1) < 30)) = true := by rfl)
    (h9 : (apos.endLine == cpos.line) = true := by rfl)
    (h10 : starEach (e :: es) X.env = (false, eval e X.env) :: starEach es X.env := by rfl)
    (h11 : ((backTo cpos (starEach es X.env)).any fun x => x.fst) = false := by rfl) : PE X ((o.Attribute name apos).Call (e :: es) [] cpos) (tBM K T r to t) := by
  subst hK
  exact pe_bm h1 h2 h3 h4 h5 h6 h7 h8 h9 h10 h11

/-! ### prices as a list -/
def priceAt (ts : List Int) (x : Int) : Int := ts.getD x.toNat 0
def showB (p : Int → Int) (q : Debt × Int) : Bool := !(decide (lure p q.1 < 0) && decide (0 < q.2)) && !(decide (0 < lure p q.1) && decide (q.2 < q.1.2.2))
def showsB (p : Int → Int) (ds : List Debt) (cs : List Int) : Bool := (ds.zip cs).all (showB p)
theorem showsB_iff (p : Int → Int) : ∀ (ds : List Debt) (cs : List Int), showsB p ds cs = true ↔ Shows p ds cs
  | [], cs => ⟨fun _ i d c h => by simp at h, fun _ => rfl⟩
  | d :: ds, [] => ⟨fun _ i d c _ h => by simp at h, fun _ => rfl⟩
  | d :: ds, c :: cs => by
    have ih := showsB_iff p ds cs
    unfold showsB at ih ⊢
    rw [List.zip_cons_cons, List.all_cons, Bool.and_eq_true, ih]
    unfold showB
    simp only [Bool.and_eq_true, Bool.not_eq_true', Bool.and_eq_false_iff, decide_eq_false_iff_not]
    constructor
    · rintro ⟨⟨h1, h2⟩, h3⟩ i e x e1 e2
      cases i with
      | zero =>
        cases (Option.some.inj e1 : _ = _)
        cases (Option.some.inj e2 : _ = _)
        omega
      | succ i => exact h3 i e x e1 e2
    · intro h
      have z := h 0 d c rfl rfl
      exact ⟨by omega, fun i e x e1 e2 => h (i + 1) e x e1 e2⟩
/-! ### what is a list of prices -/
def okTags (n : Int) (d : PyData) : Bool := match d with
  | .list es => decide ((es.length : Int) = n) && es.all isInt
  | _ => false
/-! ### data that leans on no heap -/
def flat : PyData → Bool
  | .none => true
  | .bool _ => true
  | .int _ => true
  | .str _ => true
  | _ => false
theorem dp_flat {K : PySem.W.Frag} {H H' : Hp} : ∀ (d : PyData) (v : V), flat d = true → Dp K H v d → Dp K H' v d
  | .none, _, _, h => by cases h; exact .non
  | .bool b, _, _, h => by cases h; exact .bl b
  | .int i, _, _, h => by cases h; exact .int i
  | .str x, _, _, h => by cases h; exact .str x
  | .list _, _, f, _ => by cases f
  | .tuple _, _, f, _ => by cases f
  | .dict _, _, f, _ => by cases f
theorem dpA_flat {K : PySem.W.Frag} {H H' : Hp} : ∀ (ds : List PyData) (vs : List V), ds.all flat = true → DpAll K H vs ds → DpAll K H' vs ds
  | [], _, _, h => by cases h; exact .nil
  | d :: ds, _, f, h => by
    rw [List.all_cons, Bool.and_eq_true] at f
    cases h with
    | cons h1 h2 => exact .cons (dp_flat d _ f.1 h1) (dpA_flat ds _ f.2 h2)
/-! ### cuts that grow -/
theorem isCut_snoc {ds : List Debt} {cs : List Int} {k : Nat} {d : Debt} {z : Int} (hc : IsCut (ds.take k) cs) (hd : ds[k]? = some d) (z0 : 0 ≤ z) (zM : z ≤ d.2.2) : IsCut (ds.take (k + 1)) (cs ++ [z]) := by
  have hk : k < ds.length := (List.getElem?_eq_some_iff.mp hd).1
  have hcl := hc.len
  rw [List.length_take] at hcl
  refine ⟨?_, ?_⟩
  · rw [List.length_append, List.length_take]
    show cs.length + 1 = _
    omega
  · intro i e x e1 e2
    by_cases hi : i < cs.length
    · rw [List.getElem?_append_left hi] at e2
      refine hc.at_ i e x ?_ e2
      rw [List.getElem?_take] at e1 ⊢
      rw [if_pos (by omega)] at e1 ⊢
      exact e1
    · have hi2 : i < (ds.take (k + 1)).length := (List.getElem?_eq_some_iff.mp e1).1
      rw [List.length_take] at hi2
      have hik : i = k := by omega
      subst hik
      rw [List.getElem?_append_right (by omega)] at e2
      have e3 : i - cs.length = 0 := by omega
      rw [e3] at e2
      cases (Option.some.inj e2 : _ = _)
      rw [List.getElem?_take, if_pos (by omega), hd] at e1
      cases e1
      exact ⟨z0, zM⟩
theorem isCut_set {ds : List Debt} {cs : List Int} {k : Nat} {d : Debt} {z : Int} (hc : IsCut ds cs) (hd : ds[k]? = some d) (z0 : 0 ≤ z) (zM : z ≤ d.2.2) : IsCut ds (cs.set k z) := by
  refine ⟨by rw [List.length_set, hc.len], fun i e x e1 e2 => ?_⟩
  by_cases h : k = i
  · subst h
    have hk : k < cs.length := by
      rw [hc.len]
      exact (List.getElem?_eq_some_iff.mp hd).1
    rw [List.getElem?_set_self hk] at e2
    cases (Option.some.inj e2 : _ = _)
    rw [hd] at e1
    cases e1
    exact ⟨z0, zM⟩
  · rw [List.getElem?_set_ne h] at e2
    exact hc.at_ i e x e1 e2
/-! ### what is asked of the program's functions -/
def spShown (K : PySem.W.Frag) (C2 C4 : Addr) : Sp := fun vs H Q E => ∃ (n : Int) (a : Addr) (ds : List Debt) (v u : V) (dv du : PyData), vs = [.int n, .ref a, v, u] ∧ 1 ≤ n ∧ n ≤ 20 ∧ (∀ d ∈ ds, InB n d) ∧ DL K H a ds ∧ ds.length ≤ 100 ∧ Amts ds ∧ Dp K H v dv ∧ Dp K H u du ∧
  (okCut ds dv = false → ∀ H', Same H H' → E (.ref C2) none H') ∧ (okCut ds dv = true → okTags n du = false → ∀ H', Same H H' → E (.ref C4) none H') ∧
  (∀ cs ts, dv = .list (cs.map PyData.int) → IsCut ds cs → du = .list (ts.map PyData.int) → (ts.length : Int) = n → ∀ H', Same H H' → Q (.bl (showsB (priceAt ts) ds cs)) H')
/-! ### rings and orders -/
/-- a rank that each debt raises -/
def Acyc (ds : List Debt) : Prop := ∃ r : Int → Int, ∀ d ∈ ds, r d.1 < r d.2.1
/-- all houses, each debt leading from one to a later one -/
structure IsOrd (n : Int) (ds : List Debt) (os : List Int) : Prop where
  perm : os.Perm ((List.range n.toNat).map fun i : Nat => (i : Int))
  rise : ∀ d ∈ ds, os.idxOf d.1 < os.idxOf d.2.1
theorem IsOrd.acyc {n : Int} {ds : List Debt} {os : List Int} (h : IsOrd n ds os) : Acyc ds := ⟨fun x => (os.idxOf x : Int), fun d hd => by
  have := h.rise d hd
  show ((os.idxOf d.1 : Nat) : Int) < ((os.idxOf d.2.1 : Nat) : Int)
  omega⟩
theorem sum_perm {l k : List Int} (h : l.Perm k) : l.sum = k.sum := by
  induction h with
  | nil => rfl
  | cons x _ ih => rw [List.sum_cons, List.sum_cons, ih]
  | swap x y l =>
    rw [List.sum_cons, List.sum_cons, List.sum_cons, List.sum_cons]
    omega
  | trans _ _ h1 h2 => rw [h1, h2]
theorem sum_less (f g : Nat → Int) : ∀ l : List Nat, (∀ i ∈ l, f i < g i) → (l.map f).sum + l.length ≤ (l.map g).sum
  | [], _ => Int.le_refl _
  | a :: l, h => by
    have ih := sum_less f g l fun i hi => h i (List.mem_cons_of_mem _ hi)
    have := h a List.mem_cons_self
    rw [List.map_cons, List.map_cons, List.sum_cons, List.sum_cons, List.length_cons]
    omega
/-- a book with a ring has no such rank -/
theorem RingOf.not_acyc {ds : List Debt} {r : List Nat} (h : RingOf ds r) : ¬ Acyc ds := by
  rintro ⟨p, hp⟩
  have z := sum_less (fun i => p (dbt ds i).1) (fun i => p (dbt ds i).2.1) r fun i hi => hp _ (List.mem_of_getElem? (dbt_at (h.path.lt i hi)))
  have e : (r.map fun i => p (dbt ds i).2.1).sum = (r.map fun i => p (dbt ds i).1).sum := by
    have e1 : (r.map fun i => p (dbt ds i).2.1) = (r.map fun i => (dbt ds i).2.1).map p := by rw [List.map_map]; rfl
    have e2 : (r.map fun i => p (dbt ds i).1) = (r.map fun i => (dbt ds i).1).map p := by rw [List.map_map]; rfl
    rw [e1, e2]
    refine sum_perm (List.Perm.map p ?_)
    rw [h.turn]
    have q := List.take_append_drop 1 (r.map fun i => (dbt ds i).1)
    exact (List.perm_append_comm).trans (List.Perm.of_eq q)
  have := h.ne
  omega
def spRing (K : PySem.W.Frag) : Sp := fun vs H Q _ => ∃ (n : Int) (a : Addr) (ds : List Debt), vs = [.int n, .ref a] ∧ 1 ≤ n ∧ n ≤ 20 ∧ Goods n ds ∧ DL K H a ds ∧ ds.length ≤ 60 ∧
  (∀ H', Same H H' → Acyc ds → Q .non H') ∧ (∀ H' p r, Same H H' → H p = none → H' p = some (.lst (idxV r)) → RingOf ds r → Q (.ref p) H')
def spOrder (K : PySem.W.Frag) : Sp := fun vs H Q _ => ∃ (n : Int) (a : Addr) (ds : List Debt), vs = [.int n, .ref a] ∧ 1 ≤ n ∧ n ≤ 20 ∧ Goods n ds ∧ DL K H a ds ∧ ds.length ≤ 60 ∧
  (∀ H', Same H H' → (∃ r, RingOf ds r) → Q .non H') ∧ (∀ (H' : Hp) (p : Addr) (os : List Int), Same H H' → H p = none → H' p = some (.lst (os.map V.int)) → IsOrd n ds os → Q (.ref p) H')
/-- what better and prices are handed -/
structure Handed (K : PySem.W.Frag) (H : Hp) (n : Int) (a : Addr) (ds : List Debt) (v : V) (dv : PyData) : Prop where
  n1 : 1 ≤ n
  nM : n ≤ 20
  good : Goods n ds
  dl : DL K H a ds
  len : ds.length ≤ 60
  dp : Dp K H v dv
def Better (ds : List Debt) (cs bs : List Int) : Prop := IsCut ds bs ∧ EvenC ds bs ∧ cs.sum < bs.sum
def spBetter (K : PySem.W.Frag) (C2 C3 : Addr) : Sp := fun vs H Q E => ∃ (n : Int) (a : Addr) (ds : List Debt) (v : V) (dv : PyData), vs = [.int n, .ref a, v] ∧ Handed K H n a ds v dv ∧
  (okCut ds dv = false → ∀ H', Same H H' → E (.ref C2) none H') ∧ (∀ cs, dv = .list (cs.map PyData.int) → IsCut ds cs → ¬ EvenC ds cs → ∀ H', Same H H' → E (.ref C3) none H') ∧
  (∀ cs, dv = .list (cs.map PyData.int) → IsCut ds cs → EvenC ds cs → (∃ p, Shows p ds cs) → ∀ H', Same H H' → Q .non H') ∧
  (∀ cs, dv = .list (cs.map PyData.int) → IsCut ds cs → EvenC ds cs → ∀ (H' : Hp) (b : Addr) (bs : List Int), Same H H' → H b = none → H' b = some (.lst (bs.map V.int)) → Better ds cs bs → Q (.ref b) H')
def spPrices (K : PySem.W.Frag) (C2 C3 C5 : Addr) : Sp := fun vs H Q E => ∃ (n : Int) (a : Addr) (ds : List Debt) (v : V) (dv : PyData), vs = [.int n, .ref a, v] ∧ Handed K H n a ds v dv ∧
  (okCut ds dv = false → ∀ H', Same H H' → E (.ref C2) none H') ∧ (∀ cs, dv = .list (cs.map PyData.int) → IsCut ds cs → ¬ EvenC ds cs → ∀ H', Same H H' → E (.ref C3) none H') ∧
  (∀ cs, dv = .list (cs.map PyData.int) → IsCut ds cs → EvenC ds cs → (∃ bs, Better ds cs bs) → ∀ H', Same H H' → E (.ref C5) none H') ∧
  (∀ cs, dv = .list (cs.map PyData.int) → IsCut ds cs → EvenC ds cs → ∀ (H' : Hp) (t : Addr) (ts : List Int), Same H H' → H t = none → H' t = some (.lst (ts.map V.int)) → (ts.length : Int) = n → Shows (priceAt ts) ds cs → Q (.ref t) H')
/-- a cut that prices show has no better one -/
theorem Shows.best {n : Int} {p : Int → Int} {ds : List Debt} {cs bs : List Int} (hd : ∀ d ∈ ds, InB n d) (hs : Shows p ds cs) (hc : IsCut ds cs) (he : EvenC ds cs) : ¬ Better ds cs bs := fun ⟨b1, b2, b3⟩ => by
  have := shows_best hd hc hs he b1 b2
  omega
/-- one number more or less makes an even cut uneven -/
theorem uneven_set {ds : List Debt} {cs : List Int} {k : Nat} {d : Debt} {c : Int} (x : Int) (he : EvenC ds cs) (e1 : ds[k]? = some d) (e2 : cs[k]? = some c) (ne : d.1 ≠ d.2.1) (hx : x ≠ c) : ¬ EvenC ds (cs.set k x) := fun h => by
  have z := h d.1
  rw [sumBy_set _ d.1 x e1 e2, sumBy_set _ d.1 x e1 e2, he d.1, if_pos rfl, if_neg (fun q => ne q.symm)] at z
  omega
end Cd

namespace Cd
open PySem PySem.Spec PyProof.Rows L2
def topS (i : Nat) : Stmt := PySem.Challenge.pw_clearday_k05_prices_that_show.main.body.getD i (.Pass ⟨0, 0, 0, 0⟩)
local macro_rules | `(tactic| walk_at "rd") => `(tactic| repeat (first | refine ⟨_, rfl, ?_⟩ | refine ⟨_, _, rfl, rfl, ?_⟩ | (refine And.intro ?_ ?_; focus ((try dsimp only [CMul, CDiv]); omega)) | refine ⟨rfl, ?_⟩))
local macro_rules | `(tactic| walk_at "rdx") => `(tactic| repeat' (first | refine ⟨_, rfl, ?_⟩ | refine ⟨_, _, rfl, rfl, ?_⟩ | (refine And.intro ?_ ?_; focus ((try dsimp only [CMul, CDiv]); omega)) | refine ⟨rfl, ?_⟩ | refine ite2 (fun _ => ?_) (fun _ => ?_)))
local macro_rules | `(tactic| walk_at "nf") => `(tactic| dsimp only [gName, L2.start, List.set, List.map, List.replicate, List.length_cons, List.length_nil, List.cons_append, List.nil_append, Nat.reduceAdd, Nat.reduceSub, Nat.add_eq])
local macro_rules | `(tactic| walk_at "ev") => `(tactic| repeat' (first | exact evda_nil | refine' evda_cons ?_ ?_ | refine' evd_tup ?_ ?_ | refine' evm_lst ?_ ?_ | exact evd_int _ | exact evd_bl _ | exact evd_str _ | exact evd_non | exact evd_vint (by rfl) | exact evd_var (by rfl) (by assumption) | exact evl_var (by rfl) (by assumption) (by assumption) | refine' evd_neg ?_ | refine' evd_I0 ?_ ?_ | refine' evd_I ?_ ?_ (by first | decide | omega) | refine' evm_cat ?_ ?_ ?_ | refine' EvM.l ?_ | refine' evd_lst ?_ ?_ | exact lb rfl))
section
variable {P : Program} {w : World} {K : PySem.W.Frag} {mg : Str → Option Value} {base : Heap}

abbrev s_L_cell_at : Stmt := topS 20
theorem sc_L_cell_at : FnScope ["_law_script", "_law_k"] ["_law_script", "_law_k"] (defScope s_L_cell_at) := ⟨rfl, rfl, rfl, by decide +kernel, rfl, by decide +kernel, by decide +kernel⟩
def spCell (K : PySem.W.Frag) : Sp := fun vs H Q _ => ∃ (a : Addr) (ns : List Int) (k : Int), vs = [.ref a, .int k] ∧ SqL K H a (ns.map V.int) ∧ 0 ≤ k ∧ Q (.int (cell ns k)) H
theorem ok_L_cell_at (D : DefAt K mg "_law_cell_at" s_L_cell_at) (B : Blt mg) : Cal P w K mg base CX0 1 "_law_cell_at" ["_law_script", "_law_k"] (spCell K) := by
  refine D.ok sc_L_cell_at (fun _ _ _ _ _ _ us hl => match us, hl with | [_, _], _ => rfl) (fun vs H Q E h => ?_) (fun f cdv A outer s H vs Q E hr h => ?_)
  · obtain ⟨a, ns, k, rfl, _⟩ := h
    rfl
  · obtain ⟨a, ns, k, rfl, hS, h0, q⟩ := h
    refine ⟨_, (pss_cons (ps_if (pt_cmpR op_lt (pv 1) (pe_callB (r := rLenQ K) call_len_seq (by rfl) B.len (by decide +kernel) (pa_cons (pv 0) pa_nil)) (nomark _)) (pss_one (ps_ret (pe_ix (r := rIxL K) ix_list (pv 0) (pv 1) (fun _ _ => rfl)))) pss_nil)
      (pss_one (ps_ret pe_int))), ?_⟩
    refine ⟨_, rfl, _, rfl, a, _, rfl, .inl hS, _, _, rfl, rfl, _, rfl, ite2 (fun e => ?_) (fun e => ?_)⟩
    · have hk : k < (ns.length : Int) := by
        have := of_decide_eq_true e
        rw [List.length_map] at this
        exact this
      have hg : ns[k.toNat]? = some (ns.getD k.toNat 0) := by
        rw [List.getD_eq_getElem?_getD, List.getElem?_eq_getElem (by omega)]
        rfl
      refine ⟨_, rfl, _, rfl, a, _, k, .int (ns.getD k.toNat 0), rfl, rfl, hS, at_of (j := k.toNat) (by omega) ?_, ?_⟩
      · rw [List.getElem?_map, hg]
        rfl
      · have ec : cell ns k = ns.getD k.toNat 0 := if_pos hk
        rw [← ec]
        exact q
    · have hk : ¬ k < (ns.length : Int) := by
        have := of_decide_eq_false (Bool.eq_false_iff.mpr e)
        rw [List.length_map] at this
        exact this
      have ec : cell ns k = 0 := if_neg hk
      rw [ec] at q
      exact q

abbrev s_L_truth : Stmt := topS 21
theorem sc_L_truth : FnScope ["_law_found", "_law_due"] ["_law_found", "_law_due"] (defScope s_L_truth) := ⟨rfl, rfl, rfl, by decide +kernel, rfl, by decide +kernel, by decide +kernel⟩
def spTruth : Sp := fun vs H Q _ => ∃ b c : Bool, vs = [.bl b, .bl c] ∧ Q (.bl (decide (b = c))) H
theorem ok_L_truth (D : DefAt K mg "_law_truth" s_L_truth) (B : Blt mg) : Cal P w K mg base CX0 1 "_law_truth" ["_law_found", "_law_due"] spTruth := by
  refine D.ok sc_L_truth (fun _ _ _ _ _ _ us hl => match us, hl with | [_, _], _ => rfl) (fun vs H Q E h => ?_) (fun f cdv A outer s H vs Q E hr h => ?_)
  · obtain ⟨b, c, rfl, _⟩ := h
    rfl
  · obtain ⟨b, c, rfl, q⟩ := h
    refine ⟨_, (pss_one (ps_ret (pe_and (pe_callB (r := rIsi K) call_isi (by rfl) B.isinstance (by decide +kernel) (pa_cons (pv 0) (pa_cons (pe_bltn (v := .ty "bool") (by rfl) B.bool (by decide +kernel) rfl) pa_nil))) (pe_one (pe_cmpR op_eq (pv 0) (pv 1) (nomark _)))))), ?_⟩
    refine ⟨_, rfl, _, _, _, _, _, rfl, .ty "bool", tyx_of (.bl b), kit_bool (.bool b), _, rfl, ?_⟩
    refine ⟨_, rfl, _, rfl, rfl, ?_⟩
    have e : decide (V.bl b = V.bl c) = decide (b = c) := by
      by_cases h : b = c
      · rw [h, decide_eq_true rfl, decide_eq_true rfl]
      · rw [decide_eq_false h, decide_eq_false (fun z => h (V.bl.inj z))]
    show Q (.bl (decide (V.bl b = V.bl c))) H
    rw [e]
    exact q

abbrev s_L_debt : Stmt := topS 22
theorem sc_L_debt : FnScope ["_law_cell", "_law_k", "_law_count_here", "_law_mixed", "_law_debtor", "_law_creditor", "_law_kind_here", "_law_amount"] ["_law_cell", "_law_k", "_law_count_here"] (defScope s_L_debt) := ⟨rfl, rfl, rfl, by decide +kernel, rfl, by decide +kernel, by decide +kernel⟩
def spDebt : Sp := fun vs H Q _ => ∃ c k n : Int, vs = [.int c, .int k, .int n] ∧ 0 ≤ k ∧ k ≤ 1000 ∧ 2 ≤ n ∧ n ≤ 20 ∧ ∀ (d : Debt) (p : Addr), Good n d → H p = none → Q (.ref p) (upd H p (.tup (tV d)))
theorem good_mk {n m u a : Int} (hn : 2 ≤ n) (h1 : 1 ≤ a) (hM : a ≤ 1000000000) : Good n (m % n, (m % n + 1 + u % (n - 1)) % n, a) := by
  have hm := emod_b (x := m) (n := n) (by omega)
  have hu := emod_b (x := u) (n := n - 1) (by omega)
  have hb := emod_b (x := m % n + 1 + u % (n - 1)) (n := n) (by omega)
  exact ⟨hm.1, hm.2, hb.1, hb.2, wrap_ne hm.1 hm.2 hu.1 hu.2, h1, hM⟩
theorem ok_L_debt (D : DefAt K mg "_law_debt" s_L_debt) : Cal P w K mg base CX0 1 "_law_debt" ["_law_cell", "_law_k", "_law_count_here"] spDebt := by
  refine D.ok sc_L_debt (fun _ _ _ _ _ _ us hl => match us, hl with | [_, _, _], _ => rfl) (fun vs H Q E h => ?_) (fun f cdv A outer s H vs Q E hr h => ?_)
  · obtain ⟨c, k, n, rfl, _⟩ := h
    rfl
  · obtain ⟨c, k, n, rfl, k0, kM, n2, nM, q⟩ := h
    refine ⟨_, (pss_cons (ps_set (i := 3) sc_L_debt.nd rfl (.inl rfl) (pe_op op_mod (pe_op op_mul (pe_op op_add (pe_op op_add (pe_op op_mod (pv 0) pe_int) (pe_op op_mul pe_int (pv 1))) pe_int) pe_int) pe_int))
      (pss_cons (ps_set (i := 4) sc_L_debt.nd rfl (.inl rfl) (pe_op op_mod (pv 3) (pv 2)))
      (pss_cons (ps_set (i := 5) sc_L_debt.nd rfl (.inl rfl) (pe_op op_mod (pe_op op_add (pe_op op_add (pv 4) pe_int) (pe_op op_mod (pe_op op_fdiv (pv 3) (pv 2)) (pe_op op_sub (pv 2) pe_int))) (pv 2)))
      (pss_cons (ps_set (i := 6) sc_L_debt.nd rfl (.inl rfl) (pe_op op_mod (pe_op op_fdiv (pv 3) pe_int) pe_int))
      (pss_cons (ps_set (i := 7) sc_L_debt.nd rfl (.inl rfl) (pe_op op_add pe_int (pe_op op_mod (pe_op op_fdiv (pv 3) pe_int) pe_int)))
      (pss_cons (ps_if (pt_cmpR op_eq (pv 6) pe_int (nomark _)) (pss_one (ps_set (i := 7) sc_L_debt.nd rfl (.inl rfl) (pe_op op_add pe_int (pe_op op_mod (pe_op op_fdiv (pv 3) pe_int) pe_int)))) pss_nil)
      (pss_cons (ps_if (pt_cmpR op_eq (pv 6) pe_int (nomark _)) (pss_one (ps_set (i := 7) sc_L_debt.nd rfl (.inl rfl) (pe_op op_add pe_int (pe_op op_mod (pv 0) pe_int)))) pss_nil)
      (pss_cons (ps_if (pt_cmpR op_eq (pv 6) pe_int (nomark _)) (pss_one (ps_set (i := 7) sc_L_debt.nd rfl (.inl rfl) (pe_op op_sub pe_int (pe_op op_mod (pe_op op_fdiv (pv 3) pe_int) pe_int)))) pss_nil)
      (pss_one (ps_ret (pe_tup (pa_cons (pv 4) (pa_cons (pv 5) (pa_cons (pv 7) pa_nil)))))))))))))), ?_⟩
    walk_at "rdx"
    all_goals exact ⟨szn (by show 3 ≤ 100000; decide), fun p hp => q (_, _, _) p (good_mk n2 (by omega) (by omega)) hp⟩

abbrev s_L_count : Stmt := topS 23
theorem sc_L_count : FnScope ["_law_script", "_law_cell"] ["_law_script"] (defScope s_L_count) := ⟨rfl, rfl, rfl, by decide +kernel, rfl, by decide +kernel, by decide +kernel⟩
def spCount (K : PySem.W.Frag) : Sp := fun vs H Q _ => ∃ (a : Addr) (ns : List Int), vs = [.ref a] ∧ SqL K H a (ns.map V.int) ∧ ∀ n : Int, 2 ≤ n → n ≤ 20 → Q (.int n) H
theorem ok_L_count (D : DefAt K mg "_law_count" s_L_count) (c_L_cell_at : Cal P w K mg base CX0 1 "_law_cell_at" ["_law_script", "_law_k"] (spCell K)) : Cal P w K mg base CX0 2 "_law_count" ["_law_script"] (spCount K) := by
  refine D.ok sc_L_count (fun _ _ _ _ _ _ us hl => match us, hl with | [_], _ => rfl) (fun vs H Q E h => ?_) (fun f cdv A outer s H vs Q E hr h => ?_)
  · obtain ⟨a, ns, rfl, _⟩ := h
    rfl
  · obtain ⟨a, ns, rfl, hS, q⟩ := h
    refine ⟨_, (pss_cons (ps_set (i := 1) sc_L_count.nd rfl (.inl rfl) (pe_cal c_L_cell_at (hr.mono (by decide)) (by rfl) pass0 (pa_cons (pv 0) (pa_cons pe_int pa_nil))))
      (pss_cons (ps_if (pt_cmpR op_eq (pe_op op_mod (pe_op op_fdiv (pv 1) pe_int) pe_int) pe_int (nomark _)) (pss_one (ps_ret (pe_op op_add pe_int (pe_op op_mod (pe_op op_fdiv (pv 1) pe_int) pe_int)))) pss_nil)
      (pss_cons (ps_if (pt_cmpR op_eq (pe_op op_mod (pe_op op_fdiv (pv 1) pe_int) pe_int) pe_int (nomark _)) (pss_one (ps_ret (pe_op op_add pe_int (pe_op op_mod (pe_op op_fdiv (pv 1) pe_int) pe_int)))) pss_nil)
      (pss_one (ps_ret (pe_op op_add pe_int (pe_op op_mod (pv 1) pe_int))))))), ?_⟩
    refine ⟨_, rfl, a, ns, 0, rfl, hS, by decide, ?_⟩
    walk_at "rdx"
    all_goals exact q _ (by omega) (by omega)

abbrev s_L_debts : Stmt := topS 24
theorem sc_L_debts : FnScope ["_law_script", "_law_first", "_law_count_here", "_law_cell", "_law_many", "_law_found", "_law_k", "_law_house", "_law_amount"] ["_law_script", "_law_first", "_law_count_here"] (defScope s_L_debts) := ⟨rfl, rfl, rfl, by decide +kernel, rfl, by decide +kernel, by decide +kernel⟩
def spDebts (K : PySem.W.Frag) : Sp := fun vs H Q _ => ∃ (a : Addr) (ns : List Int) (first n : Int), vs = [.ref a, .int first, .int n] ∧ SqL K H a (ns.map V.int) ∧ 0 ≤ first ∧ first ≤ 1000 ∧ 2 ≤ n ∧ n ≤ 20 ∧
  ∀ (H' : Hp) (p : Addr) (ds : List Debt), Same H H' → H p = none → DM K H' p ds → Goods n ds → ds.length ≤ 37 → Q (.ref p) H'
theorem good_ring {n h m : Int} (n2 : 2 ≤ n) (h0 : 0 ≤ h) (hn : h < n) (m1 : 1 ≤ m) (mM : m ≤ 1000000000) : Good n (h, (h + 1) % n, m) := by
  have hb := emod_b (x := h + 1) (n := n) (by omega)
  have hw := wrap_ne (a := h) (n := n) (u := 0) h0 hn (by omega) (by omega)
  rw [Int.add_zero] at hw
  exact ⟨h0, hn, hb.1, hb.2, hw, m1, mM⟩
theorem ok_L_debts (D : DefAt K mg "_law_debts" s_L_debts) (B : Blt mg) (c_L_cell_at : Cal P w K mg base CX0 1 "_law_cell_at" ["_law_script", "_law_k"] (spCell K))
    (c_L_debt : Cal P w K mg base CX0 1 "_law_debt" ["_law_cell", "_law_k", "_law_count_here"] spDebt) : Cal P w K mg base CX0 2 "_law_debts" ["_law_script", "_law_first", "_law_count_here"] (spDebts K) := by
  refine D.ok sc_L_debts (fun _ _ _ _ _ _ us hl => match us, hl with | [_, _, _], _ => rfl) (fun vs H Q E h => ?_) (fun f cdv A outer s H vs Q E hr h => ?_)
  · obtain ⟨a, ns, f0, n, rfl, _⟩ := h
    rfl
  · obtain ⟨a, ns, f0, n, rfl, hS, hf0, hfM, n2, nM, q⟩ := h
    refine ⟨_, (pss_cons (ps_set (i := 3) sc_L_debts.nd rfl (.inl rfl) (pe_cal c_L_cell_at (hr.mono (by decide)) (by rfl) pass0 (pa_cons (pv 0) (pa_cons pe_int pa_nil))))
      (pss_cons (ps_set (i := 4) sc_L_debts.nd rfl (.inl rfl) (pe_op op_mod (pv 3) pe_int))
      (_root_.C8.pss_cut (ps_if (pt_cmpR op_eq (pe_op op_mod (pe_op op_fdiv (pv 3) pe_int) pe_int) pe_int (nomark _)) (pss_one (ps_set (i := 4) sc_L_debts.nd rfl (.inl rfl) (pe_op op_add pe_int (pe_op op_mod (pe_op op_fdiv (pv 3) pe_int) pe_int)))) pss_nil)
      (pss_cons (ps_setLc (i := 5) (own := [("_law_k", 6)]) (g := gName 6) rfl sc_L_debts.nd rfl rfl (sw_true rfl rfl rfl (by decide +kernel)) (pi_range1 (by rfl) B.range (pa_cons (pv 4) pa_nil)) (blkOk_by (N := ["_law_script", "_law_first", "_law_count_here", "_law_cell", "_law_many", "_law_found", "_law_k", "_law_house", "_law_amount"]) (sc := defScope s_L_debts) (by decide +kernel)) (fun _ _ _ _ _ => (pg_name (i := 6) sc_L_debts.nd rfl (.inl rfl))) (fun _ _ _ _ _ => pts_nil) (fun _ _ _ _ _ => (pe_cal c_L_debt (hr.mono (by decide)) (by rfl) pass0 (pa_cons (pe_cal c_L_cell_at (hr.mono (by decide)) (by rfl) pass0 (pa_cons (pv 0) (pa_cons (pe_op op_add (pv 1) (pv 6)) pa_nil))) (pa_cons (pv 6) (pa_cons (pv 2) pa_nil))))))
      (pss_cons (ps_if (pt_cmpR op_gt (pe_op op_mod (pe_op op_fdiv (pv 3) pe_int) pe_int) pe_int (nomark _)) (pss_one (ps_for PassesOwn.never rfl (pi_range1 (by rfl) B.range (pa_cons (pv 2) pa_nil)) (pg_name (i := 6) sc_L_debts.nd rfl (.inl rfl)) (pss_cons (ps_set (i := 7) sc_L_debts.nd rfl (.inl rfl) (pe_op op_mod (pe_op op_add (pe_op op_fdiv (pv 3) pe_int) (pv 6)) (pv 2)))
          (pss_cons (ps_set (i := 8) sc_L_debts.nd rfl (.inl rfl) (pe_ix (r := rIxT K) ix_tup (pe_cal c_L_debt (hr.mono (by decide)) (by rfl) pass0 (pa_cons (pv 3) (pa_cons (pv 6) (pa_cons (pv 2) pa_nil)))) pe_int (fun _ _ => rfl)))
          (pss_cons (ps_if (pt_cmpR op_eq (pe_op op_mod (pe_op op_fdiv (pv 3) pe_int) pe_int) pe_int (nomark _)) (pss_one (ps_set (i := 7) sc_L_debts.nd rfl (.inl rfl) (pe_op op_sub (pe_op op_sub (pv 2) pe_int) (pv 7)))) pss_nil)
          (pss_one (ps_expr (pe_bm PySem.F.plainAttrs_list PySem.F.slot_list_insert PySem.F.type_list_insert mt_insert (pv 5) (pa_cons (pe_op op_mod (pe_op op_fdiv (pv 3) pe_int) (pe_op op_add (pe_callB (r := rLenQ K) call_len_seq (by rfl) B.len (by decide +kernel) (pa_cons (pv 5) pa_nil)) pe_int)) (pa_cons (pe_tup (pa_cons (pv 7) (pa_cons (pe_op op_mod (pe_op op_add (pv 7) pe_int) (pv 2)) (pa_cons (pv 8) pa_nil)))) pa_nil)))))))))) pss_nil)
      (pss_one (ps_ret (pv 5)))))))), ?_⟩
    refine ⟨_, rfl, a, ns, 1, rfl, hS, by decide, ?_⟩
    walk_at "rd"
    generalize cell ns 1 = c
    -- many
    refine ⟨fun σ' H' => H' = H ∧ ∃ m : Int, 0 ≤ m ∧ m ≤ 17 ∧ σ' = [some (.ref a), some (.int f0), some (.int n), some (.int c), some (.int m), none, none, none, none], ?_, ?_⟩
    · walk_at "rdx"
      all_goals exact ⟨_, by omega, by omega, rfl⟩
    rintro σ' H' ⟨rfl, m, m0, mM, rfl⟩
    -- the comprehension
    refine ⟨_, rfl, m, rfl, by omega, by omega, fun L hL => lc_range (lo := 0) (n := m.toNat) (fun i H1 => H' L = none ∧ Same H' H1 ∧ ∃ ds, DM K H1 L ds ∧ Goods n ds ∧ ds.length = i)
      ⟨hL, same_new hL, [], ⟨[], upd_same, .nil⟩, goods_nil, rfl⟩ ?_ ?_⟩
    · rintro i H1 hi ⟨hL, sm, ds, ⟨vs, e1, e2⟩, gd, el⟩
      refine ⟨rfl, ?_⟩
      refine ⟨_, rfl, _, rfl, _, rfl, _, _, rfl, rfl, a, ns, _, rfl, sm.seq hS, by omega, _, rfl, _, rfl, _, _, _, rfl, by omega, by omega, n2, nM, fun d p hg hp => ?_⟩
      have s2 := same_new (o := .tup (tV d)) hp
      have e1' := s2 _ _ e1
      refine ⟨vs, e1', szl (by rw [dvs_len e2]; omega), hL, same_mut (sm.trans s2) hL, ds ++ [d], dm_set e1' (dvs_app (s2.dvs e2) (dvs_one (dv_new upd_same))), goods_app gd (goods_one hg), ?_⟩
      rw [List.length_append, el]
      rfl
    rintro H1 ⟨hL, sm, ds, dm, gd, el⟩
    -- the ring
    walk_at "rd"
    refine ite2 (fun _ => ?_) (fun _ => ?_)
    · refine ⟨_, rfl, n, rfl, by omega, by omega, for_range (lo := 0) (n := n.toNat) (fun i σ H2 => ∃ y6 y7 y8 ds, σ = [some (.ref a), some (.int f0), some (.int n), some (.int c), some (.int m), some (.ref L), y6, y7, y8] ∧ Same H' H2 ∧ DM K H2 L ds ∧ Goods n ds ∧ ds.length = m.toNat + i)
        ⟨_, _, _, ds, rfl, sm, dm, gd, el⟩ ?_ ?_⟩
      · rintro i σ H2 hi ⟨y6, y7, y8, ds, rfl, sm, ⟨vs, e1, e2⟩, gd, el⟩
        have hb := emod_b (x := c / 54 + (0 + (i : Int))) (n := n) (by omega)
        walk_at "rd"
        refine ⟨_, _, _, rfl, by omega, by omega, n2, nM, fun d p hg hp => ?_⟩
        refine ⟨p, _, 2, .int d.2.2, rfl, rfl, SqT.of upd_same, rfl, ?_⟩
        have s2 := same_new (o := .tup (tV d)) hp
        have e1' := s2 _ _ e1
        have e2' := s2.dvs e2
        have sm2 := sm.trans s2
        generalize upd H2 p (.tup (tV d)) = H3 at e1' e2' sm2
        have fin : ∀ h : Int, 0 ≤ h → h < n → ∀ (t : Addr), H3 t = none → ∀ k : Nat, (fun (i : Nat) (σ : L2.St) (H2 : Hp) => ∃ y6 y7 y8 ds, σ = [some (.ref a), some (.int f0), some (.int n), some (.int c), some (.int m), some (.ref L), y6, y7, y8] ∧ Same H' H2 ∧ DM K H2 L ds ∧ Goods n ds ∧ ds.length = m.toNat + i) (i + 1)
            [some (.ref a), some (.int f0), some (.int n), some (.int c), some (.int m), some (.ref L), some (.int (0 + (i : Int))), some (.int h), some (.int d.2.2)] (upd (upd H3 t (.tup [.int h, .int ((h + 1) % n), .int d.2.2])) L (.lst (vs.take k ++ [.ref t] ++ vs.drop k))) := by
          intro h h0 hn t ht k
          have s3 := same_new (o := .tup [.int h, .int ((h + 1) % n), .int d.2.2]) ht
          refine ⟨_, _, _, ds.take k ++ [(h, (h + 1) % n, d.2.2)] ++ ds.drop k, rfl, same_mut (sm2.trans s3) hL, dm_set (s3 _ _ e1') (dvs_app (dvs_app (dvs_take k (s3.dvs e2')) (dvs_one (dv_new upd_same))) (dvs_drop k (s3.dvs e2'))), goods_app (goods_app (goods_take k gd) (goods_one (good_ring n2 h0 hn hg.m1 hg.mM))) (goods_drop k gd), ?_⟩
          simp only [List.length_append, List.length_take, List.length_drop, List.length_cons, List.length_nil]
          omega
        have hvl := dvs_len e2
        walk_at "rd"
        refine ite2 (fun _ => ?_) (fun _ => ?_)
        · walk_at "rd"
          refine ⟨.inl ⟨rfl, _, SqL.of e1'⟩, ?_⟩
          walk_at "rd"
          refine ⟨_, _, rfl, .inl (SqL.of e1'), _, _, rfl, rfl, _, _, rfl, rfl, by omega, ?_⟩
          walk_at "rd"
          refine ⟨szn (by show 3 ≤ 100000; decide), fun t ht => ⟨L, vs, _, _, rfl, rfl, same_new ht _ _ e1', szl (by omega), (emod_b (by omega)).1, Int.lt_trans (emod_b (by omega)).2 (by omega), ?_⟩⟩
          exact fin _ (by omega) (by omega) t ht _
        · walk_at "rd"
          refine ⟨.inl ⟨rfl, _, SqL.of e1'⟩, ?_⟩
          walk_at "rd"
          refine ⟨_, _, rfl, .inl (SqL.of e1'), _, _, rfl, rfl, _, _, rfl, rfl, by omega, ?_⟩
          walk_at "rd"
          refine ⟨szn (by show 3 ≤ 100000; decide), fun t ht => ⟨L, vs, _, _, rfl, rfl, same_new ht _ _ e1', szl (by omega), (emod_b (by omega)).1, Int.lt_trans (emod_b (by omega)).2 (by omega), ?_⟩⟩
          exact fin _ (by omega) (by omega) t ht _
      · rintro σ H2 ⟨y6, y7, y8, ds, rfl, sm, dm, gd, el⟩
        exact ⟨_, rfl, q H2 L ds sm hL dm gd (by omega)⟩
    · exact ⟨_, rfl, q H1 L ds sm hL dm gd (by omega)⟩

abbrev s_is_whole : Stmt := topS 12
theorem sc_is_whole : FnScope ["value"] ["value"] (defScope s_is_whole) := ⟨rfl, rfl, rfl, by decide +kernel, rfl, by decide +kernel, by decide +kernel⟩
def spIsWhole (K : PySem.W.Frag) : Sp := fun vs H Q _ => ∃ (v : V) (d : PyData), vs = [v] ∧ Dp K H v d ∧ Q (.bl (isInt d)) H
theorem ok_is_whole (D : DefAt K mg "is_whole" s_is_whole) (B : Blt mg) : Cal P w K mg base CX0 1 "is_whole" ["value"] (spIsWhole K) := by
  refine D.ok sc_is_whole (fun _ _ _ _ _ _ us hl => match us, hl with | [_], _ => rfl) (fun vs H Q E h => ?_) (fun f cdv A outer s H vs Q E hr h => ?_)
  · obtain ⟨v, d, rfl, _⟩ := h
    rfl
  · obtain ⟨v, d, rfl, hd, q⟩ := h
    refine ⟨_, (pss_one (ps_ret (pe_and (pe_callB (r := rIsi K) call_isi (by rfl) B.isinstance (by decide +kernel) (pa_cons (pv 0) (pa_cons (pe_bltn (v := .ty "int") (by rfl) B.int (by decide +kernel) rfl) pa_nil))) (pe_one (pe_not (pe_callB (r := rIsi K) call_isi (by rfl) B.isinstance (by decide +kernel) (pa_cons (pv 0) (pa_cons (pe_bltn (v := .ty "bool") (by rfl) B.bool (by decide +kernel) rfl) pa_nil)))))))), ?_⟩
    refine ⟨_, rfl, _, _, _, _, _, rfl, .ty "int", tyx_of hd, kit_int d, _, rfl, ?_⟩
    cases ei : isI d with
    | false =>
      have e : isInt d = false := by cases d <;> first | rfl | cases ei
      rw [e] at q
      exact q
    | true =>
      refine ⟨_, rfl, _, _, _, _, _, rfl, .ty "bool", tyx_of hd, kit_bool d, _, rfl, ?_⟩
      have e : isInt d = !isB d := by cases d <;> first | rfl | cases ei
      rw [e] at q
      exact q

abbrev s_is_number : Stmt := topS 13
theorem sc_is_number : FnScope ["value", "low", "high"] ["value", "low", "high"] (defScope s_is_number) := ⟨rfl, rfl, rfl, by decide +kernel, rfl, by decide +kernel, by decide +kernel⟩
def spIsNumber (K : PySem.W.Frag) : Sp := fun vs H Q _ => ∃ (v : V) (d : PyData) (lo hi : Int), vs = [v, .int lo, .int hi] ∧ Dp K H v d ∧ Q (.bl (isNum d lo hi)) H
theorem ok_is_number (D : DefAt K mg "is_number" s_is_number) (c_is_whole : Cal P w K mg base CX0 1 "is_whole" ["value"] (spIsWhole K)) : Cal P w K mg base CX0 2 "is_number" ["value", "low", "high"] (spIsNumber K) := by
  refine D.ok sc_is_number (fun _ _ _ _ _ _ us hl => match us, hl with | [_, _, _], _ => rfl) (fun vs H Q E h => ?_) (fun f cdv A outer s H vs Q E hr h => ?_)
  · obtain ⟨v, d, lo, hi, rfl, _⟩ := h
    rfl
  · obtain ⟨v, d, lo, hi, rfl, hd, q⟩ := h
    refine ⟨_, (pss_one (ps_ret (pe_and (pe_cal c_is_whole (hr.mono (by decide)) (by rfl) pass0 (pa_cons (pv 0) pa_nil)) (pe_one (pe_chain op_le op_le (pv 1) (pv 0) (pv 2)))))), ?_⟩
    refine ⟨_, rfl, v, d, rfl, hd, ?_⟩
    cases ei : isInt d with
    | false =>
      have e : isNum d lo hi = false := by cases d <;> first | rfl | cases ei
      rw [e] at q
      exact ⟨_, rfl, q⟩
    | true =>
      obtain ⟨i, rfl⟩ : ∃ i, d = .int i := by cases d <;> first | exact ⟨_, rfl⟩ | (cases ei; done)
      cases hd
      refine ⟨_, rfl, ?_⟩
      refine ⟨_, rfl, _, rfl, _, _, rfl, rfl, _, rfl, ?_⟩
      refine ite2 (fun h1 => ?_) (fun h1 => ?_)
      · refine ⟨_, rfl, _, _, rfl, rfl, ?_⟩
        have e : isNum (.int i) lo hi = decide (i ≤ hi) := by
          show (decide (lo ≤ i) && decide (i ≤ hi)) = _
          rw [h1]
          rfl
        rw [e] at q
        exact q
      · have e : isNum (.int i) lo hi = false := by
          show (decide (lo ≤ i) && decide (i ≤ hi)) = _
          rw [Bool.eq_false_iff.mpr h1]
          rfl
        rw [e] at q
        exact q

abbrev s_check_cut : Stmt := topS 15
theorem sc_check_cut : FnScope ["debts", "cut", "number", "debt", "amount"] ["debts", "cut"] (defScope s_check_cut) := ⟨rfl, rfl, rfl, by decide +kernel, rfl, by decide +kernel, by decide +kernel⟩
def spCheckCut (K : PySem.W.Frag) (C2 : Addr) : Sp := fun vs H Q E => ∃ (a : Addr) (ds : List Debt) (v : V) (dv : PyData), vs = [.ref a, v] ∧ DL K H a ds ∧ ds.length ≤ 100 ∧ (∀ d ∈ ds, 0 ≤ d.2.2 ∧ d.2.2 ≤ 1000000000) ∧ Dp K H v dv ∧
  (okCut ds dv = false → ∀ H', Same H H' → E (.ref C2) none H') ∧ (okCut ds dv = true → ∀ H', Same H H' → Q .non H')
theorem ok_check_cut {C2 : Addr} (D : DefAt K mg "check_cut" s_check_cut) (B : Blt mg) (x_BadCut : ExcOf K mg "BadCut" C2) (c_is_number : Cal P w K mg base CX0 2 "is_number" ["value", "low", "high"] (spIsNumber K)) :
    Cal P w K mg base (L2N.CX P w) 3 "check_cut" ["debts", "cut"] (spCheckCut K C2) := by
  refine D.okN sc_check_cut (fun _ _ _ _ _ _ us hl => match us, hl with | [_, _], _ => rfl) (fun vs H Q E h => ?_) (fun f cdv A outer s H vs Q E hr h => ?_)
  · obtain ⟨a, ds, v, dv, rfl, _⟩ := h
    rfl
  · obtain ⟨a, ds, v, dv, rfl, ⟨xs, hS, hD⟩, hlen, hamt, hv, e2, q⟩ := h
    refine ⟨_, (pss_cons (ps_if (PW.pt (pw_or (pt_not (pt_val (pe_callB (r := rIsi K) call_isi (by rfl) B.isinstance (by decide +kernel) (pa_cons (pv 1) (pa_cons (pe_bltn (v := .ty "list") (by rfl) B.list (by decide +kernel) rfl) pa_nil))))) (pw_or1 (pt_cmpR op_ne (pe_callB (r := rLenQ K) call_len_seq (by rfl) B.len (by decide +kernel) (pa_cons (pv 1) pa_nil)) (pe_callB (r := rLenQ K) call_len_seq (by rfl) B.len (by decide +kernel) (pa_cons (pv 0) pa_nil)) (nomark _))))) (pss_one (L2N.ps_raise rfl (L2N.takes_of rfl rfl rfl rfl) (pmk_x x_BadCut (pa_cons pe_str pa_nil) (by rfl)))) pss_nil)
      (pss_one (ps_for (passes_of rfl) rfl (pi_enum (by rfl) B.enumerate (pa_cons (pv 0) pa_nil)) (pg_tup rfl (pgs_cons (pg_name (i := 2) sc_check_cut.nd rfl (.inl rfl)) (pgs_cons (pg_name (i := 3) sc_check_cut.nd rfl (.inl rfl)) pgs_nil))) (pss_cons (ps_set (i := 4) sc_check_cut.nd rfl (.inl rfl) (pe_ix (r := rIxT K) ix_tup (pv 3) pe_int (fun _ _ => rfl)))
        (pss_one (ps_if (pt_not (pt_val (pe_cal c_is_number (hr.mono (by decide)) (by rfl) pass0 (pa_cons (pe_ix (r := rIxL K) ix_list (pv 1) (pv 2) (fun _ _ => rfl)) (pa_cons pe_int (pa_cons (pv 4) pa_nil)))))) (pss_one (L2N.ps_raise rfl (L2N.takes_of rfl rfl rfl rfl) (pmk_x x_BadCut (pa_cons (pe_joined (.cons pe_str (.cons (pe_fmt (pv 2)) (.cons pe_str (.cons (pe_fmt (pv 4)) .nil))))) pa_nil) (by rfl)))) pss_nil)))))), ?_⟩
    refine ⟨_, rfl, _, _, _, _, _, rfl, .ty "list", tyx_of hv, kit_list dv, _, rfl, ?_⟩
    cases el : isL dv with
    | false =>
      have ek : okCut ds dv = false := by cases dv <;> first | rfl | (cases el; done)
      exact ⟨by show 1 ≤ 100; decide, e2 ek H (Same.refl H)⟩
    | true =>
      obtain ⟨es, rfl⟩ : ∃ es, dv = .list es := by cases dv <;> first | exact ⟨_, rfl⟩ | (cases el; done)
      cases hv with
      | @lst b ys _ hs ha =>
      have hl' := dpA_len ha
      have hl := dvs_len hD
      refine ⟨_, rfl, b, ys, rfl, .inl hs, _, rfl, a, xs, rfl, .inl hS, rfl, _, rfl, ite2 (fun e => ?_) (fun e => ?_)⟩
      · have hne : es.length ≠ ds.length := fun z => by
          rw [hl', hl, z] at e
          simp at e
        have ek : okCut ds (.list es) = false := by
          show (decide (es.length = ds.length) && _) = false
          rw [decide_eq_false hne]
          rfl
        exact ⟨by show 1 ≤ 100; decide, e2 ek H (Same.refl H)⟩
      · have heq : es.length = ds.length := by
          rw [hl', hl] at e
          by_cases z : es.length = ds.length
          · exact z
          · refine absurd ?_ e
            rw [decide_eq_false (fun y => z (by have := V.int.inj y; omega))]
            rfl
        refine ⟨_, rfl, a, xs, rfl, hS, for_it (walk_enum (xs := xs)) (fun i σ H1 => ∃ y2 y3 y4, σ = [some (.ref a), some (.ref b), y2, y3, y4] ∧ Same H H1 ∧ ∀ j, j < i → isNum (es.getD j .none) 0 ((ds.getD j (0, 0, 0)).2.2) = true) ⟨_, _, _, rfl, Same.refl H, fun j hj => absurd hj (Nat.not_lt_zero j)⟩ ?_ ?_ ?_⟩
        · rintro i σ H1 _ ⟨_, _, _, _, sm, _⟩
          exact sm.seq hS
        · rintro i x σ H1 H2 hi ⟨y2, y3, y4, rfl, sm, hall⟩ ⟨T, x1, x2, rfl, nT, rfl, f1, f2⟩
          cases f1
          have s2 := same_new (o := .tup [.int (i : Nat), x2]) nT
          have sm2 := sm.trans s2
          obtain ⟨d, ed, t, rfl, hT⟩ := dvs_get (sm2.dvs hD) f2
          obtain ⟨e, ee⟩ : ∃ e, es[i]? = some e := ⟨_, List.getElem?_eq_getElem (by omega)⟩
          obtain ⟨u, eu, hu⟩ := dpA_get' (sm2.dpA ha) ee
          have gd : (ds.getD i (0, 0, 0)) = d := by
            rw [List.getD_eq_getElem?_getD, ed]
            rfl
          have ge : es.getD i .none = e := by
            rw [List.getD_eq_getElem?_getD, ee]
            rfl
          refine ⟨T, _, rfl, SqT.of upd_same, rfl, _, _, rfl, _, _, rfl, rfl, ?_⟩
          refine ⟨_, rfl, t, _, 2, .int d.2.2, rfl, rfl, hT, rfl, ?_⟩
          refine ⟨_, rfl, _, rfl, b, ys, _, u, rfl, rfl, sm2.seq hs, atI_nat eu, _, rfl, u, e, 0, d.2.2, rfl, hu, _, rfl, ?_⟩
          cases en : isNum e 0 d.2.2 with
          | true =>
            refine ⟨_, _, _, rfl, sm2, fun j hj => ?_⟩
            by_cases z : j < i
            · exact hall j z
            · have : j = i := by omega
              subst this
              rw [gd, ge]
              exact en
          | false =>
            have ek : okCut ds (.list es) = false := by
              cases h : okCut ds (.list es) with
              | false => rfl
              | true =>
                have h' : (decide (es.length = ds.length) && (List.range ds.length).all fun i => isNum (es.getD i .none) 0 ((ds.getD i (0, 0, 0)).2.2)) = true := h
                rw [Bool.and_eq_true, List.all_eq_true] at h'
                have z := h'.2 i (List.mem_range.mpr (by omega))
                rw [gd, ge, en] at z
                cases z
            have hd := hamt d (List.mem_of_getElem? ed)
            exact js_c (m := 0) (n := 60) (Nat.le_refl _) (by decide +kernel) (by decide) fun a ha => js_v ha rfl (small_pow (by
              show i < 2 ^ 64
              omega)) (by decide) fun a ha => js_c (n := 60) ha (by decide +kernel) (by decide) fun a ha => js_v ha rfl (small_pow (by omega)) (by decide) fun a ha => js_end ⟨by show 1 ≤ 100; decide, e2 ek _ sm2⟩
        · rintro σ H1 ⟨y2, y3, y4, rfl, sm, hall⟩
          refine q ?_ H1 sm
          show (decide (es.length = ds.length) && (List.range ds.length).all fun i => isNum (es.getD i .none) 0 ((ds.getD i (0, 0, 0)).2.2)) = true
          rw [decide_eq_true heq, Bool.true_and, List.all_eq_true]
          intro i hi
          exact hall i (by rw [hl]; exact List.mem_range.mp hi)

abbrev s_check_prices : Stmt := topS 17
theorem sc_check_prices : FnScope ["count", "tags", "house", "tag"] ["count", "tags"] (defScope s_check_prices) := ⟨rfl, rfl, rfl, by decide +kernel, rfl, by decide +kernel, by decide +kernel⟩
theorem okTags_inv {n : Int} {d : PyData} (h : okTags n d = true) : ∃ ts : List Int, d = .list (ts.map PyData.int) ∧ (ts.length : Int) = n := by
  cases d with
  | list es =>
    have h' : (decide ((es.length : Int) = n) && es.all isInt) = true := h
    rw [Bool.and_eq_true, List.all_eq_true] at h'
    refine ⟨es.map fun e => match e with | .int i => i | _ => 0, ?_, by rw [List.length_map]; exact of_decide_eq_true h'.1⟩
    rw [List.map_map]
    congr 1
    refine List.ext_getElem (by rw [List.length_map]) fun i h1 h2 => ?_
    rw [List.getElem_map]
    have z := h'.2 es[i] (List.getElem_mem h1)
    generalize es[i] = e at z ⊢
    cases e <;> first | rfl | cases z
  | _ => cases h
def spCheckPrices (K : PySem.W.Frag) (C4 : Addr) : Sp := fun vs H Q E => ∃ (n : Int) (u : V) (du : PyData), vs = [.int n, u] ∧ n ≤ 20 ∧ Dp K H u du ∧
  (okTags n du = false → ∀ H', Same H H' → E (.ref C4) none H') ∧ (okTags n du = true → ∀ H', Same H H' → Q .non H')
theorem ok_check_prices {C4 : Addr} (D : DefAt K mg "check_prices" s_check_prices) (B : Blt mg) (x_BadPrices : ExcOf K mg "BadPrices" C4) (c_is_whole : Cal P w K mg base CX0 1 "is_whole" ["value"] (spIsWhole K)) :
    Cal P w K mg base (L2N.CX P w) 2 "check_prices" ["count", "tags"] (spCheckPrices K C4) := by
  refine D.okN sc_check_prices (fun _ _ _ _ _ _ us hl => match us, hl with | [_, _], _ => rfl) (fun vs H Q E h => ?_) (fun f cdv A outer s H vs Q E hr h => ?_)
  · obtain ⟨n, u, du, rfl, _⟩ := h
    rfl
  · obtain ⟨n, u, du, rfl, nM, hu, e4, q⟩ := h
    refine ⟨_, (pss_cons (ps_if (PW.pt (pw_or (pt_not (pt_val (pe_callB (r := rIsi K) call_isi (by rfl) B.isinstance (by decide +kernel) (pa_cons (pv 1) (pa_cons (pe_bltn (v := .ty "list") (by rfl) B.list (by decide +kernel) rfl) pa_nil))))) (pw_or1 (pt_cmpR op_ne (pe_callB (r := rLenQ K) call_len_seq (by rfl) B.len (by decide +kernel) (pa_cons (pv 1) pa_nil)) (pv 0) (nomark _))))) (pss_one (L2N.ps_raise rfl (L2N.takes_of rfl rfl rfl rfl) (pmk_x x_BadPrices (pa_cons pe_str pa_nil) (by rfl)))) pss_nil)
      (pss_one (ps_for (passes_of rfl) rfl (pi_enum (by rfl) B.enumerate (pa_cons (pv 1) pa_nil)) (pg_tup rfl (pgs_cons (pg_name (i := 2) sc_check_prices.nd rfl (.inl rfl)) (pgs_cons (pg_name (i := 3) sc_check_prices.nd rfl (.inl rfl)) pgs_nil))) (pss_one (ps_if (pt_not (pt_val (pe_cal c_is_whole (hr.mono (by decide)) (by rfl) pass0 (pa_cons (pv 3) pa_nil)))) (pss_one (L2N.ps_raise rfl (L2N.takes_of rfl rfl rfl rfl) (pmk_x x_BadPrices (pa_cons (pe_joined (.cons pe_str (.cons (pe_fmt (pv 2)) (.cons pe_str .nil)))) pa_nil) (by rfl)))) pss_nil))))), ?_⟩
    refine ⟨_, rfl, _, _, _, _, _, rfl, .ty "list", tyx_of hu, kit_list du, _, rfl, ?_⟩
    cases el : isL du with
    | false =>
      have ek : okTags n du = false := by cases du <;> first | rfl | (cases el; done)
      exact ⟨by show 1 ≤ 100; decide, e4 ek H (Same.refl H)⟩
    | true =>
      obtain ⟨es, rfl⟩ : ∃ es, du = .list es := by cases du <;> first | exact ⟨_, rfl⟩ | (cases el; done)
      cases hu with
      | @lst b ys _ hs ha =>
      have hl' := dpA_len ha
      refine ⟨_, rfl, b, ys, rfl, .inl hs, _, rfl, rfl, _, rfl, ite2 (fun e => ?_) (fun e => ?_)⟩
      · have hne : ¬ (es.length : Int) = n := fun z => by
          rw [hl', z] at e
          simp at e
        have ek : okTags n (.list es) = false := by
          show (decide ((es.length : Int) = n) && _) = false
          rw [decide_eq_false hne]
          rfl
        exact ⟨by show 1 ≤ 100; decide, e4 ek H (Same.refl H)⟩
      · have heq : (es.length : Int) = n := by
          rw [hl'] at e
          by_cases z : (es.length : Int) = n
          · exact z
          · refine absurd ?_ e
            rw [decide_eq_false (fun y => z (by have := V.int.inj y; omega))]
            rfl
        refine ⟨_, rfl, b, ys, rfl, hs, for_it (walk_enum (xs := ys)) (fun i σ H1 => ∃ y2 y3, σ = [some (.int n), some (.ref b), y2, y3] ∧ Same H H1 ∧ (es.take i).all isInt = true) ⟨_, _, rfl, Same.refl H, rfl⟩ ?_ ?_ ?_⟩
        · rintro i σ H1 _ ⟨_, _, _, sm, _⟩
          exact sm.seq hs
        · rintro i x σ H1 H2 hi ⟨y2, y3, rfl, sm, hall⟩ ⟨T, x1, x2, rfl, nT, rfl, f1, f2⟩
          cases f1
          have s2 := same_new (o := .tup [.int (i : Nat), x2]) nT
          have sm2 := sm.trans s2
          obtain ⟨d, ed, hd⟩ := dpA_get (sm2.dpA ha) f2
          refine ⟨T, _, rfl, SqT.of upd_same, rfl, _, _, rfl, _, _, rfl, rfl, ?_⟩
          refine ⟨_, rfl, x2, d, rfl, hd, _, rfl, ?_⟩
          cases en : isInt d with
          | true =>
            refine ⟨_, _, rfl, sm2, ?_⟩
            rw [List.take_add_one, ed, List.all_append, hall]
            show (true && (isInt d && true)) = true
            rw [en]
            rfl
          | false =>
            have ek : okTags n (.list es) = false := by
              show (decide ((es.length : Int) = n) && es.all isInt) = false
              have z : es.all isInt = false := List.all_eq_false.mpr ⟨d, List.mem_of_getElem? ed, by rw [en]; decide⟩
              rw [z, Bool.and_false]
            exact js_c (m := 0) (n := 60) (Nat.le_refl _) (by decide +kernel) (by decide) fun a ha => js_v ha rfl (small_pow (by
              show i < 2 ^ 64
              omega)) (by decide) fun a ha => js_c (n := 60) ha (by decide +kernel) (by decide) fun a ha => js_end ⟨by show 1 ≤ 100; decide, e4 ek _ sm2⟩
        · rintro σ H1 ⟨y2, y3, rfl, sm, hall⟩
          refine q ?_ H1 sm
          show (decide ((es.length : Int) = n) && es.all isInt) = true
          rw [hl', List.take_length] at hall
          rw [hall, decide_eq_true heq]
          rfl

abbrev s_shown : Stmt := topS 18
theorem sc_shown : FnScope ["count", "debts", "cut", "tags", "off", "debtor", "creditor", "amount", "lure"] ["count", "debts", "cut", "tags"] (defScope s_shown) := ⟨rfl, rfl, rfl, by decide +kernel, rfl, by decide +kernel, by decide +kernel⟩
theorem ok_shown {C2 C4 : Addr} (D : DefAt K mg "shown" s_shown) (B : Blt mg) (c_check_cut : Cal P w K mg base (L2N.CX P w) 3 "check_cut" ["debts", "cut"] (spCheckCut K C2)) (c_check_prices : Cal P w K mg base (L2N.CX P w) 2 "check_prices" ["count", "tags"] (spCheckPrices K C4)) :
    Cal P w K mg base (L2N.CX P w) 4 "shown" ["count", "debts", "cut", "tags"] (spShown K C2 C4) := by
  refine D.okN sc_shown (fun _ _ _ _ _ _ us hl => match us, hl with | [_, _, _, _], _ => rfl) (fun vs H Q E h => ?_) (fun f cdv A outer s H vs Q E hr h => ?_)
  · obtain ⟨n, a, ds, v, u, dv, du, rfl, _⟩ := h
    rfl
  · obtain ⟨n, a, ds, v, u, dv, du, rfl, n1, nM, hin, hD, hlen, hamt, hv, hu, e2, e4, q⟩ := h
    refine ⟨_, (pss_cons (ps_expr (pe_cal c_check_cut (hr.mono (by decide)) (by rfl) (L2N.passes_call (L2N.takes_of rfl rfl rfl rfl) (fun _ _ _ _ z => z)) (pa_cons (pv 1) (pa_cons (pv 2) pa_nil))))
      (pss_cons (ps_expr (pe_cal c_check_prices (hr.mono (by decide)) (by rfl) (L2N.passes_call (L2N.takes_of rfl rfl rfl rfl) (fun _ _ _ _ z => z)) (pa_cons (pv 0) (pa_cons (pv 3) pa_nil))))
      (pss_cons (ps_for (passes_of rfl) rfl (pi_zip (by rfl) B.zip (pa_cons (pv 2) (pa_cons (pv 1) pa_nil))) (pg_tup rfl (pgs_cons (pg_name (i := 4) sc_shown.nd rfl (.inl rfl)) (pgs_cons (pg_tup rfl (pgs_cons (pg_name (i := 5) sc_shown.nd rfl (.inl rfl)) (pgs_cons (pg_name (i := 6) sc_shown.nd rfl (.inl rfl)) (pgs_cons (pg_name (i := 7) sc_shown.nd rfl (.inl rfl)) pgs_nil)))) pgs_nil))) (pss_cons (ps_set (i := 8) sc_shown.nd rfl (.inl rfl) (pe_op op_sub (pe_op op_add pe_int (pe_ix (r := rIxL K) ix_list (pv 3) (pv 5) (fun _ _ => rfl))) (pe_ix (r := rIxL K) ix_list (pv 3) (pv 6) (fun _ _ => rfl))))
        (_root_.C8.pss_cut (ps_if (PW.pt (pw_and (pt_cmpR op_lt (pv 8) pe_int (nomark _)) (pw_and1 (pt_cmpR op_gt (pv 4) pe_int (nomark _))))) (pss_one (ps_ret pe_bl)) pss_nil)
        (pss_one (ps_if (PW.pt (pw_and (pt_cmpR op_gt (pv 8) pe_int (nomark _)) (pw_and1 (pt_cmpR op_lt (pv 4) (pv 7) (nomark _))))) (pss_one (ps_ret pe_bl)) pss_nil)))))
      (pss_one (ps_ret pe_bl))))), ?_⟩
    refine ⟨_, rfl, _, rfl, a, ds, v, dv, rfl, hD, hlen, hamt, hv, e2, fun ok H1 s1 => ?_⟩
    obtain ⟨cs, rfl, hc⟩ := okCut_inv ok
    refine ⟨_, rfl, _, rfl, n, u, du, rfl, nM, s1.dp hu, fun bad H2 s2 => e4 ok bad H2 (s1.trans s2), fun okt H2 s2 => ?_⟩
    obtain ⟨ts, rfl, htl⟩ := okTags_inv okt
    have sm0 := s1.trans s2
    have q := q cs ts rfl hc rfl htl
    obtain ⟨b, rfl, hC⟩ := dp_ints hv
    obtain ⟨t, rfl, hT⟩ := dp_ints hu
    obtain ⟨xs, hS, hX⟩ := hD
    have hxl := dvs_len hX
    have hcl := hc.len
    refine ⟨_, rfl, _, rfl, b, a, _, xs, rfl, sm0.seq hC, sm0.seq hS, for_it (walk_zip (xs := cs.map V.int) (ys := xs) (n := xs.length) (by rw [List.length_map]; omega))
      (fun i σ H3 => ∃ y4 y5 y6 y7 y8, σ = [some (.int n), some (.ref a), some (.ref b), some (.ref t), y4, y5, y6, y7, y8] ∧ Same H H3 ∧ (((ds.zip cs).take i).all (showB (priceAt ts))) = true) ⟨_, _, _, _, _, rfl, sm0, rfl⟩ ?_ ?_ ?_⟩
    · rintro i σ H3 _ ⟨_, _, _, _, _, _, sm, _⟩
      exact ⟨sm.seq hC, sm.seq hS⟩
    · rintro i x σ H3 H4 hi ⟨y4, y5, y6, y7, y8, rfl, sm, hok⟩ ⟨T, x1, x2, rfl, nT, rfl, f1, f2⟩
      obtain ⟨c, ec, rfl⟩ := ints_get f1
      have sm2 := sm.trans (same_new (o := .tup [.int c, x2]) nT)
      obtain ⟨d, ed, u, rfl, hU⟩ := dvs_get (sm2.dvs hX) f2
      obtain ⟨a0, an, b0, bn⟩ := hin _ (List.mem_of_getElem? ed)
      have et1 : atI (ts.map V.int) d.1 = some (.int (priceAt ts d.1)) := at_int (by omega) (by omega)
      have et2 : atI (ts.map V.int) d.2.1 = some (.int (priceAt ts d.2.1)) := at_int (by omega) (by omega)
      have more : (((ds.zip cs).take (i + 1)).all (showB (priceAt ts))) = showB (priceAt ts) (d, c) := by
        rw [zip_take ed ec, List.all_append, hok]
        simp
      have full : showB (priceAt ts) (d, c) = false → showsB (priceAt ts) ds cs = false := fun z => by
        unfold showsB
        rw [List.all_eq_false]
        refine ⟨(d, c), List.mem_of_getElem? (i := i) ?_, by rw [z]; decide⟩
        rw [List.getElem?_zip_eq_some]
        exact ⟨ed, ec⟩
      refine ⟨T, _, rfl, SqT.of upd_same, rfl, _, _, rfl, _, _, rfl, ⟨u, _, rfl, hU, rfl, _, _, rfl, _, _, rfl, _, _, rfl, rfl, rfl, ?_⟩⟩
      have hT3 := sm2.seq hT
      generalize upd H3 T (.tup [.int c, .ref u]) = H5 at sm2 hT3 hU ⊢
      refine ⟨_, rfl, _, rfl, t, _, _, _, rfl, rfl, hT3, et1, _, _, rfl, rfl, _, rfl, _, rfl, t, _, _, _, rfl, rfl, hT3, et2, _, _, rfl, rfl, ?_⟩
      have el : lure (priceAt ts) d = 1 + priceAt ts d.1 - priceAt ts d.2.1 := rfl
      walk_at "nf"
      generalize hl : 1 + priceAt ts d.1 - priceAt ts d.2.1 = l at el ⊢
      have eb : showB (priceAt ts) (d, c) = (!(decide (l < 0) && decide (0 < c)) && !(decide (0 < l) && decide (c < d.2.2))) := by
        unfold showB
        rw [el]
      have step1 : (decide (l < 0) && decide (0 < c)) = true → showB (priceAt ts) (d, c) = false := fun z => by
        rw [eb, z]
        rfl
      have step2 : (decide (0 < l) && decide (c < d.2.2)) = true → showB (priceAt ts) (d, c) = false := fun z => by
        rw [eb, z, Bool.not_true, Bool.and_false]
      have bad : showB (priceAt ts) (d, c) = false → Q (.bl false) H5 := fun z => by
        have q := q H5 sm2
        rw [full z] at q
        exact q
      have fin : showB (priceAt ts) (d, c) = true → (((ds.zip cs).take (i + 1)).all (showB (priceAt ts))) = true := fun z => more.trans z
      refine ⟨fun σ' H' => σ' = [some (.int n), some (.ref a), some (.ref b), some (.ref t), some (.int c), some (.int d.1), some (.int d.2.1), some (.int d.2.2), some (.int l)] ∧ H' = H5 ∧ (decide (l < 0) && decide (0 < c)) = false, ?_, ?_⟩
      · refine ⟨_, rfl, _, _, rfl, rfl, _, rfl, ?_⟩
        by_cases h1 : l < 0
        · rw [decide_eq_true h1]
          refine ⟨_, rfl, _, _, rfl, rfl, _, rfl, ?_⟩
          by_cases h2 : 0 < c
          · rw [decide_eq_true h2]
            exact bad (step1 (by rw [decide_eq_true h1, decide_eq_true h2]; rfl))
          · rw [decide_eq_false h2]
            exact ⟨rfl, rfl, rfl⟩
        · rw [decide_eq_false h1]
          exact ⟨rfl, rfl, rfl⟩
      · rintro σ' H' ⟨rfl, rfl, z1⟩
        refine ⟨_, rfl, _, _, rfl, rfl, _, rfl, ?_⟩
        by_cases h3 : 0 < l
        · rw [decide_eq_true h3]
          refine ⟨_, rfl, _, rfl, _, _, rfl, rfl, _, rfl, ?_⟩
          by_cases h4 : c < d.2.2
          · rw [decide_eq_true h4]
            exact bad (step2 (by rw [decide_eq_true h3, decide_eq_true h4]; rfl))
          · rw [decide_eq_false h4]
            exact ⟨_, _, _, _, _, rfl, sm2, fin (by rw [eb, z1, decide_eq_false h4, Bool.and_false]; rfl)⟩
        · rw [decide_eq_false h3]
          exact ⟨_, _, _, _, _, rfl, sm2, fin (by rw [eb, z1, decide_eq_false h3, Bool.false_and]; rfl)⟩
    · rintro σ H3 ⟨y4, y5, y6, y7, y8, rfl, sm, hok⟩
      have e : (ds.zip cs).take xs.length = ds.zip cs := List.take_of_length_le (by rw [List.length_zip]; omega)
      rw [e] at hok
      have q := q H3 sm
      have q' : showsB (priceAt ts) ds cs = true := hok
      rw [q'] at q
      exact q

abbrev s_L_shows : Stmt := topS 26
theorem sc_L_shows : FnScope ["_law_debts_here", "_law_cut", "_law_tags_here", "_law_number", "_law_debtor", "_law_creditor", "_law_amount", "_law_lure"] ["_law_debts_here", "_law_cut", "_law_tags_here"] (defScope s_L_shows) := ⟨rfl, rfl, rfl, by decide +kernel, rfl, by decide +kernel, by decide +kernel⟩
def spShows (K : PySem.W.Frag) : Sp := fun vs H Q _ => ∃ (a b t : Addr) (n : Int) (ds : List Debt) (cs ts : List Int), vs = [.ref a, .ref b, .ref t] ∧ DL K H a ds ∧ SqL K H b (cs.map V.int) ∧ SqL K H t (ts.map V.int) ∧
  cs.length = ds.length ∧ (ts.length : Int) = n ∧ ds.length ≤ 100 ∧ (∀ d ∈ ds, InB n d) ∧ Q (.bl (showsB (priceAt ts) ds cs)) H
theorem ok_L_shows (D : DefAt K mg "_law_shows" s_L_shows) (B : Blt mg) : Cal P w K mg base CX0 1 "_law_shows" ["_law_debts_here", "_law_cut", "_law_tags_here"] (spShows K) := by
  refine D.ok sc_L_shows (fun _ _ _ _ _ _ us hl => match us, hl with | [_, _, _], _ => rfl) (fun vs H Q E h => ?_) (fun f cdv A outer s H vs Q E hr h => ?_)
  · obtain ⟨a, b, t, n, ds, cs, ts, rfl, _⟩ := h
    rfl
  · obtain ⟨a, b, t, n, ds, cs, ts, rfl, ⟨xs, hS, hX⟩, hC, hT, hcl, htl, hlen, hin, q⟩ := h
    refine ⟨_, (pss_cons (ps_for PassesOwn.never rfl (pi_range1 (by rfl) B.range (pa_cons (pe_callB (r := rLenQ K) call_len_seq (by rfl) B.len (by decide +kernel) (pa_cons (pv 0) pa_nil)) pa_nil)) (pg_name (i := 3) sc_L_shows.nd rfl (.inl rfl)) (pss_cons (ps_asg (pe_ix (r := rIxL K) ix_list (pv 0) (pv 3) (fun _ _ => rfl)) (pg_tup rfl (pgs_cons (pg_name (i := 4) sc_L_shows.nd rfl (.inl rfl)) (pgs_cons (pg_name (i := 5) sc_L_shows.nd rfl (.inl rfl)) (pgs_cons (pg_name (i := 6) sc_L_shows.nd rfl (.inl rfl)) pgs_nil)))))
        (pss_cons (ps_set (i := 7) sc_L_shows.nd rfl (.inl rfl) (pe_op op_sub (pe_op op_add pe_int (pe_ix (r := rIxL K) ix_list (pv 2) (pv 4) (fun _ _ => rfl))) (pe_ix (r := rIxL K) ix_list (pv 2) (pv 5) (fun _ _ => rfl))))
        (pss_cons (ps_if (PW.pt (pw_and (pt_cmpR op_lt (pv 7) pe_int (nomark _)) (pw_and1 (pt_cmpR op_gt (pe_ix (r := rIxL K) ix_list (pv 1) (pv 3) (fun _ _ => rfl)) pe_int (nomark _))))) (pss_one (ps_ret pe_bl)) pss_nil)
        (pss_one (ps_if (PW.pt (pw_and (pt_cmpR op_gt (pv 7) pe_int (nomark _)) (pw_and1 (pt_cmpR op_lt (pe_ix (r := rIxL K) ix_list (pv 1) (pv 3) (fun _ _ => rfl)) (pv 6) (nomark _))))) (pss_one (ps_ret pe_bl)) pss_nil))))))
      (pss_one (ps_ret pe_bl))), ?_⟩
    have hxl := dvs_len hX
    refine ⟨_, rfl, a, xs, rfl, .inl hS, _, rfl, by omega, by omega, for_range (lo := 0) (n := (xs.length : Int).toNat) (fun k σ H1 => H1 = H ∧ (((ds.zip cs).take k).all (showB (priceAt ts))) = true ∧ ∃ y3 y4 y5 y6 y7, σ = [some (.ref a), some (.ref b), some (.ref t), y3, y4, y5, y6, y7])
      ⟨rfl, rfl, _, _, _, _, _, rfl⟩ ?_ ?_⟩
    · rintro k σ H1 hk ⟨rfl, hok, y3, y4, y5, y6, y7, rfl⟩
      have hk' : k < ds.length := by omega
      have ek : (0 : Int) + (k : Int) = (k : Int) := Int.zero_add _
      obtain ⟨v, ev, u, rfl, hU⟩ := dvs_get' hX (dbt_at hk')
      have ed := dbt_at hk'
      obtain ⟨a0, an, b0, bn⟩ := hin _ (List.mem_of_getElem? ed)
      generalize dbt ds k = d at hU ed a0 an b0 bn
      have er : atI (cs.map V.int) (0 + (k : Int)) = some (.int (cs.getD k 0)) := by
        have z := at_int (l := cs) (i := (k : Int)) (by omega) (by omega)
        rw [ek, z]
        rfl
      have ec : cs[k]? = some (cs.getD k 0) := by
        rw [List.getD_eq_getElem?_getD, List.getElem?_eq_getElem (by omega)]
        rfl
      generalize cs.getD k 0 = c at er ec
      have et1 : atI (ts.map V.int) d.1 = some (.int (priceAt ts d.1)) := at_int (by omega) (by omega)
      have et2 : atI (ts.map V.int) d.2.1 = some (.int (priceAt ts d.2.1)) := at_int (by omega) (by omega)
      have more : (((ds.zip cs).take (k + 1)).all (showB (priceAt ts))) = showB (priceAt ts) (d, c) := by
        rw [zip_take ed ec, List.all_append, hok]
        simp
      have full : showB (priceAt ts) (d, c) = false → showsB (priceAt ts) ds cs = false := fun z => by
        unfold showsB
        rw [List.all_eq_false]
        refine ⟨(d, c), List.mem_of_getElem? (i := k) ?_, by rw [z]; decide⟩
        rw [List.getElem?_zip_eq_some]
        exact ⟨ed, ec⟩
      refine ⟨_, rfl, _, rfl, a, xs, _, _, rfl, rfl, hS, at_of ek ev, u, _, rfl, hU, rfl, _, _, rfl, _, _, rfl, _, _, rfl, rfl, ?_⟩
      refine ⟨_, rfl, _, rfl, t, _, _, _, rfl, rfl, hT, et1, _, _, rfl, rfl, _, rfl, _, rfl, t, _, _, _, rfl, rfl, hT, et2, _, _, rfl, rfl, ?_⟩
      have el : lure (priceAt ts) d = 1 + priceAt ts d.1 - priceAt ts d.2.1 := rfl
      walk_at "nf"
      generalize hl : 1 + priceAt ts d.1 - priceAt ts d.2.1 = l at el ⊢
      have eb : showB (priceAt ts) (d, c) = (!(decide (l < 0) && decide (0 < c)) && !(decide (0 < l) && decide (c < d.2.2))) := by
        unfold showB
        rw [el]
      have step1 : (decide (l < 0) && decide (0 < c)) = true → showB (priceAt ts) (d, c) = false := fun z => by
        rw [eb, z]
        rfl
      have step2 : (decide (0 < l) && decide (c < d.2.2)) = true → showB (priceAt ts) (d, c) = false := fun z => by
        rw [eb, z, Bool.not_true, Bool.and_false]
      have fin : showB (priceAt ts) (d, c) = true → ∀ y, (H1 = H1 ∧ (((ds.zip cs).take (k + 1)).all (showB (priceAt ts))) = true ∧ ∃ y3 y4 y5 y6 y7, ([some (.ref a), some (.ref b), some (.ref t), y, some (.int d.1), some (.int d.2.1), some (.int d.2.2), some (.int l)] : L2.St) = [some (.ref a), some (.ref b), some (.ref t), y3, y4, y5, y6, y7]) :=
        fun z y => ⟨rfl, more.trans z, _, _, _, _, _, rfl⟩
      have bad : showB (priceAt ts) (d, c) = false → Q (.bl false) H1 := fun z => by
        rw [full z] at q
        exact q
      have second : (decide (l < 0) && decide (0 < c)) = false → (tIfS
                  (tAnd (tTest (tOp (rI0 fun i j => V.bl (decide (j < i))) (tVar 7) (tC (V.int 0))))
                    (tTest (tOp (rI0 fun i j => V.bl (decide (i < j))) (tOp (rIxL K) (tVar 1) (tVar 3)) (tVar 6))))
                  (tRet (tC (V.bl false))) tNext : TS)
                { nx := fun σ H1_2 =>
                    H1_2 = H1 ∧
                      (List.take (k + 1) (ds.zip cs)).all (showB (priceAt ts)) = true ∧
                        ∃ y3 y4 y5 y6 y7, σ = [some (V.ref a), some (V.ref b), some (V.ref t), y3, y4, y5, y6, y7], rt := Q } [some (.ref a), some (.ref b), some (.ref t), some (.int (0 + (k : Int))), some (.int d.1), some (.int d.2.1), some (.int d.2.2), some (.int l)] H1 := fun z1 => by
        refine ⟨_, rfl, _, _, rfl, rfl, _, rfl, ?_⟩
        by_cases h3 : 0 < l
        · rw [decide_eq_true h3]
          refine ⟨_, rfl, _, rfl, b, _, _, _, rfl, rfl, hC, er, _, rfl, _, _, rfl, rfl, _, rfl, ?_⟩
          by_cases h4 : c < d.2.2
          · rw [decide_eq_true h4]
            exact bad (step2 (by rw [decide_eq_true h3, decide_eq_true h4]; rfl))
          · rw [decide_eq_false h4]
            exact fin (by rw [eb, z1, decide_eq_false h4, Bool.and_false]; rfl) _
        · rw [decide_eq_false h3]
          exact fin (by rw [eb, z1, decide_eq_false h3, Bool.false_and]; rfl) _
      refine ⟨_, rfl, _, _, rfl, rfl, _, rfl, ?_⟩
      by_cases h1 : l < 0
      · rw [decide_eq_true h1]
        refine ⟨_, rfl, _, rfl, b, _, _, _, rfl, rfl, hC, er, _, _, rfl, rfl, _, rfl, ?_⟩
        by_cases h2 : 0 < c
        · rw [decide_eq_true h2]
          exact bad (step1 (by rw [decide_eq_true h1, decide_eq_true h2]; rfl))
        · rw [decide_eq_false h2]
          exact second (by rw [decide_eq_false h2, Bool.and_false])
      · rw [decide_eq_false h1]
        exact second (by rw [decide_eq_false h1, Bool.false_and])
    · rintro σ H1 ⟨rfl, hok, y3, y4, y5, y6, y7, rfl⟩
      have e : (ds.zip cs).take (xs.length : Int).toNat = ds.zip cs := List.take_of_length_le (by rw [List.length_zip]; omega)
      rw [e] at hok
      have q' : showsB (priceAt ts) ds cs = true := hok
      rw [q'] at q
      exact q

abbrev s_L_tags : Stmt := topS 28
theorem sc_L_tags : FnScope ["_law_script", "_law_count_here", "_law_far", "_law_tags_here", "_law_house", "_law_mixed", "_law_tag"] ["_law_script", "_law_count_here"] (defScope s_L_tags) := ⟨rfl, rfl, rfl, by decide +kernel, rfl, by decide +kernel, by decide +kernel⟩
def spTags (K : PySem.W.Frag) : Sp := fun vs H Q _ => ∃ (a : Addr) (ns : List Int) (n : Int), vs = [.ref a, .int n] ∧ SqL K H a (ns.map V.int) ∧ 0 ≤ n ∧ n ≤ 20 ∧
  ∀ (H' : Hp) (p : Addr) (ts : List Int), Same H H' → H p = none → H' p = some (.lst (ts.map V.int)) → (ts.length : Int) = n → Q (.ref p) H'
theorem ok_L_tags (D : DefAt K mg "_law_tags" s_L_tags) (B : Blt mg) (c_L_cell_at : Cal P w K mg base CX0 1 "_law_cell_at" ["_law_script", "_law_k"] (spCell K)) : Cal P w K mg base CX0 2 "_law_tags" ["_law_script", "_law_count_here"] (spTags K) := by
  refine D.ok sc_L_tags (fun _ _ _ _ _ _ us hl => match us, hl with | [_, _], _ => rfl) (fun vs H Q E h => ?_) (fun f cdv A outer s H vs Q E hr h => ?_)
  · obtain ⟨a, ns, n, rfl, _⟩ := h
    rfl
  · obtain ⟨a, ns, n, rfl, hS, n0, nM, q⟩ := h
    refine ⟨_, (pss_cons (ps_set (i := 2) sc_L_tags.nd rfl (.inl rfl) (pe_op op_sub (pe_op op_mod (pe_cal c_L_cell_at (hr.mono (by decide)) (by rfl) pass0 (pa_cons (pv 0) (pa_cons pe_int pa_nil))) (pe_op op_pow pe_int pe_int)) (pe_op op_mul pe_int (pe_op op_pow pe_int pe_int))))
      (pss_cons (ps_set (i := 3) sc_L_tags.nd rfl (.inl rfl) (pe_lst pa_nil))
      (pss_cons (ps_for PassesOwn.never rfl (pi_range1 (by rfl) B.range (pa_cons (pv 1) pa_nil)) (pg_name (i := 4) sc_L_tags.nd rfl (.inl rfl)) (pss_cons (ps_set (i := 5) sc_L_tags.nd rfl (.inl rfl) (pe_op op_mod (pe_op op_mul (pe_op op_add (pe_op op_add (pe_op op_mod (pe_cal c_L_cell_at (hr.mono (by decide)) (by rfl) pass0 (pa_cons (pv 0) (pa_cons pe_int pa_nil))) pe_int) (pe_op op_mul pe_int (pv 4))) pe_int) pe_int) pe_int))
        (pss_cons (ps_set (i := 6) sc_L_tags.nd rfl (.inl rfl) (pe_op op_sub (pe_op op_mod (pv 5) pe_int) pe_int))
        (_root_.C8.pss_cut (ps_if (pt_cmpR op_eq (pe_op op_mod (pe_cal c_L_cell_at (hr.mono (by decide)) (by rfl) pass0 (pa_cons (pv 0) (pa_cons pe_int pa_nil))) pe_int) pe_int (nomark _)) (pss_one (ps_set (i := 6) sc_L_tags.nd rfl (.inl rfl) (pe_op op_add (pv 6) (pv 2)))) pss_nil)
        (_root_.C8.pss_cut (ps_if (PW.pt (pw_and (pt_cmpR op_eq (pe_op op_mod (pe_cal c_L_cell_at (hr.mono (by decide)) (by rfl) pass0 (pa_cons (pv 0) (pa_cons pe_int pa_nil))) pe_int) pe_int (nomark _)) (pw_and1 (pt_cmpR op_eq (pe_op op_mod (pe_op op_fdiv (pv 5) pe_int) pe_int) pe_int (nomark _))))) (pss_one (ps_set (i := 6) sc_L_tags.nd rfl (.inl rfl) (pe_op op_add (pv 2) (pv 5)))) pss_nil)
        (pss_one (ps_expr (pe_bm PySem.F.plainAttrs_list PySem.F.slot_list_append PySem.F.type_list_append mt_append (pv 3) (pa_cons (pv 6) pa_nil)))))))))
      (pss_one (ps_ret (pv 3)))))), ?_⟩
    refine ⟨_, rfl, a, ns, 2, rfl, hS, by decide, _, _, rfl, rfl, ⟨by decide, by decide, by decide⟩, _, _, rfl, rfl, by show (0 : Int) < 10 ^ (30 : Int).toNat; decide, ?_⟩
    refine ⟨_, _, rfl, rfl, ⟨by decide, by decide, by decide⟩, _, _, rfl, rfl, .inl ⟨by decide, by decide⟩, _, _, rfl, rfl, ?_⟩
    generalize cell ns 2 % 10 ^ (30 : Int).toNat - 5 * 10 ^ (29 : Int).toNat = far
    refine ⟨lb rfl, fun L hL => ?_⟩
    refine ⟨_, rfl, n, rfl, by omega, by omega, for_range (lo := 0) (n := n.toNat) (fun k σ H1 => ∃ y2 y4 y5 y6 ts, σ = [some (.ref a), some (.int n), some (.int y2), some (.ref L), y4, y5, y6] ∧ Same H H1 ∧ H1 L = some (.lst ((ts : List Int).map V.int)) ∧ ts.length = k)
      ⟨_, _, _, _, [], rfl, same_new hL, upd_same, rfl⟩ ?_ ?_⟩
    · rintro k σ H1 hk ⟨y2, y4, y5, y6, ts, rfl, sm, eL, hl⟩
      refine ⟨_, rfl, a, ns, 3, rfl, sm.seq hS, by decide, _, _, rfl, rfl, by show (0 : Int) < 1000000007; decide, _, rfl, _, _, rfl, rfl, .inl ⟨by decide, by decide⟩, _, _, rfl, rfl, _, _, rfl, rfl, _, _, rfl, rfl, .inr ⟨by decide, by decide⟩, _, _, rfl, rfl, by show (0 : Int) < 2147483647; decide, ?_⟩
      refine ⟨_, rfl, _, _, rfl, rfl, by show (0 : Int) < 9; decide, _, _, rfl, rfl, ?_⟩
      walk_at "nf"
      generalize (cell ns 3 % 1000000007 + 5003 * (0 + (k : Int)) + 7) * 48271 % 2147483647 = m
      refine ⟨fun σ' H' => H' = H1 ∧ ∃ y : Int, σ' = [some (.ref a), some (.int n), some (.int y2), some (.ref L), some (.int (0 + (k : Int))), some (.int m), some (.int y)], ?_, ?_⟩
      · refine ⟨_, rfl, a, ns, 4, rfl, sm.seq hS, by decide, _, _, rfl, rfl, by show (0 : Int) < 3; decide, rfl, _, rfl, ite2 (fun h2 => ?_) (fun h2 => ?_)⟩
        · exact ⟨_, rfl, _, rfl, _, _, rfl, rfl, rfl, _, rfl⟩
        · exact ⟨rfl, _, rfl⟩
      rintro σ' H2 ⟨rfl, y, rfl⟩
      refine ⟨fun σ' H' => H' = H2 ∧ ∃ y : Int, σ' = [some (.ref a), some (.int n), some (.int y2), some (.ref L), some (.int (0 + (k : Int))), some (.int m), some (.int y)], ?_, ?_⟩
      · refine ⟨_, rfl, a, ns, 4, rfl, sm.seq hS, by decide, _, _, rfl, rfl, by show (0 : Int) < 3; decide, rfl, _, rfl, ?_⟩
        cases h1 : decide (V.int (cell ns 4 % 3) = V.int 2) with
        | false => exact ⟨rfl, _, rfl⟩
        | true =>
          refine ⟨_, rfl, _, _, rfl, rfl, ⟨by decide, by decide⟩, _, _, rfl, rfl, by show (0 : Int) < 4; decide, rfl, _, rfl, ite2 (fun h2 => ?_) (fun h2 => ?_)⟩
          · exact ⟨_, rfl, _, rfl, _, _, rfl, rfl, rfl, _, rfl⟩
          · exact ⟨rfl, _, rfl⟩
      rintro σ' H3 ⟨rfl, y, rfl⟩
      refine ⟨_, rfl, .inl ⟨rfl, _, SqL.of eL⟩, _, rfl, L, _, _, rfl, rfl, eL, szl (by rw [List.length_map]; omega), ?_⟩
      exact ⟨_, _, _, _, ts ++ [y], rfl, same_mut sm hL, by rw [upd_same, List.map_append]; rfl, by rw [List.length_append, hl]; rfl⟩
    · rintro σ H1 ⟨y2, y4, y5, y6, ts, rfl, sm, eL, hl⟩
      exact ⟨_, rfl, q H1 L ts sm hL eL (by omega)⟩

abbrev s_L_cut_for : Stmt := topS 29
theorem sc_L_cut_for : FnScope ["_law_debts_here", "_law_tags_here", "_law_cell", "_law_cut", "_law_k", "_law_lure", "_law_many", "_law_mixed", "_law_at"] ["_law_debts_here", "_law_tags_here", "_law_cell"] (defScope s_L_cut_for) := ⟨rfl, rfl, rfl, by decide +kernel, rfl, by decide +kernel, by decide +kernel⟩
def spCutFor (K : PySem.W.Frag) : Sp := fun vs H Q _ => ∃ (a t : Addr) (n : Int) (ds : List Debt) (ts : List Int) (c : Int), vs = [.ref a, .ref t, .int c] ∧ DL K H a ds ∧ SqL K H t (ts.map V.int) ∧ (ts.length : Int) = n ∧ ds.length ≤ 100 ∧ (∀ d ∈ ds, InB n d) ∧
  (∀ d ∈ ds, 0 ≤ d.2.2) ∧ ∀ (H' : Hp) (p : Addr) (cs : List Int), Same H H' → H p = none → H' p = some (.lst (cs.map V.int)) → IsCut ds cs → Q (.ref p) H'
theorem ok_L_cut_for (D : DefAt K mg "_law_cut_for" s_L_cut_for) (B : Blt mg) : Cal P w K mg base CX0 1 "_law_cut_for" ["_law_debts_here", "_law_tags_here", "_law_cell"] (spCutFor K) := by
  refine D.ok sc_L_cut_for (fun _ _ _ _ _ _ us hl => match us, hl with | [_, _, _], _ => rfl) (fun vs H Q E h => ?_) (fun f cdv A outer s H vs Q E hr h => ?_)
  · obtain ⟨a, t, n, ds, ts, c, rfl, _⟩ := h
    rfl
  · obtain ⟨a, t, n, ds, ts, c, rfl, ⟨xs, hS, hX⟩, hT, htl, hlen, hin, hamt, q⟩ := h
    refine ⟨_, (pss_cons (ps_set (i := 3) sc_L_cut_for.nd rfl (.inl rfl) (pe_lst pa_nil))
      (pss_cons (ps_for PassesOwn.never rfl (pi_range1 (by rfl) B.range (pa_cons (pe_callB (r := rLenQ K) call_len_seq (by rfl) B.len (by decide +kernel) (pa_cons (pv 0) pa_nil)) pa_nil)) (pg_name (i := 4) sc_L_cut_for.nd rfl (.inl rfl)) (pss_cons (ps_set (i := 5) sc_L_cut_for.nd rfl (.inl rfl) (pe_op op_sub (pe_op op_add pe_int (pe_ix (r := rIxL K) ix_list (pv 1) (pe_ix (r := rIxT K) ix_tup (pe_ix (r := rIxL K) ix_list (pv 0) (pv 4) (fun _ _ => rfl)) pe_int (fun _ _ => rfl)) (fun _ _ => rfl))) (pe_ix (r := rIxL K) ix_list (pv 1) (pe_ix (r := rIxT K) ix_tup (pe_ix (r := rIxL K) ix_list (pv 0) (pv 4) (fun _ _ => rfl)) pe_int (fun _ _ => rfl)) (fun _ _ => rfl))))
        (pss_cons (ps_set (i := 6) sc_L_cut_for.nd rfl (.inl rfl) pe_int)
        (_root_.C8.pss_cut (ps_if (pt_cmpR op_gt (pv 5) pe_int (nomark _)) (pss_one (ps_set (i := 6) sc_L_cut_for.nd rfl (.inl rfl) (pe_ix (r := rIxT K) ix_tup (pe_ix (r := rIxL K) ix_list (pv 0) (pv 4) (fun _ _ => rfl)) pe_int (fun _ _ => rfl)))) pss_nil)
        (_root_.C8.pss_cut (ps_if (pt_cmpR op_eq (pv 5) pe_int (nomark _)) (pss_cons (ps_set (i := 7) sc_L_cut_for.nd rfl (.inl rfl) (pe_op op_mod (pe_op op_mul (pe_op op_add (pe_op op_mod (pv 2) pe_int) (pe_op op_mul pe_int (pv 4))) pe_int) pe_int))
          (pss_one (ps_set (i := 6) sc_L_cut_for.nd rfl (.inl rfl) (pe_op op_mod (pv 7) (pe_op op_add (pe_ix (r := rIxT K) ix_tup (pe_ix (r := rIxL K) ix_list (pv 0) (pv 4) (fun _ _ => rfl)) pe_int (fun _ _ => rfl)) pe_int))))) pss_nil)
        (pss_one (ps_expr (pe_bm PySem.F.plainAttrs_list PySem.F.slot_list_append PySem.F.type_list_append mt_append (pv 3) (pa_cons (pv 6) pa_nil)))))))))
      (pss_cons (ps_if (PW.pt (pw_and (pt_cmpR op_gt (pe_callB (r := rLenQ K) call_len_seq (by rfl) B.len (by decide +kernel) (pa_cons (pv 0) pa_nil)) pe_int (nomark _)) (pw_and1 (pt_cmpR op_eq (pe_op op_mod (pv 2) pe_int) pe_int (nomark _))))) (pss_cons (ps_set (i := 8) sc_L_cut_for.nd rfl (.inl rfl) (pe_op op_mod (pe_op op_fdiv (pv 2) pe_int) (pe_callB (r := rLenQ K) call_len_seq (by rfl) B.len (by decide +kernel) (pa_cons (pv 0) pa_nil))))
        (pss_one (ps_asg (pe_callB (call_max2 rfl) (by rfl) B.max (by decide +kernel) (pa_cons pe_int (pa_cons (pe_callB (call_min2 rfl) (by rfl) B.min (by decide +kernel) (pa_cons (pe_ix (r := rIxT K) ix_tup (pe_ix (r := rIxL K) ix_list (pv 0) (pv 8) (fun _ _ => rfl)) pe_int (fun _ _ => rfl)) (pa_cons (pe_op op_sub (pe_op op_add (pe_ix (r := rIxL K) ix_list (pv 3) (pv 8) (fun _ _ => rfl)) pe_int) (pe_op op_mul (pe_op op_mod (pe_op op_fdiv (pv 2) pe_int) pe_int) pe_int)) pa_nil))) pa_nil))) (pg_sub (pv 3) (pv 8) set_list)))) pss_nil)
      (pss_one (ps_ret (pv 3)))))), ?_⟩
    have hxl := dvs_len hX
    refine ⟨lb rfl, fun L hL => ?_⟩
    refine ⟨_, rfl, a, xs, rfl, .inl ((same_new hL).seq hS), _, rfl, by omega, by omega, for_range (lo := 0) (n := (xs.length : Int).toNat) (fun k σ H1 => ∃ y4 y5 y6 y7 y8 cs, σ = [some (.ref a), some (.ref t), some (.int c), some (.ref L), y4, y5, y6, y7, y8] ∧ Same H H1 ∧ H1 L = some (.lst ((cs : List Int).map V.int)) ∧ IsCut (ds.take k) cs)
      ⟨_, _, _, _, _, [], rfl, same_new hL, upd_same, ⟨rfl, fun i d c h => by simp at h⟩⟩ ?_ ?_⟩
    · rintro k σ H1 hk ⟨y4, y5, y6, y7, y8, cs, rfl, sm, eL, hc⟩
      have hk' : k < ds.length := by omega
      have ek : (0 : Int) + (k : Int) = (k : Int) := Int.zero_add _
      obtain ⟨v, ev, u, rfl, hU⟩ := dvs_get' (sm.dvs hX) (dbt_at hk')
      have ed := dbt_at hk'
      have hd0 := hamt _ (List.mem_of_getElem? ed)
      obtain ⟨a0, an, b0, bn⟩ := hin _ (List.mem_of_getElem? ed)
      have hcl := hc.len
      rw [List.length_take] at hcl
      generalize dbt ds k = d at hU ed a0 an b0 bn hd0
      have hSk := sm.seq hS
      have hTk := sm.seq hT
      have et1 : atI (ts.map V.int) d.1 = some (.int (priceAt ts d.1)) := at_int (by omega) (by omega)
      have et2 : atI (ts.map V.int) d.2.1 = some (.int (priceAt ts d.2.1)) := at_int (by omega) (by omega)
      refine ⟨_, rfl, _, rfl, _, rfl, a, xs, _, _, rfl, rfl, hSk, at_of ek ev, u, _, 0, _, rfl, rfl, hU, rfl, t, _, _, _, rfl, rfl, hTk, et1, _, _, rfl, rfl, ?_⟩
      refine ⟨_, rfl, _, rfl, _, rfl, a, xs, _, _, rfl, rfl, hSk, at_of ek ev, u, _, 1, _, rfl, rfl, hU, rfl, t, _, _, _, rfl, rfl, hTk, et2, _, _, rfl, rfl, ?_⟩
      walk_at "nf"
      generalize 1 + priceAt ts d.1 - priceAt ts d.2.1 = l
      refine ⟨fun σ' H' => H' = H1 ∧ ∃ y : Int, 0 ≤ y ∧ y ≤ d.2.2 ∧ σ' = [some (.ref a), some (.ref t), some (.int c), some (.ref L), some (.int (0 + (k : Int))), some (.int l), some (.int y), y7, y8], ?_, ?_⟩
      · refine ⟨_, rfl, _, _, rfl, rfl, _, rfl, ite2 (fun h2 => ?_) (fun h2 => ?_)⟩
        · exact ⟨_, rfl, _, rfl, a, xs, _, _, rfl, rfl, hSk, at_of ek ev, u, _, 2, _, rfl, rfl, hU, rfl, rfl, _, hd0, Int.le_refl _, rfl⟩
        · exact ⟨rfl, 0, Int.le_refl _, hd0, rfl⟩
      rintro σ' H2 ⟨rfl, y, y0, yM, rfl⟩
      refine ⟨fun σ' H' => H' = H2 ∧ ∃ (y : Int) (y7 : Option V), 0 ≤ y ∧ y ≤ d.2.2 ∧ σ' = [some (.ref a), some (.ref t), some (.int c), some (.ref L), some (.int (0 + (k : Int))), some (.int l), some (.int y), y7, y8], ?_, ?_⟩
      · refine ⟨_, rfl, rfl, _, rfl, ite2 (fun h2 => ?_) (fun h2 => ?_)⟩
        · refine ⟨_, rfl, _, _, rfl, rfl, by show (0 : Int) < 1000000007; decide, _, rfl, _, _, rfl, rfl, .inl ⟨by decide, by decide⟩, _, _, rfl, rfl, _, _, rfl, rfl, .inr ⟨by decide, by decide⟩, _, _, rfl, rfl, by show (0 : Int) < 2147483647; decide, ?_⟩
          walk_at "nf"
          generalize (c % 1000000007 + 977 * (0 + (k : Int))) * 48271 % 2147483647 = m
          refine ⟨_, rfl, _, rfl, _, rfl, a, xs, _, _, rfl, rfl, hSk, at_of ek ev, u, _, 2, _, rfl, rfl, hU, rfl, _, _, rfl, rfl, _, _, rfl, rfl, (by show 0 < d.2.2 + 1; omega), ?_⟩
          have hb := emod_b (x := m) (n := d.2.2 + 1) (by omega)
          exact ⟨rfl, _, _, hb.1, by have := hb.2; show m % (d.2.2 + 1) ≤ d.2.2; omega, rfl⟩
        · exact ⟨rfl, _, _, y0, yM, rfl⟩
      rintro σ' H3 ⟨rfl, y, y7, y0, yM, rfl⟩
      refine ⟨_, rfl, .inl ⟨rfl, _, SqL.of eL⟩, _, rfl, L, _, _, rfl, rfl, eL, szl (by rw [List.length_map]; omega), ?_⟩
      exact ⟨_, _, _, _, _, cs ++ [y], rfl, same_mut sm hL, by rw [upd_same, List.map_append]; rfl, isCut_snoc hc ed y0 yM⟩
    · rintro σ H1 ⟨y4, y5, y6, y7, y8, cs, rfl, sm, eL, hc⟩
      rw [List.take_of_length_le (by omega)] at hc
      have hcl := hc.len
      refine ⟨_, rfl, a, xs, rfl, .inl (sm.seq hS), _, _, rfl, rfl, _, rfl, ?_⟩
      cases hz : decide ((0 : Int) < (xs.length : Int)) with
      | false => exact ⟨_, rfl, q H1 L cs sm hL eL hc⟩
      | true =>
      have hpos := of_decide_eq_true hz
      refine ⟨_, rfl, _, _, rfl, rfl, by show (0 : Int) < 2; decide, rfl, _, rfl, ite2 (fun h2 => ?_) (fun h2 => ?_)⟩
      · refine ⟨_, rfl, _, _, rfl, rfl, ⟨by decide, by decide⟩, _, rfl, a, xs, rfl, .inl (sm.seq hS), _, _, rfl, rfl, hpos, ?_⟩
        have hat := emod_b (x := c / 2) (n := (xs.length : Int)) hpos
        walk_at "nf"
        generalize c / 2 % (xs.length : Int) = k at hat
        have hkn : k.toNat < ds.length := by omega
        have ed := dbt_at hkn
        have hd0 := hamt _ (List.mem_of_getElem? ed)
        obtain ⟨v, ev, u, rfl, hU⟩ := dvs_get' (sm.dvs hX) ed
        generalize dbt ds k.toNat = d at hU ed hd0
        refine ⟨_, rfl, _, rfl, a, xs, _, _, rfl, rfl, sm.seq hS, at_of (j := k.toNat) (by omega) ev, u, _, 2, _, rfl, rfl, hU, rfl, ?_⟩
        refine ⟨_, rfl, _, rfl, L, _, _, _, rfl, rfl, SqL.of eL, at_int hat.1 (by omega), _, _, rfl, rfl, _, rfl, _, _, rfl, rfl, ⟨by decide, by decide⟩, _, _, rfl, rfl, by show (0 : Int) < 2; decide, _, _, rfl, rfl, .inr ⟨by decide, by decide⟩, _, _, rfl, rfl, _, _, rfl, _, _, rfl, ?_⟩
        walk_at "nf"
        generalize cs.getD k.toNat 0 + 1 - c / 40 % 2 * 2 = z
        refine ⟨_, rfl, _, rfl, L, _, _, _, rfl, rfl, eL, ix_int hat.1 (by omega), ?_⟩
        refine ⟨_, rfl, q _ L _ (same_mut sm hL) hL (by rw [upd_same, set_int]) (isCut_set hc ed ?_ ?_)⟩
        · split <;> split <;> omega
        · split <;> split <;> omega
      · exact ⟨_, rfl, q H1 L cs sm hL eL hc⟩

abbrev s_L_bad_cut : Stmt := topS 25
theorem sc_L_bad_cut : FnScope ["_law_debts_here", "_law_cut", "_law_cell", "_law_at", "_law_amount", "_law_odd"] ["_law_debts_here", "_law_cut", "_law_cell"] (defScope s_L_bad_cut) := ⟨rfl, rfl, rfl, by decide +kernel, rfl, by decide +kernel, by decide +kernel⟩
def spBadCut (K : PySem.W.Frag) : Sp := fun vs H Q _ => ∃ (a b : Addr) (ds : List Debt) (cs : List Int) (c : Int), vs = [.ref a, .ref b, .int c] ∧ DL K H a ds ∧ H b = some (.lst (cs.map V.int)) ∧ IsCut ds cs ∧ ds.length ≤ 100 ∧
  (∀ d ∈ ds, 0 ≤ d.2.2) ∧ ∀ v H' e, Same H H' → Dp K H' v e → okCut ds e = false → Q v H'
theorem okCut_no {ds : List Debt} {es : List PyData} (h : ∀ cs, es = cs.map PyData.int → IsCut ds cs → False) : okCut ds (.list es) = false := by
  refine Bool.eq_false_iff.mpr fun z => ?_
  obtain ⟨cs, e, hc⟩ := okCut_inv z
  cases e
  exact h cs rfl hc
theorem okCut_len {ds : List Debt} {es : List PyData} (h : es.length ≠ ds.length) : okCut ds (.list es) = false := okCut_no fun cs e hc => h (by rw [e, List.length_map, hc.len])
theorem okCut_at {ds : List Debt} {es : List PyData} {i : Nat} {d : Debt} {o : PyData} (h1 : ds[i]? = some d) (h2 : es[i]? = some o) (h : ∀ z, o = .int z → 0 ≤ z → z ≤ d.2.2 → False) : okCut ds (.list es) = false := okCut_no fun cs e hc => by
  rw [e, List.getElem?_map] at h2
  cases ec : cs[i]? with
  | none =>
    rw [ec] at h2
    cases h2
  | some z =>
    rw [ec] at h2
    have hz := hc.at_ i d z h1 ec
    exact h z (Option.some.inj h2).symm hz.1 hz.2
def oddCuts (m : Int) : List PyData := [.int (-1), .int (m + 1), .bool true, .none, .str "0", .int (-m - 1), .int (m * 2 + 1), .list [.int 0], .bool false]
theorem oddCuts_no {m : Int} (h0 : 0 ≤ m) : ∀ o ∈ oddCuts m, ∀ z, o = .int z → 0 ≤ z → z ≤ m → False := by
  intro o ho z e z0 zM
  simp only [oddCuts, List.mem_cons, List.not_mem_nil, or_false] at ho
  rcases ho with rfl | rfl | rfl | rfl | rfl | rfl | rfl | rfl | rfl <;> cases e <;> omega
theorem ok_L_bad_cut (D : DefAt K mg "_law_bad_cut" s_L_bad_cut) (B : Blt mg) : Cal P w K mg base CX0 1 "_law_bad_cut" ["_law_debts_here", "_law_cut", "_law_cell"] (spBadCut K) := by
  refine D.ok sc_L_bad_cut (fun _ _ _ _ _ _ us hl => match us, hl with | [_, _, _], _ => rfl) (fun vs H Q E h => ?_) (fun f cdv A outer s H vs Q E hr h => ?_)
  · obtain ⟨a, b, ds, cs, c, rfl, _⟩ := h
    rfl
  · obtain ⟨a, b, ds, cs, c, rfl, ⟨xs, hS, hX⟩, hb, hc, hlen, hamt, q⟩ := h
    refine ⟨_, (pss_cons (ps_if (pt_cmpR op_gt (pe_op op_mod (pv 2) pe_int) pe_int (nomark _)) (pss_one (ps_ret (pe_ix (r := rIxL K) ix_list (pe_lst (pa_cons (pe_callTy (r := rTupQ K) call_tuple_of (by rfl) B.tuple (by decide +kernel) (pa_cons (pv 1) pa_nil)) (pa_cons pe_non pa_nil))) (pe_op op_sub (pe_op op_mod (pv 2) pe_int) pe_int) (fun _ _ => rfl)))) pss_nil)
      (pss_cons (ps_if (PW.pt (pw_or (pt_cmpR op_eq (pe_callB (r := rLenQ K) call_len_seq (by rfl) B.len (by decide +kernel) (pa_cons (pv 0) pa_nil)) pe_int (nomark _)) (pw_or1 (pt_cmpR op_eq (pe_op op_mod (pv 2) pe_int) pe_int (nomark _))))) (pss_one (ps_ret (pe_op op_cat (pv 1) (pe_lst (pa_cons pe_int pa_nil))))) pss_nil)
      (pss_cons (ps_if (pt_cmpR op_eq (pe_op op_mod (pv 2) pe_int) pe_int (nomark _)) (pss_one (ps_ret (pe_slice (r := rSlL K) sl_list (pv 1) (po_some pe_int) po_none))) pss_nil)
      (pss_cons (ps_set (i := 3) sc_L_bad_cut.nd rfl (.inl rfl) (pe_op op_mod (pe_op op_fdiv (pv 2) pe_int) (pe_callB (r := rLenQ K) call_len_seq (by rfl) B.len (by decide +kernel) (pa_cons (pv 0) pa_nil))))
      (pss_cons (ps_set (i := 4) sc_L_bad_cut.nd rfl (.inl rfl) (pe_ix (r := rIxT K) ix_tup (pe_ix (r := rIxL K) ix_list (pv 0) (pv 3) (fun _ _ => rfl)) pe_int (fun _ _ => rfl)))
      (pss_cons (ps_set (i := 5) sc_L_bad_cut.nd rfl (.inl rfl) (pe_lst (pa_cons (pe_un un_neg pe_int) (pa_cons (pe_op op_add (pv 4) pe_int) (pa_cons pe_bl (pa_cons pe_non (pa_cons pe_str (pa_cons (pe_op op_sub (pe_un un_neg (pv 4)) pe_int) (pa_cons (pe_op op_add (pe_op op_mul (pv 4) pe_int) pe_int) (pa_cons (pe_lst (pa_cons pe_int pa_nil)) (pa_cons pe_bl pa_nil)))))))))))
      (pss_one (ps_ret (pe_op op_cat (pe_op op_cat (pe_slice (r := rSlL K) sl_list (pv 1) po_none (po_some (pv 3))) (pe_lst (pa_cons (pe_ix (r := rIxL K) ix_list (pv 5) (pe_op op_mod (pe_op op_fdiv (pv 2) pe_int) pe_int) (fun _ _ => rfl)) pa_nil))) (pe_slice (r := rSlL K) sl_list (pv 1) (po_some (pe_op op_add (pv 3) pe_int)) po_none)))))))))), ?_⟩
    have hxl := dvs_len hX
    have hcl := hc.len
    have hj := emod_b (x := c) (n := 9) (by omega)
    have hbl : EvL K (tVar 1) [some (.ref a), some (.ref b), some (.int c), none, none, none] H (cs.map PyData.int) := evl_var rfl hb (dpA_ints cs)
    refine ⟨_, rfl, _, _, rfl, rfl, by show (0 : Int) < 9; decide, _, _, rfl, rfl, _, rfl, ite2 (fun h1 => ?_) (fun h1 => ?_)⟩
    · have h1' := of_decide_eq_true h1
      refine ⟨_, rfl, b, _, rfl, .inl ⟨SqL.of hb, fun t ht => ?_⟩⟩
      have s1 := same_new (o := .tup (cs.map V.int)) ht
      refine ⟨lb rfl, fun l hl => ?_⟩
      have s2 := s1.trans (same_new (o := .lst [.ref t, .non]) hl)
      have et := (same_new (o := .lst [.ref t, .non]) hl) _ _ (upd_same (H := H) (a := t) (o := .tup (cs.map V.int)))
      have hk : ∃ v e, atI ([.ref t, .non] : List V) (c % 9 - 7) = some v ∧ Dp K (upd (upd H t (.tup (cs.map V.int))) l (.lst [.ref t, .non])) v e ∧ okCut ds e = false := by
        have : c % 9 - 7 = 0 ∨ c % 9 - 7 = 1 := by omega
        rcases this with h | h <;> rw [h]
        · exact ⟨_, _, rfl, .tup (SqT.of et) (dpA_ints cs), rfl⟩
        · exact ⟨_, _, rfl, .non, rfl⟩
      obtain ⟨v, e, ev, dv, no⟩ := hk
      exact ⟨_, rfl, _, _, rfl, rfl, by show (0 : Int) < 9; decide, _, _, rfl, rfl, l, _, _, v, rfl, rfl, SqL.of upd_same, ev, q v _ e s2 dv no⟩
    have last : (tRet (tOp rCat (tVar 1) (tLst (tCons (tC (.int 0)) tNil))) { nx := fun _ H' => Q .non H', rt := Q } : L2.St → Hp → Prop) [some (.ref a), some (.ref b), some (.int c), none, none, none] H := by
      refine evd_ret (K := K) (d := .list (cs.map PyData.int ++ [.int 0])) (EvM.dat (evm_cat (es := [.int 0]) hbl (EvM.l (by walk_at "ev")) (by rw [List.length_map]; show cs.length + 1 ≤ 100000; omega))) fun v H2 s2 d2 => q v H2 _ s2 d2 (okCut_len ?_)
      rw [List.length_append, List.length_map]
      show cs.length + 1 ≠ ds.length
      omega
    refine ⟨_, rfl, a, xs, rfl, .inl hS, rfl, _, rfl, ?_⟩
    cases hz : decide (V.int (xs.length : Int) = V.int 0) with
    | true => exact last
    | false =>
    have hpos : 0 < ds.length := by
      rcases Nat.eq_zero_or_pos ds.length with z | z
      · rw [hxl, z] at hz
        cases hz
      · exact z
    refine ⟨_, rfl, _, _, rfl, rfl, by show (0 : Int) < 4; decide, rfl, _, rfl, ite2 (fun h2 => ?_) (fun h2 => ?_)⟩
    · exact last
    refine ⟨_, rfl, _, _, rfl, rfl, by show (0 : Int) < 4; decide, rfl, _, rfl, ite2 (fun h3 => ?_) (fun h3 => ?_)⟩
    · refine evd_ret (K := K) (d := .list ((cs.map PyData.int).drop 1)) (EvM.dat (evm_from (k := 1) hbl (evd_int 1) (by decide))) fun v H2 s2 d2 => q v H2 _ s2 d2 (okCut_len ?_)
      rw [List.length_drop, List.length_map]
      omega
    have hat := emod_b (x := c / 4) (n := (xs.length : Int)) (by omega)
    refine ⟨_, rfl, _, _, rfl, rfl, ⟨by decide, by decide⟩, _, rfl, a, xs, rfl, .inl hS, _, _, rfl, rfl, by show (0 : Int) < (xs.length : Int); omega, ?_⟩
    walk_at "nf"
    generalize hk : c / 4 % (xs.length : Int) = k at hat
    have hkn : k.toNat < ds.length := by omega
    have hd0 := hamt _ (List.mem_of_getElem? (dbt_at hkn))
    obtain ⟨v, ev, t, rfl, hT⟩ := dvs_get' hX (dbt_at hkn)
    refine ⟨_, rfl, _, rfl, a, xs, _, _, rfl, rfl, hS, at_of (j := k.toNat) (by omega) ev, t, _, 2, _, rfl, rfl, hT, rfl, ?_⟩
    generalize hm : (dbt ds k.toNat).2.2 = m at hd0
    walk_at "nf"
    refine evm_seq (K := K) (ds := oddCuts m) (evm_lst (evda_cons (evd_neg (evd_int 1)) (evda_cons (evd_I0 (f := fun i j => i + j) (evd_vint rfl) (evd_int 1)) (evda_cons (evd_bl _) (evda_cons evd_non (evda_cons (evd_str _) (evda_cons (evd_I0 (f := fun i j => i - j) (evd_neg (evd_vint rfl)) (evd_int 1)) (evda_cons (evd_I0 (f := fun i j => i + j) (evd_I (C := CMul) (f := fun i j => i * j) (evd_vint rfl) (evd_int 2) (.inr ⟨by decide, by decide⟩)) (evd_int 1)) (evda_cons (evd_lst (evda_cons (evd_int 0) evda_nil) (lb rfl)) (evda_cons (evd_bl _) evda_nil))))))))) (lb rfl)) fun p1 vs1 H1 s1 n1 e1 a1 => ?_
    walk_at "nf"
    have a1' : DpAll K H1 vs1 (oddCuts m) := a1
    have hf := emod_b (x := c / 240) (n := 9) (by omega)
    obtain ⟨o, eo⟩ : ∃ o, (oddCuts m)[(c / 240 % 9).toNat]? = some o := ⟨_, List.getElem?_eq_getElem (by show (c / 240 % 9).toNat < 9; omega)⟩
    have hb1 : H1 b = some (.lst (cs.map V.int)) := s1 _ _ hb
    have hb2 : EvL K (tVar 1) [some (.ref a), some (.ref b), some (.int c), some (.int k), some (.int m), some (.ref p1)] H1 (cs.map PyData.int) := evl_var rfl hb1 (dpA_ints cs)
    have hl1 : ((cs.map PyData.int).take k.toNat).length = k.toNat := by
      rw [List.length_take, List.length_map]
      omega
    refine evd_ret (K := K) (d := .list ((cs.map PyData.int).take k.toNat ++ [o] ++ (cs.map PyData.int).drop (k + 1).toNat))
      (EvM.dat (evm_cat (EvM.l (evm_cat (EvM.l (evm_to hb2 (evd_vint (i := 3) rfl) hat.1)) (EvM.l (evm_lst (evda_cons (evd_ix (j := (c / 240 % 9).toNat) (k := c / 240 % 9) (evl_var rfl e1 a1') (evd_I (C := fun _ j => 0 < j) (f := fun i j => i % j) (evd_I (C := CDiv) (f := fun i j => i / j) (evd_vint (i := 2) rfl) (evd_int 240) ⟨by decide, by decide⟩) (evd_int 9) (by decide)) (by omega) eo) evda_nil) (lb rfl))) ?_)) (EvM.l (evm_from hb2 (evd_I0 (f := fun i j => i + j) (evd_vint (i := 3) rfl) (evd_int 1)) (by omega))) ?_)) fun v H2 s2 d2 => q v H2 _ (s1.trans s2) d2 (okCut_at (i := k.toNat) (o := o) (dbt_at hkn) ?_ ?_)
    · rw [hl1]
      show k.toNat + 1 ≤ 100000
      omega
    · rw [List.length_append, hl1, List.length_drop, List.length_map]
      show k.toNat + 1 + _ ≤ 100000
      omega
    · rw [List.append_assoc, List.getElem?_append_right (by omega), hl1, Nat.sub_self]
      rfl
    · rw [hm]
      exact oddCuts_no hd0 o (List.mem_of_getElem? eo)

abbrev s_L_bad_tags : Stmt := topS 31
theorem sc_L_bad_tags : FnScope ["_law_tags_here", "_law_cell", "_law_at", "_law_odd"] ["_law_tags_here", "_law_cell"] (defScope s_L_bad_tags) := ⟨rfl, rfl, rfl, by decide +kernel, rfl, by decide +kernel, by decide +kernel⟩
def withAt (ts : List Int) (k : Int) (e : PyData) : List PyData := (ts.map PyData.int).take k.toNat ++ [e] ++ (ts.map PyData.int).drop (k + 1).toNat
def oddTags (ts : List Int) (k : Int) : List PyData :=
  [.list (ts.map PyData.int ++ [.int 0]), .list ((ts.map PyData.int).drop 1), .tuple (ts.map PyData.int), .none, .list (withAt ts k (.bool true)), .list []] ++ [.list (withAt ts k (.str "0")), .list (withAt ts k .none)] ++ [.list (withAt ts k (.bool false))]
theorem okTags_len {n : Int} {es : List PyData} (h : (es.length : Int) ≠ n) : okTags n (.list es) = false := by
  show (decide ((es.length : Int) = n) && _) = false
  rw [decide_eq_false h, Bool.false_and]
theorem okTags_at {n : Int} {es : List PyData} {e : PyData} (h : e ∈ es) (he : isInt e = false) : okTags n (.list es) = false := by
  show (_ && es.all isInt) = false
  have z : es.all isInt = false := List.all_eq_false.mpr ⟨e, h, by rw [he]; decide⟩
  rw [z, Bool.and_false]
theorem withAt_mem (ts : List Int) (k : Int) (e : PyData) : e ∈ withAt ts k e := List.mem_append_left _ (List.mem_append_right _ List.mem_cons_self)
theorem oddTags_no {n : Int} {ts : List Int} {k : Int} (hl : (ts.length : Int) = n) (n1 : 1 ≤ n) : ∀ d ∈ oddTags ts k, okTags n d = false := by
  intro d hd
  simp only [oddTags, List.mem_append, List.mem_cons, List.not_mem_nil, or_false] at hd
  rcases hd with ((rfl | rfl | rfl | rfl | rfl | rfl) | rfl | rfl) | rfl
  · refine okTags_len ?_
    rw [List.length_append, List.length_map]
    show ((ts.length + 1 : Nat) : Int) ≠ n
    omega
  · refine okTags_len ?_
    rw [List.length_drop, List.length_map]
    omega
  · rfl
  · rfl
  · exact okTags_at (withAt_mem _ _ _) rfl
  · refine okTags_len ?_
    show ((0 : Nat) : Int) ≠ n
    omega
  · exact okTags_at (withAt_mem _ _ _) rfl
  · exact okTags_at (withAt_mem _ _ _) rfl
  · exact okTags_at (withAt_mem _ _ _) rfl
theorem withAt_flat (ts : List Int) (k : Int) {e : PyData} (he : flat e = true) : (withAt ts k e).all flat = true := by
  rw [List.all_eq_true]
  intro x hx
  have hi : ∀ y ∈ ts.map PyData.int, flat y = true := fun y hy => by
    obtain ⟨z, _, rfl⟩ := List.mem_map.mp hy
    rfl
  rcases List.mem_append.mp hx with h | h
  · rcases List.mem_append.mp h with h | h
    · exact hi x (List.mem_of_mem_take h)
    · rw [List.mem_singleton.mp h]
      exact he
  · exact hi x (List.mem_of_mem_drop h)
theorem evd_tupQ {σ : L2.St} {H : Hp} {te : TE} {ds : List PyData} (h : EvL K te σ H ds) : EvD K (tCB (rTupQ K) (tCons te tNil)) σ H (.tuple ds) := fun H1 s _ q => h H1 s _ fun p vs H2 s2 e a =>
  ⟨p, vs, rfl, .inl ⟨SqL.of e, fun l hl => q _ _ (s2.trans (same_new hl)) (.tup (SqT.of upd_same) ((same_new hl).dpA a))⟩⟩
def spBadTags (K : PySem.W.Frag) : Sp := fun vs H Q _ => ∃ (t : Addr) (n c : Int) (ts : List Int), vs = [.ref t, .int c] ∧ H t = some (.lst (ts.map V.int)) ∧ (ts.length : Int) = n ∧ 1 ≤ n ∧ n ≤ 100 ∧
  ∀ v H' e, Same H H' → Dp K H' v e → okTags n e = false → Q v H'
theorem ok_L_bad_tags (D : DefAt K mg "_law_bad_tags" s_L_bad_tags) (B : Blt mg) : Cal P w K mg base CX0 1 "_law_bad_tags" ["_law_tags_here", "_law_cell"] (spBadTags K) := by
  refine D.ok sc_L_bad_tags (fun _ _ _ _ _ _ us hl => match us, hl with | [_, _], _ => rfl) (fun vs H Q E h => ?_) (fun f cdv A outer s H vs Q E hr h => ?_)
  · obtain ⟨t, n, c, ts, rfl, _⟩ := h
    rfl
  · obtain ⟨t, n, c, ts, rfl, hT, hl, n1, nM, q⟩ := h
    refine ⟨_, (pss_cons (ps_set (i := 2) sc_L_bad_tags.nd rfl (.inl rfl) (pe_op op_mod (pe_op op_fdiv (pv 1) pe_int) (pe_callB (r := rLenQ K) call_len_seq (by rfl) B.len (by decide +kernel) (pa_cons (pv 0) pa_nil))))
      (pss_cons (ps_set (i := 3) sc_L_bad_tags.nd rfl (.inl rfl) (pe_lst (pa_cons (pe_op op_cat (pv 0) (pe_lst (pa_cons pe_int pa_nil))) (pa_cons (pe_slice (r := rSlL K) sl_list (pv 0) (po_some pe_int) po_none) (pa_cons (pe_callTy (r := rTupQ K) call_tuple_of (by rfl) B.tuple (by decide +kernel) (pa_cons (pv 0) pa_nil)) (pa_cons pe_non (pa_cons (pe_op op_cat (pe_op op_cat (pe_slice (r := rSlL K) sl_list (pv 0) po_none (po_some (pv 2))) (pe_lst (pa_cons pe_bl pa_nil))) (pe_slice (r := rSlL K) sl_list (pv 0) (po_some (pe_op op_add (pv 2) pe_int)) po_none)) (pa_cons (pe_lst pa_nil) pa_nil))))))))
      (pss_cons (ps_set (i := 3) sc_L_bad_tags.nd rfl (.inl rfl) (pe_op op_cat (pv 3) (pe_lst (pa_cons (pe_op op_cat (pe_op op_cat (pe_slice (r := rSlL K) sl_list (pv 0) po_none (po_some (pv 2))) (pe_lst (pa_cons pe_str pa_nil))) (pe_slice (r := rSlL K) sl_list (pv 0) (po_some (pe_op op_add (pv 2) pe_int)) po_none)) (pa_cons (pe_op op_cat (pe_op op_cat (pe_slice (r := rSlL K) sl_list (pv 0) po_none (po_some (pv 2))) (pe_lst (pa_cons pe_non pa_nil))) (pe_slice (r := rSlL K) sl_list (pv 0) (po_some (pe_op op_add (pv 2) pe_int)) po_none)) pa_nil)))))
      (pss_cons (ps_expr (pe_bm PySem.F.plainAttrs_list PySem.F.slot_list_append PySem.F.type_list_append mt_append (pv 3) (pa_cons (pe_op op_cat (pe_op op_cat (pe_slice (r := rSlL K) sl_list (pv 0) po_none (po_some (pv 2))) (pe_lst (pa_cons pe_bl pa_nil))) (pe_slice (r := rSlL K) sl_list (pv 0) (po_some (pe_op op_add (pv 2) pe_int)) po_none)) pa_nil)))
      (pss_one (ps_ret (pe_ix (r := rIxL K) ix_list (pv 3) (pe_op op_mod (pv 1) pe_int) (fun _ _ => rfl)))))))), ?_⟩
    have hml : ((ts.map V.int).length : Int) = n := by
      rw [List.length_map]
      exact hl
    refine ⟨_, rfl, _, _, rfl, rfl, ⟨by decide, by decide⟩, _, rfl, t, _, rfl, .inl (SqL.of hT), _, _, rfl, rfl, by show (0 : Int) < ((ts.map V.int).length : Int); omega, ?_⟩
    have hk := emod_b (x := c / 9) (n := ((ts.map V.int).length : Int)) (by omega)
    walk_at "nf"
    generalize c / 9 % ((ts.map V.int).length : Int) = k at hk
    have hl1 : ((ts.map PyData.int).take k.toNat).length = k.toNat := by
      rw [List.length_take, List.length_map]
      omega
    have ev_t : ∀ (σ : L2.St) (H1 : Hp), σ[0]? = some (some (.ref t)) → Same H H1 → EvL K (tVar 0) σ H1 (ts.map PyData.int) := fun σ H1 e s => evl_var e (s _ _ hT) (dpA_ints ts)
    have ev_w : ∀ (σ : L2.St) (H1 : Hp) (te : TE) (e : PyData), σ[0]? = some (some (.ref t)) → σ[2]? = some (some (.int k)) → Same H H1 → EvD K te σ H1 e →
        EvM K (tOp rCat (tOp rCat (tSl (rSlL K) (tVar 0) tNoPart (tPart (tVar 2))) (tLst (tCons te tNil))) (tSl (rSlL K) (tVar 0) (tPart (tOp (rI0 fun i j => .int (i + j)) (tVar 2) (tC (.int 1)))) tNoPart)) σ H1 (withAt ts k e) := fun σ H1 te e e1 e2 s he => by
      refine evm_cat (EvM.l (evm_cat (EvM.l (evm_to (ev_t σ H1 e1 s) (evd_vint e2) hk.1)) (EvM.l (evm_lst (evda_cons he evda_nil) (lb rfl))) ?_)) (EvM.l (evm_from (ev_t σ H1 e1 s) (evd_I0 (f := fun i j => i + j) (evd_vint e2) (evd_int 1)) (by omega))) ?_
      · rw [hl1]
        show k.toNat + 1 ≤ 100000
        omega
      · rw [List.length_append, hl1, List.length_drop, List.length_map]
        show k.toNat + 1 + _ ≤ 100000
        omega
    refine evm_seq (K := K) (ds := [.list (ts.map PyData.int ++ [.int 0]), .list ((ts.map PyData.int).drop 1), .tuple (ts.map PyData.int), .none, .list (withAt ts k (.bool true)), .list []])
      (evm_lst (evda_cons (EvM.dat (evm_cat (es := [.int 0]) (ev_t _ _ rfl (Same.refl H)) (EvM.l (by walk_at "ev")) (by rw [List.length_map]; show ts.length + 1 ≤ 100000; omega)))
        (evda_cons (EvM.dat (evm_from (k := 1) (ev_t _ _ rfl (Same.refl H)) (evd_int 1) (by decide))) (evda_cons (evd_tupQ (ev_t _ _ rfl (Same.refl H))) (evda_cons evd_non (evda_cons (EvM.dat (ev_w _ _ _ _ rfl rfl (Same.refl H) (evd_bl true))) (evda_cons (evd_lst evda_nil (lb rfl)) evda_nil)))))) (lb rfl)) fun p1 vs1 H1 s1 n1' e1 a1 => ?_
    walk_at "nf"
    refine ⟨_, rfl, ?_⟩
    refine (evm_lst (K := K) (ds := [.list (withAt ts k (.str "0")), .list (withAt ts k .none)]) (evda_cons (EvM.dat (ev_w _ _ _ _ rfl rfl s1 (evd_str _))) (evda_cons (EvM.dat (ev_w _ _ _ _ rfl rfl s1 evd_non)) evda_nil)) (lb rfl)) H1 (Same.refl H1) _ fun p2 vs2 H2 s2 n2 e2 a2 => ?_
    have a1' := s2.dpA a1
    have lv1 := dpA_len a1
    have lv2 := dpA_len a2
    refine ⟨p1, p2, vs1, vs2, rfl, rfl, s2 _ _ e1, e2, szn (by rw [lv1, lv2]; exact lb rfl), fun l hl2 => ?_⟩
    have a12 := dpA_app a1' a2
    have s12 := s1.trans s2
    have s3 := same_new (o := .lst (vs1 ++ vs2)) hl2
    refine ⟨_, rfl, .inl ⟨rfl, _, SqL.of upd_same⟩, ?_⟩
    refine (ev_w _ _ _ _ rfl rfl (s12.trans s3) (evd_bl false)) _ (Same.refl _) _ fun p5 vs5 H5 s5 n5 e5 a5 => ?_
    refine ⟨l, _, _, rfl, rfl, s5 _ _ upd_same, szl (by rw [List.length_append, lv1, lv2]; exact lb rfl), ?_⟩
    have ne : p5 ≠ l := fun z => by
      rw [z, upd_same] at n5
      cases n5
    have s6 := same_mut (o := .lst (vs1 ++ vs2 ++ [.ref p5])) (s3.trans s5) hl2
    have d5 : Dp K (upd H5 l (.lst (vs1 ++ vs2 ++ [.ref p5]))) (.ref p5) (.list (withAt ts k (.bool false))) :=
      .lst (SqL.of (by rw [upd_ne ne]; exact e5)) (dpA_flat _ _ (withAt_flat ts k rfl) a5)
    have all : DpAll K (upd H5 l (.lst (vs1 ++ vs2 ++ [.ref p5]))) (vs1 ++ vs2 ++ [.ref p5]) (oddTags ts k) := dpA_app (s6.dpA a12) (.cons d5 .nil)
    have hj := emod_b (x := c) (n := 9) (by omega)
    obtain ⟨d, ej⟩ : ∃ d, (oddTags ts k)[(c % 9).toNat]? = some d := ⟨_, List.getElem?_eq_getElem (by show (c % 9).toNat < 9; omega)⟩
    obtain ⟨v, ev, hv⟩ := dpA_get' all ej
    exact ⟨_, rfl, _, rfl, _, _, rfl, rfl, by show (0 : Int) < 9; decide, l, _, _, v, rfl, rfl, SqL.of upd_same, at_of (j := (c % 9).toNat) (by omega) ev, q v _ d (s12.trans s6) hv (oddTags_no hl n1 d (List.mem_of_getElem? ej))⟩

abbrev s_L_kind : Stmt := topS 27
theorem sc_L_kind : FnScope ["_law_error", "_law_words"] ["_law_error"] (defScope s_L_kind) := ⟨rfl, rfl, rfl, by decide +kernel, rfl, by decide +kernel, by decide +kernel⟩
theorem ok_L_kind {C0 C1 C2 C3 C4 C5 C6 C7 C8 : Addr} (D : DefAt K mg "_law_kind" s_L_kind) (B : Blt mg) (N : Nine mg C0 C1 C2 C3 C4 C5 C6 C7 C8) : CalE P w K mg base 1 "_law_kind" ["_law_error"] (spKind K C0 C1 C2 C3 C4 C5 C6 C7 C8) := by
  refine D.okE sc_L_kind (fun _ _ _ _ _ _ us hl => match us, hl with | [_], _ => rfl) (fun p vs H Q E h => ?_) (fun f cdv A outer s H vs Q E p hot hr h => ?_)
  · obtain ⟨rfl, _⟩ := h
    rfl
  · obtain ⟨rfl, C, i, hz, hf, kf, hi, q⟩ := h
    refine ⟨_, (pss_cons (ps_set (i := 1) sc_L_kind.nd rfl (.inl rfl) (pe_lst pa_nil))
      (pss_cons (ps_if (pt_val (pe_callB (r := rIsE K C p.1) (call_isP kf.c List.mem_cons_self hz.zc hf) (by rfl) B.isinstance (by decide +kernel) (pa_cons (pv 0) (pa_cons (pe_glob (v := .ref _) (by rfl) N.BadCount rfl) pa_nil)))) (pss_one (ps_expr (pe_bm PySem.F.plainAttrs_list PySem.F.slot_list_append PySem.F.type_list_append mt_append (pv 1) (pa_cons pe_str pa_nil)))) pss_nil)
      (pss_cons (ps_if (pt_val (pe_callB (r := rIsE K C p.1) (call_isP kf.c List.mem_cons_self hz.zc hf) (by rfl) B.isinstance (by decide +kernel) (pa_cons (pv 0) (pa_cons (pe_glob (v := .ref _) (by rfl) N.BadDebt rfl) pa_nil)))) (pss_one (ps_expr (pe_bm PySem.F.plainAttrs_list PySem.F.slot_list_append PySem.F.type_list_append mt_append (pv 1) (pa_cons pe_str pa_nil)))) pss_nil)
      (pss_cons (ps_if (pt_val (pe_callB (r := rIsE K C p.1) (call_isP kf.c List.mem_cons_self hz.zc hf) (by rfl) B.isinstance (by decide +kernel) (pa_cons (pv 0) (pa_cons (pe_glob (v := .ref _) (by rfl) N.BadCut rfl) pa_nil)))) (pss_one (ps_expr (pe_bm PySem.F.plainAttrs_list PySem.F.slot_list_append PySem.F.type_list_append mt_append (pv 1) (pa_cons pe_str pa_nil)))) pss_nil)
      (pss_cons (ps_if (pt_val (pe_callB (r := rIsE K C p.1) (call_isP kf.c List.mem_cons_self hz.zc hf) (by rfl) B.isinstance (by decide +kernel) (pa_cons (pv 0) (pa_cons (pe_glob (v := .ref _) (by rfl) N.Uneven rfl) pa_nil)))) (pss_one (ps_expr (pe_bm PySem.F.plainAttrs_list PySem.F.slot_list_append PySem.F.type_list_append mt_append (pv 1) (pa_cons pe_str pa_nil)))) pss_nil)
      (pss_cons (ps_if (pt_val (pe_callB (r := rIsE K C p.1) (call_isP kf.c List.mem_cons_self hz.zc hf) (by rfl) B.isinstance (by decide +kernel) (pa_cons (pv 0) (pa_cons (pe_glob (v := .ref _) (by rfl) N.BadPrices rfl) pa_nil)))) (pss_one (ps_expr (pe_bm PySem.F.plainAttrs_list PySem.F.slot_list_append PySem.F.type_list_append mt_append (pv 1) (pa_cons pe_str pa_nil)))) pss_nil)
      (pss_cons (ps_if (pt_val (pe_callB (r := rIsE K C p.1) (call_isP kf.c List.mem_cons_self hz.zc hf) (by rfl) B.isinstance (by decide +kernel) (pa_cons (pv 0) (pa_cons (pe_glob (v := .ref _) (by rfl) N.NotBest rfl) pa_nil)))) (pss_one (ps_expr (pe_bm PySem.F.plainAttrs_list PySem.F.slot_list_append PySem.F.type_list_append mt_append (pv 1) (pa_cons pe_str pa_nil)))) pss_nil)
      (pss_cons (ps_if (pt_val (pe_callB (r := rIsE K C p.1) (call_isP kf.c List.mem_cons_self hz.zc hf) (by rfl) B.isinstance (by decide +kernel) (pa_cons (pv 0) (pa_cons (pe_glob (v := .ref _) (by rfl) N.NoDebt rfl) pa_nil)))) (pss_one (ps_expr (pe_bm PySem.F.plainAttrs_list PySem.F.slot_list_append PySem.F.type_list_append mt_append (pv 1) (pa_cons pe_str pa_nil)))) pss_nil)
      (pss_cons (ps_if (pt_val (pe_callB (r := rIsE K C p.1) (call_isP kf.c List.mem_cons_self hz.zc hf) (by rfl) B.isinstance (by decide +kernel) (pa_cons (pv 0) (pa_cons (pe_glob (v := .ref _) (by rfl) N.NoHouse rfl) pa_nil)))) (pss_one (ps_expr (pe_bm PySem.F.plainAttrs_list PySem.F.slot_list_append PySem.F.type_list_append mt_append (pv 1) (pa_cons pe_str pa_nil)))) pss_nil)
      (pss_cons (ps_if (pt_val (pe_callB (r := rIsE K C p.1) (call_isP kf.c List.mem_cons_self hz.zc hf) (by rfl) B.isinstance (by decide +kernel) (pa_cons (pv 0) (pa_cons (pe_glob (v := .ref _) (by rfl) N.BadAmount rfl) pa_nil)))) (pss_one (ps_expr (pe_bm PySem.F.plainAttrs_list PySem.F.slot_list_append PySem.F.type_list_append mt_append (pv 1) (pa_cons pe_str pa_nil)))) pss_nil)
      (pss_cons (ps_if (PW.pt (pw_or (pt_cmpR op_ne (pe_callB (r := rLenQ K) call_len_seq (by rfl) B.len (by decide +kernel) (pa_cons (pv 1) pa_nil)) pe_int (nomark _)) (pw_or1 (pt_not (pt_val (pe_callB (r := rIsE K C p.1) (call_isP kf.c List.mem_cons_self hz.zc hf) (by rfl) B.isinstance (by decide +kernel) (pa_cons (pv 0) (pa_cons (pe_bltn (v := .ty "ValueError") (by rfl) B.ValueError (by decide +kernel) rfl) pa_nil)))))))) (pss_one (ps_ret pe_str)) pss_nil)
      (pss_one (ps_ret (pe_ix (r := rIxL K) ix_list (pv 1) pe_int (fun _ _ => rfl))))))))))))))), ?_⟩
    refine ⟨Nat.zero_le _, fun L hL => ?_⟩
    have sm : ∀ o : HO, Same H (upd (upd H L (.lst [])) L o) := fun o => same_mut (same_new hL) hL
    have step : ∀ i, i < 9 → (i = 0 ∨ i = 1 ∨ i = 2 ∨ i = 3 ∨ i = 4 ∨ i = 5 ∨ i = 6 ∨ i = 7 ∨ i = 8) := fun i h => by omega
    rcases step i hi with rfl | rfl | rfl | rfl | rfl | rfl | rfl | rfl | rfl <;>
      (repeat (first | refine ⟨_, rfl, _, _, _, rfl, (fun u r => r), (by first | exact kf.k0 | exact kf.k1 | exact kf.k2 | exact kf.k3 | exact kf.k4 | exact kf.k5 | exact kf.k6 | exact kf.k7 | exact kf.k8), _, rfl, ?_⟩ | refine ⟨_, rfl, .inl ⟨rfl, _, SqL.of upd_same⟩, L, _, _, rfl, rfl, upd_same, szl (by decide), ?_⟩))
    all_goals
      refine ⟨_, rfl, L, _, rfl, .inl (SqL.of upd_same), rfl, _, rfl, ite2 (fun e => absurd e (by decide)) (fun _ => ?_)⟩
      refine ⟨_, rfl, _, _, _, rfl, (fun u r => r), kf.v, _, rfl, ?_⟩
      exact ⟨_, rfl, L, _, 0, _, rfl, rfl, SqL.of upd_same, rfl, q _ (sm _)⟩

abbrev s_L_refused : Stmt := topS 30
theorem sc_L_refused : FnScope ["_law_count_here", "_law_debts_here", "_law_cut", "_law_tags_here", "_law_error"] ["_law_count_here", "_law_debts_here", "_law_cut", "_law_tags_here"] (defScope s_L_refused) := ⟨rfl, rfl, rfl, by decide +kernel, rfl, by decide +kernel, by decide +kernel⟩
def spRefused5 (K : PySem.W.Frag) : Sp := fun vs H Q _ => ∃ (n : Int) (a : Addr) (ds : List Debt) (v u : V) (dv du : PyData), vs = [.int n, .ref a, v, u] ∧ 1 ≤ n ∧ n ≤ 20 ∧ (∀ d ∈ ds, InB n d) ∧ DL K H a ds ∧ ds.length ≤ 100 ∧ Amts ds ∧ Dp K H v dv ∧ Dp K H u du ∧
  (okCut ds dv = false → ∀ H', Same H H' → Q (.str "cut") H') ∧ (okCut ds dv = true → okTags n du = false → ∀ H', Same H H' → Q (.str "prices") H') ∧ (okCut ds dv = true → okTags n du = true → False)
theorem okTags_ints {n : Int} {ts : List Int} (h : (ts.length : Int) = n) : okTags n (.list (ts.map PyData.int)) = true := by
  show (decide (((ts.map PyData.int).length : Int) = n) && (ts.map PyData.int).all isInt) = true
  rw [List.length_map, decide_eq_true h, Bool.true_and, List.all_eq_true]
  intro x hx
  obtain ⟨z, _, rfl⟩ := List.mem_map.mp hx
  rfl
theorem ok_L_refused {C0 C1 C2 C3 C4 C5 C6 C7 C8 S : Addr} (D : DefAt K mg "_law_refused" s_L_refused) (g_DebtError : mg "DebtError" = some (.ref S)) (kf2 : KindF K C0 C1 C2 C3 C4 C5 C6 C7 C8 C2 2) (kf4 : KindF K C0 C1 C2 C3 C4 C5 C6 C7 C8 C4 4) (cf2 : CatchF K S C2) (cf4 : CatchF K S C4)
    (c_shown : Cal P w K mg base (L2N.CX P w) 4 "shown" ["count", "debts", "cut", "tags"] (spShown K C2 C4)) (c_L_kind : CalE P w K mg base 1 "_law_kind" ["_law_error"] (spKind K C0 C1 C2 C3 C4 C5 C6 C7 C8)) :
    Cal P w K mg base CX0 5 "_law_refused" ["_law_count_here", "_law_debts_here", "_law_cut", "_law_tags_here"] (spRefused5 K) := by
  refine D.ok sc_L_refused (fun _ _ _ _ _ _ us hl => match us, hl with | [_, _, _, _], _ => rfl) (fun vs H Q E h => ?_) (fun f cdv A outer s H vs Q E hr h => ?_)
  · obtain ⟨n, a, ds, v, u, dv, du, rfl, _⟩ := h
    rfl
  · obtain ⟨n, a, ds, v, u, dv, du, rfl, n1, nM, hin, hD, hlen, hamt, hv, hu, q1, q2, no⟩ := h
    refine ⟨_, (_root_.C8.pss_cut (L2N.ps_try_as (i := 4) rfl rfl sc_L_refused.nd rfl rfl ⟨by rfl, by decide, .inl g_DebtError⟩ takesN
      (fun W pn xe tk _ => (pss_one (ps_expr (pe_calS c_shown (hr.mono (by decide)) (by rfl) (fun σ => L2N.passAt tk σ) (pa_cons (pv 0) (pa_cons (pv 1) (pa_cons (pv 2) (pa_cons (pv 3) pa_nil))))))))
      (fun a oe cls d pn hz hf => (pss_one (ps_ret (pe_kind hz hf c_L_kind (hr.mono (by decide)) (by rfl) (pv 4))))))
      (pss_one (ps_ret pe_str))), ?_⟩
    refine ⟨fun σ' H' => False, ?_, ?_⟩
    · refine ⟨_, rfl, _, rfl, _, rfl, _, rfl, n, a, ds, v, u, dv, du, rfl, n1, nM, hin, hD, hlen, hamt, hv, hu, fun z H' sm => ?_, fun z1 z2 H' sm => ?_, fun cs ts e1 hc e2 hl H' sm => ?_⟩
      · refine ⟨true, cf2.m, fun _ a ha => ?_, fun z => Bool.noConfusion z⟩
        exact ⟨rfl, C2, 2, rfl, rfl, kf2, by decide, fun H2 s2 => q1 z H2 (sm.trans s2)⟩
      · refine ⟨true, cf4.m, fun _ a ha => ?_, fun z => Bool.noConfusion z⟩
        exact ⟨rfl, C4, 4, rfl, rfl, kf4, by decide, fun H2 s2 => q2 z1 z2 H2 (sm.trans s2)⟩
      · exact no (by rw [e1]; exact okCut_of hc) (by rw [e2]; exact okTags_ints hl)
    · intro σ' H' z
      exact z.elim

abbrev s_law : Stmt := topS 32
theorem sc_law : FnScope ["_law_script", "_law_count_here", "_law_debts_here", "_law_tags_here", "_law_cut", "_law_way", "_law_due", "_law_handed", "_law_found"] ["_law_script"] (defScope s_law) := ⟨rfl, rfl, rfl, by decide +kernel, rfl, by decide +kernel, by decide +kernel⟩
theorem ok_law {C2 C4 : Addr} (D : DefAt K mg "law" s_law) (B : Blt mg) (c_L_cell_at : Cal P w K mg base CX0 1 "_law_cell_at" ["_law_script", "_law_k"] (spCell K)) (c_L_count : Cal P w K mg base CX0 2 "_law_count" ["_law_script"] (spCount K))
    (c_L_debts : Cal P w K mg base CX0 2 "_law_debts" ["_law_script", "_law_first", "_law_count_here"] (spDebts K)) (c_L_tags : Cal P w K mg base CX0 2 "_law_tags" ["_law_script", "_law_count_here"] (spTags K))
    (c_L_cut_for : Cal P w K mg base CX0 1 "_law_cut_for" ["_law_debts_here", "_law_tags_here", "_law_cell"] (spCutFor K)) (c_L_bad_cut : Cal P w K mg base CX0 1 "_law_bad_cut" ["_law_debts_here", "_law_cut", "_law_cell"] (spBadCut K))
    (c_L_bad_tags : Cal P w K mg base CX0 1 "_law_bad_tags" ["_law_tags_here", "_law_cell"] (spBadTags K)) (c_L_refused : Cal P w K mg base CX0 5 "_law_refused" ["_law_count_here", "_law_debts_here", "_law_cut", "_law_tags_here"] (spRefused5 K))
    (c_L_truth : Cal P w K mg base CX0 1 "_law_truth" ["_law_found", "_law_due"] spTruth) (c_L_shows : Cal P w K mg base CX0 1 "_law_shows" ["_law_debts_here", "_law_cut", "_law_tags_here"] (spShows K))
    (c_shown : Cal P w K mg base (L2N.CX P w) 4 "shown" ["count", "debts", "cut", "tags"] (spShown K C2 C4)) : Cal P w K mg base CX0 6 "law" ["_law_script"] (spLaw K) := by
  refine D.ok sc_law (fun _ _ _ _ _ _ us hl => match us, hl with | [_], _ => rfl) (fun vs H Q E h => ?_) (fun f cdv A outer s H vs Q E hr h => ?_)
  · obtain ⟨a, ns, rfl, _⟩ := h
    rfl
  · obtain ⟨a, ns, rfl, hS, q⟩ := h
    refine ⟨_, (pss_cons (ps_set (i := 1) sc_law.nd rfl (.inl rfl) (pe_cal c_L_count (hr.mono (by decide)) (by rfl) pass0 (pa_cons (pv 0) pa_nil)))
      (pss_cons (ps_set (i := 2) sc_law.nd rfl (.inl rfl) (pe_cal c_L_debts (hr.mono (by decide)) (by rfl) pass0 (pa_cons (pv 0) (pa_cons pe_int (pa_cons (pv 1) pa_nil)))))
      (pss_cons (ps_set (i := 3) sc_law.nd rfl (.inl rfl) (pe_cal c_L_tags (hr.mono (by decide)) (by rfl) pass0 (pa_cons (pv 0) (pa_cons (pv 1) pa_nil))))
      (pss_cons (ps_set (i := 4) sc_law.nd rfl (.inl rfl) (pe_cal c_L_cut_for (hr.mono (by decide)) (by rfl) pass0 (pa_cons (pv 2) (pa_cons (pv 3) (pa_cons (pe_cal c_L_cell_at (hr.mono (by decide)) (by rfl) pass0 (pa_cons (pv 0) (pa_cons pe_int pa_nil))) pa_nil)))))
      (pss_cons (ps_set (i := 5) sc_law.nd rfl (.inl rfl) (pe_op op_mod (pe_cal c_L_cell_at (hr.mono (by decide)) (by rfl) pass0 (pa_cons (pv 0) (pa_cons pe_int pa_nil))) pe_int))
      (pss_cons (ps_if (pt_cmpR op_lt (pv 5) pe_int (nomark _)) (pss_cons (ps_set (i := 6) sc_law.nd rfl (.inl rfl) pe_str)
        (_root_.C8.pss_cut (ps_if (pt_cmpR op_gt (pv 5) pe_int (nomark _)) (pss_cons (ps_set (i := 4) sc_law.nd rfl (.inl rfl) (pe_cal c_L_bad_cut (hr.mono (by decide)) (by rfl) pass0 (pa_cons (pv 2) (pa_cons (pv 4) (pa_cons (pe_cal c_L_cell_at (hr.mono (by decide)) (by rfl) pass0 (pa_cons (pv 0) (pa_cons pe_int pa_nil))) pa_nil)))))
          (pss_one (ps_set (i := 6) sc_law.nd rfl (.inl rfl) pe_str))) pss_nil)
        (_root_.C8.pss_cut (ps_if (pt_cmpR op_lt (pv 5) pe_int (nomark _)) (pss_one (ps_set (i := 3) sc_law.nd rfl (.inl rfl) (pe_cal c_L_bad_tags (hr.mono (by decide)) (by rfl) pass0 (pa_cons (pv 3) (pa_cons (pe_op op_fdiv (pe_cal c_L_cell_at (hr.mono (by decide)) (by rfl) pass0 (pa_cons (pv 0) (pa_cons pe_int pa_nil))) pe_int) pa_nil))))) pss_nil)
        (pss_one (ps_ret (pe_cmpR op_eq (pe_cal c_L_refused (hr.mono (by decide)) (by rfl) pass0 (pa_cons (pv 1) (pa_cons (pe_callTy (r := rListQ K) call_list_of (by rfl) B.list (by decide +kernel) (pa_cons (pv 2) pa_nil)) (pa_cons (pv 4) (pa_cons (pv 3) pa_nil))))) (pv 6) (nomark _))))))) pss_nil)
      (pss_cons (ps_set (i := 7) sc_law.nd rfl (.inl rfl) (pe_lst (pa_cons (pe_callTy (r := rListQ K) call_list_of (by rfl) B.list (by decide +kernel) (pa_cons (pv 2) pa_nil)) (pa_cons (pe_callTy (r := rListQ K) call_list_of (by rfl) B.list (by decide +kernel) (pa_cons (pv 4) pa_nil)) (pa_cons (pe_callTy (r := rListQ K) call_list_of (by rfl) B.list (by decide +kernel) (pa_cons (pv 3) pa_nil)) pa_nil)))))
      (pss_cons (ps_set (i := 8) sc_law.nd rfl (.inl rfl) (pe_cal c_shown (hr.mono (by decide)) (by rfl) passN (pa_cons (pv 1) (pa_cons (pe_ix (r := rIxL K) ix_list (pv 7) pe_int (fun _ _ => rfl)) (pa_cons (pe_ix (r := rIxL K) ix_list (pv 7) pe_int (fun _ _ => rfl)) (pa_cons (pe_ix (r := rIxL K) ix_list (pv 7) pe_int (fun _ _ => rfl)) pa_nil))))))
      (pss_one (ps_ret (pe_and (pe_cal c_L_truth (hr.mono (by decide)) (by rfl) pass0 (pa_cons (pv 8) (pa_cons (pe_cal c_L_shows (hr.mono (by decide)) (by rfl) pass0 (pa_cons (pv 2) (pa_cons (pv 4) (pa_cons (pv 3) pa_nil)))) pa_nil))) (pe_one (pe_cmpR (r := rEqD K) (op_eqD hr.units) (pv 7) (pe_lst (pa_cons (pv 2) (pa_cons (pv 4) (pa_cons (pv 3) pa_nil)))) (nomark _)))))))))))))), ?_⟩
    refine ⟨_, rfl, a, ns, rfl, hS, fun n n2 nM => ?_⟩
    refine ⟨_, rfl, _, rfl, a, ns, 8, n, rfl, hS, by decide, by decide, n2, nM, fun H1 p ds s1 p0 hp gd hl => ?_⟩
    have hin : ∀ d ∈ ds, InB n d := fun d hd => (gd d hd).inb
    have hm0 : ∀ d ∈ ds, 0 ≤ d.2.2 := fun d hd => by
      have := (gd d hd).m1
      omega
    have hamt : Amts ds := fun d hd => ⟨hm0 d hd, (gd d hd).mM⟩
    have hlen : ds.length ≤ 100 := by omega
    refine ⟨_, rfl, _, rfl, a, ns, n, rfl, s1.seq hS, by omega, nM, fun H2 t ts s2 t0 et htl => ?_⟩
    refine ⟨_, rfl, _, rfl, _, rfl, a, ns, 5, rfl, (s1.trans s2).seq hS, by decide, p, t, n, ds, ts, _, rfl, s2.dl hp.dl, SqL.of et, htl, hlen, hin, hm0, fun H3 b cs s3 b0 eb hc => ?_⟩
    have s12 := s1.trans s2
    have s13 := s12.trans s3
    have et := s3 _ _ et
    obtain ⟨xs, hX, hV⟩ := (s2.trans s3).dl hp.dl
    have hxl := dvs_len hV
    have hcl := hc.len
    refine ⟨_, rfl, a, ns, 6, rfl, s13.seq hS, by decide, _, _, rfl, rfl, by show (0 : Int) < 18; decide, ?_⟩
    walk_at "nf"
    have hw := emod_b (x := cell ns 6) (n := 18) (by omega)
    generalize cell ns 6 % 18 = way at hw
    refine ⟨_, rfl, _, _, rfl, rfl, _, rfl, ite2 (fun h3 => ?_) (fun h3 => ?_)⟩
    · -- refused
      refine ⟨fun σ' H' => ∃ (v : V) (dv : PyData) (due : Str), σ' = [some (.ref a), some (.int n), some (.ref p), some (.ref t), some v, some (.int way), some (.str due), none, none] ∧ Same H3 H' ∧ Dp K H' v dv ∧ ((way = 0 ∧ due = "prices" ∧ okCut ds dv = true) ∨ (0 < way ∧ due = "cut" ∧ okCut ds dv = false)), ?_, ?_⟩
      · refine ⟨_, rfl, _, _, rfl, rfl, _, rfl, ite2 (fun h => ?_) (fun h => ?_)⟩
        · have h' := of_decide_eq_true h
          refine ⟨_, rfl, _, rfl, _, rfl, a, ns, 7, rfl, s13.seq hS, by decide, p, b, ds, cs, _, rfl, ⟨xs, hX, hV⟩, eb, hc, hlen, hm0, fun v H4 e s4 dv no => ?_⟩
          exact ⟨v, e, _, rfl, s4, dv, .inr ⟨h', rfl, no⟩⟩
        · have h' : ¬ 0 < way := fun z => h (decide_eq_true z)
          exact ⟨.ref b, _, _, rfl, Same.refl _, eqv_intsL (SqL.of eb), .inl ⟨by omega, rfl, okCut_of hc⟩⟩
      rintro σ' H4 ⟨v, dv, due, rfl, s4, hv, hdue⟩
      have et4 := s4 _ _ et
      have s14 := s13.trans s4
      refine ⟨fun σ' H' => ∃ (u : V) (du : PyData), σ' = [some (.ref a), some (.int n), some (.ref p), some u, some v, some (.int way), some (.str due), none, none] ∧ Same H4 H' ∧ Dp K H' u du ∧ (way < 2 → okTags n du = false) ∧ (¬ way < 2 → okTags n du = true), ?_, ?_⟩
      · refine ⟨_, rfl, _, _, rfl, rfl, _, rfl, ite2 (fun h => ?_) (fun h => ?_)⟩
        · have h' := of_decide_eq_true h
          refine ⟨_, rfl, _, rfl, a, ns, 7, rfl, s14.seq hS, by decide, _, _, rfl, rfl, ⟨by decide, by decide⟩, t, n, _, ts, rfl, et4, htl, by omega, by omega, fun u H5 e s5 du no => ?_⟩
          exact ⟨u, e, rfl, s5, du, fun _ => no, fun z => absurd h' z⟩
        · have h' : ¬ way < 2 := fun z => h (decide_eq_true z)
          exact ⟨.ref t, _, rfl, Same.refl _, eqv_intsL (SqL.of et4), fun z => absurd z h', fun _ => okTags_ints htl⟩
      rintro σ' H5 ⟨u, du, rfl, s5, hu, ht1, ht2⟩
      have s45 := s4.trans s5
      refine ⟨_, rfl, _, rfl, p, xs, rfl, .inl (s45.seq hX), fun l hl0 => ?_⟩
      have s6 := same_new (o := .lst xs) hl0
      refine ⟨_, rfl, _, rfl, n, l, ds, v, u, dv, du, rfl, by omega, nM, hin, ⟨xs, SqL.of upd_same, (s45.trans s6).dvs hV⟩, hlen, hamt, (s5.trans s6).dp hv, s6.dp hu, fun z H6 _ => ?_, fun z1 z2 H6 _ => ?_, fun z1 z2 => ?_⟩
      · rcases hdue with ⟨_, _, h⟩ | ⟨_, rfl, _⟩
        · rw [h] at z
          cases z
        · refine ⟨_, rfl, rfl, ?_⟩
          rw [decide_eq_true rfl]
          exact q _
      · rcases hdue with ⟨_, rfl, _⟩ | ⟨_, _, h⟩
        · refine ⟨_, rfl, rfl, ?_⟩
          rw [decide_eq_true rfl]
          exact q _
        · rw [h] at z1
          cases z1
      · rcases hdue with ⟨h, _, _⟩ | ⟨_, _, h⟩
        · rw [ht1 (by omega)] at z2
          cases z2
        · rw [h] at z1
          cases z1
    -- handed = [list(debts), list(cut), list(tags)]
    refine ⟨_, rfl, p, xs, rfl, .inl hX, fun l1 hl1 => ?_⟩
    have s4 := same_new (o := .lst xs) hl1
    refine ⟨_, rfl, b, _, rfl, .inl (s4.seq (SqL.of eb)), fun l2 hl2 => ?_⟩
    have s5 := s4.trans (same_new (o := .lst (cs.map V.int)) hl2)
    refine ⟨_, rfl, t, _, rfl, .inl (s5.seq (SqL.of et)), fun l3 hl3 => ?_⟩
    have s6 := s5.trans (same_new (o := .lst (ts.map V.int)) hl3)
    refine ⟨lb rfl, fun l4 hl4 => ?_⟩
    have sz := same_new (o := .lst [.ref l1, .ref l2, .ref l3]) hl4
    have s7 := s6.trans sz
    have e1 := sz _ _ ((same_new (o := .lst (ts.map V.int)) hl3) _ _ ((same_new (o := .lst (cs.map V.int)) hl2) _ _ (upd_same (H := H3) (a := l1) (o := .lst xs))))
    have e2 := sz _ _ ((same_new (o := .lst (ts.map V.int)) hl3) _ _ (upd_same (H := upd H3 l1 (.lst xs)) (a := l2) (o := .lst (cs.map V.int))))
    have e3 := sz _ _ (upd_same (H := upd (upd H3 l1 (.lst xs)) l2 (.lst (cs.map V.int))) (a := l3) (o := .lst (ts.map V.int)))
    have e4 := upd_same (H := upd (upd (upd H3 l1 (.lst xs)) l2 (.lst (cs.map V.int))) l3 (.lst (ts.map V.int))) (a := l4) (o := .lst [.ref l1, .ref l2, .ref l3])
    generalize upd (upd (upd (upd H3 l1 (.lst xs)) l2 (.lst (cs.map V.int))) l3 (.lst (ts.map V.int))) l4 (.lst [.ref l1, .ref l2, .ref l3]) = H4 at s7 e1 e2 e3 e4
    clear sz
    have dl1 : DL K H4 l1 ds := ⟨xs, SqL.of e1, s7.dvs hV⟩
    have dc1 : Dp K H4 (.ref l2) (.list (cs.map PyData.int)) := eqv_intsL (SqL.of e2)
    have dt1 : Dp K H4 (.ref l3) (.list (ts.map PyData.int)) := eqv_intsL (SqL.of e3)
    refine ⟨_, rfl, _, rfl, l4, _, 0, .ref l1, rfl, rfl, SqL.of e4, rfl, _, rfl, l4, _, 1, .ref l2, rfl, rfl, SqL.of e4, rfl, _, rfl, l4, _, 2, .ref l3, rfl, rfl, SqL.of e4, rfl, n, l1, ds, .ref l2, .ref l3, _, _, rfl, by omega, nM, hin, dl1, hlen, hamt, dc1, dt1, fun no => ?_, fun _ no => ?_, fun cs' ts' ec hc' et' htl' H5 s8 => ?_⟩
    · rw [okCut_of hc] at no
      cases no
    · rw [okTags_ints htl] at no
      cases no
    have hcs : cs' = cs := ((List.map_inj_right (fun i j h => PyData.int.inj h)).mp (PyData.list.inj ec)).symm
    have hts : ts' = ts := ((List.map_inj_right (fun i j h => PyData.int.inj h)).mp (PyData.list.inj et')).symm
    subst hcs hts
    have s78 := s7.trans s8
    refine ⟨_, rfl, _, rfl, _, rfl, _, rfl, p, b, t, n, ds, _, _, rfl, ⟨xs, s78.seq hX, s78.dvs hV⟩, SqL.of (s78 _ _ eb), SqL.of (s78 _ _ et), hcl, htl, hlen, hin, ?_⟩
    refine ⟨_, _, rfl, ?_⟩
    rw [decide_eq_true rfl]
    refine ⟨_, rfl, ?_⟩
    refine ⟨_, rfl, _, rfl, _, rfl, _, rfl, lb rfl, fun l5 hl5 => ?_⟩
    have s9 := same_new (o := .lst [.ref p, .ref b, .ref t]) hl5
    have s89 := s8.trans s9
    have s79 := s78.trans s9
    have sh : Sh 3 (.list [.list (encs ds), .list (cs'.map PyData.int), .list (ts'.map PyData.int)]) := sh_list fun d hd => by
      simp only [List.mem_cons, List.not_mem_nil, or_false] at hd
      rcases hd with rfl | rfl | rfl
      · exact sh_encs ds
      · exact (sh_ints _).mono (by decide)
      · exact (sh_ints _).mono (by decide)
    refine ⟨.list [.list (encs ds), .list (cs'.map PyData.int), .list (ts'.map PyData.int)], .list [.list (encs ds), .list (cs'.map PyData.int), .list (ts'.map PyData.int)],
      .lst (SqL.of (s89 _ _ e4)) (.cons (s89.dl dl1).dp (.cons (s89.dp dc1) (.cons (s89.dp dt1) .nil))),
      .lst (SqL.of upd_same) (.cons (DL.dp ⟨xs, s79.seq hX, s79.dvs hV⟩) (.cons (eqv_intsL (SqL.of (s79 _ _ eb))) (.cons (eqv_intsL (SqL.of (s79 _ _ et))) .nil))),
      sh.shaped (by decide), sh.shaped (by decide), ?_⟩
    rw [eqv_self sh]
    exact q _

end
theorem all_ok {P : Program} {w : World} {K : PySem.W.Frag} {mg : Str → Option Value} {base : Heap}
    {C0 C1 C2 C3 C4 C5 C6 C7 C8 S : Addr}
    (B : Blt mg)
    (N : Nine mg C0 C1 C2 C3 C4 C5 C6 C7 C8)
    (x_BadCut : ExcOf K mg "BadCut" C2)
    (x_BadPrices : ExcOf K mg "BadPrices" C4)
    (g_DebtError : mg "DebtError" = some (.ref S))
    (kf2 : KindF K C0 C1 C2 C3 C4 C5 C6 C7 C8 C2 2)
    (kf4 : KindF K C0 C1 C2 C3 C4 C5 C6 C7 C8 C4 4)
    (cf2 : CatchF K S C2)
    (cf4 : CatchF K S C4)
    (D_L_cell_at : DefAt K mg "_law_cell_at" s_L_cell_at)
    (D_L_truth : DefAt K mg "_law_truth" s_L_truth)
    (D_L_debt : DefAt K mg "_law_debt" s_L_debt)
    (D_L_count : DefAt K mg "_law_count" s_L_count)
    (D_L_debts : DefAt K mg "_law_debts" s_L_debts)
    (D_is_whole : DefAt K mg "is_whole" s_is_whole)
    (D_is_number : DefAt K mg "is_number" s_is_number)
    (D_check_cut : DefAt K mg "check_cut" s_check_cut)
    (D_check_prices : DefAt K mg "check_prices" s_check_prices)
    (D_shown : DefAt K mg "shown" s_shown)
    (D_L_shows : DefAt K mg "_law_shows" s_L_shows)
    (D_L_tags : DefAt K mg "_law_tags" s_L_tags)
    (D_L_cut_for : DefAt K mg "_law_cut_for" s_L_cut_for)
    (D_L_bad_cut : DefAt K mg "_law_bad_cut" s_L_bad_cut)
    (D_L_bad_tags : DefAt K mg "_law_bad_tags" s_L_bad_tags)
    (D_L_kind : DefAt K mg "_law_kind" s_L_kind)
    (D_L_refused : DefAt K mg "_law_refused" s_L_refused)
    (D_law : DefAt K mg "law" s_law)
    : Cal P w K mg base CX0 6 "law" ["_law_script"] (spLaw K) := by
  have c_L_cell_at := ok_L_cell_at (P := P) (w := w) (base := base) D_L_cell_at B
  have c_L_truth := ok_L_truth (P := P) (w := w) (base := base) D_L_truth B
  have c_L_debt := ok_L_debt (P := P) (w := w) (base := base) D_L_debt
  have c_L_count := ok_L_count (P := P) (w := w) (base := base) D_L_count c_L_cell_at
  have c_L_debts := ok_L_debts (P := P) (w := w) (base := base) D_L_debts B c_L_cell_at c_L_debt
  have c_is_whole := ok_is_whole (P := P) (w := w) (base := base) D_is_whole B
  have c_is_number := ok_is_number (P := P) (w := w) (base := base) D_is_number c_is_whole
  have c_check_cut := ok_check_cut (P := P) (w := w) (base := base) D_check_cut B x_BadCut c_is_number
  have c_check_prices := ok_check_prices (P := P) (w := w) (base := base) D_check_prices B x_BadPrices c_is_whole
  have c_shown := ok_shown (P := P) (w := w) (base := base) D_shown B c_check_cut c_check_prices
  have c_L_shows := ok_L_shows (P := P) (w := w) (base := base) D_L_shows B
  have c_L_tags := ok_L_tags (P := P) (w := w) (base := base) D_L_tags B c_L_cell_at
  have c_L_cut_for := ok_L_cut_for (P := P) (w := w) (base := base) D_L_cut_for B
  have c_L_bad_cut := ok_L_bad_cut (P := P) (w := w) (base := base) D_L_bad_cut B
  have c_L_bad_tags := ok_L_bad_tags (P := P) (w := w) (base := base) D_L_bad_tags B
  have c_L_kind := ok_L_kind (P := P) (w := w) (base := base) D_L_kind B N
  have c_L_refused := ok_L_refused (P := P) (w := w) (base := base) D_L_refused g_DebtError kf2 kf4 cf2 cf4 c_shown c_L_kind
  exact ok_law D_law B c_L_cell_at c_L_count c_L_debts c_L_tags c_L_cut_for c_L_bad_cut c_L_bad_tags c_L_refused c_L_truth c_L_shows c_shown
end Cd
open PySem PySem.W PyProof.Rows
set_option maxRecDepth 100000 in
set_option maxHeartbeats 0 in
theorem PySem.Challenge.cw_clearday_k05_prices_that_show_holds : PySem.Challenge.rw_clearday_k05_prices_that_show.Holds := by
  w_on; o_law; k_head; (case hw => w_witness2)
  k_fill
  refine L2.walk_of (l := PySem.Challenge.rw_clearday_k05_prices_that_show) (n := 63) (k := 6) (x := "_law_script") (CX := fun _ => L2.CX0) (sp := fun w => Cd.spLaw _) rfl (by decide) rfl ⟨rfl, by decide, by decide⟩ (fun w h Y => PySem.W.kIn_of Y) ?F (fun _ _ a ns hl _ hS => ⟨a, ns, rfl, hS, fun _ => rfl⟩) (fun _ _ _ _ _ h => h)
  case F =>
    intro w mg fa h KX G hmg
    have B : Cd.Blt mg := by
      refine' ⟨PySem.W.mg_none_of KX G ?b_len, PySem.W.mg_none_of KX G ?b_range, PySem.W.mg_none_of KX G ?b_isinstance, PySem.W.mg_none_of KX G ?b_list, PySem.W.mg_none_of KX G ?b_int, PySem.W.mg_none_of KX G ?b_bool, PySem.W.mg_none_of KX G ?b_tuple, PySem.W.mg_none_of KX G ?b_sum, PySem.W.mg_none_of KX G ?b_min, PySem.W.mg_none_of KX G ?b_max, PySem.W.mg_none_of KX G ?b_enumerate, PySem.W.mg_none_of KX G ?b_zip, PySem.W.mg_none_of KX G ?b_any, PySem.W.mg_none_of KX G ?b_all, PySem.W.mg_none_of KX G ?b_abs, PySem.W.mg_none_of KX G ?b_sorted, PySem.W.mg_none_of KX G ?b_reversed, PySem.W.mg_none_of KX G ?b_ValueError, PySem.W.mg_none_of KX G ?b_set⟩
      (case b_len => k_is)
      (case b_range => k_is)
      (case b_isinstance => k_is)
      (case b_list => k_is)
      (case b_int => k_is)
      (case b_bool => k_is)
      (case b_tuple => k_is)
      (case b_sum => k_is)
      (case b_min => k_is)
      (case b_max => k_is)
      (case b_enumerate => k_is)
      (case b_zip => k_is)
      (case b_any => k_is)
      (case b_all => k_is)
      (case b_abs => k_is)
      (case b_sorted => k_is)
      (case b_reversed => k_is)
      (case b_ValueError => k_is)
      (case b_set => k_is)
    have D_L_cell_at := Cd.defAt_mk (x := "_law_cell_at") (st := Cd.s_L_cell_at) KX G (by k_is) (by k_is) (by k_is) (by k_is)
    have D_L_truth := Cd.defAt_mk (x := "_law_truth") (st := Cd.s_L_truth) KX G (by k_is) (by k_is) (by k_is) (by k_is)
    have D_L_debt := Cd.defAt_mk (x := "_law_debt") (st := Cd.s_L_debt) KX G (by k_is) (by k_is) (by k_is) (by k_is)
    have D_L_count := Cd.defAt_mk (x := "_law_count") (st := Cd.s_L_count) KX G (by k_is) (by k_is) (by k_is) (by k_is)
    have D_L_debts := Cd.defAt_mk (x := "_law_debts") (st := Cd.s_L_debts) KX G (by k_is) (by k_is) (by k_is) (by k_is)
    have D_is_whole := Cd.defAt_mk (x := "is_whole") (st := Cd.s_is_whole) KX G (by k_is) (by k_is) (by k_is) (by k_is)
    have D_is_number := Cd.defAt_mk (x := "is_number") (st := Cd.s_is_number) KX G (by k_is) (by k_is) (by k_is) (by k_is)
    have D_check_cut := Cd.defAt_mk (x := "check_cut") (st := Cd.s_check_cut) KX G (by k_is) (by k_is) (by k_is) (by k_is)
    have D_check_prices := Cd.defAt_mk (x := "check_prices") (st := Cd.s_check_prices) KX G (by k_is) (by k_is) (by k_is) (by k_is)
    have D_shown := Cd.defAt_mk (x := "shown") (st := Cd.s_shown) KX G (by k_is) (by k_is) (by k_is) (by k_is)
    have D_L_shows := Cd.defAt_mk (x := "_law_shows") (st := Cd.s_L_shows) KX G (by k_is) (by k_is) (by k_is) (by k_is)
    have D_L_tags := Cd.defAt_mk (x := "_law_tags") (st := Cd.s_L_tags) KX G (by k_is) (by k_is) (by k_is) (by k_is)
    have D_L_cut_for := Cd.defAt_mk (x := "_law_cut_for") (st := Cd.s_L_cut_for) KX G (by k_is) (by k_is) (by k_is) (by k_is)
    have D_L_bad_cut := Cd.defAt_mk (x := "_law_bad_cut") (st := Cd.s_L_bad_cut) KX G (by k_is) (by k_is) (by k_is) (by k_is)
    have D_L_bad_tags := Cd.defAt_mk (x := "_law_bad_tags") (st := Cd.s_L_bad_tags) KX G (by k_is) (by k_is) (by k_is) (by k_is)
    have D_L_kind := Cd.defAt_mk (x := "_law_kind") (st := Cd.s_L_kind) KX G (by k_is) (by k_is) (by k_is) (by k_is)
    have D_L_refused := Cd.defAt_mk (x := "_law_refused") (st := Cd.s_L_refused) KX G (by k_is) (by k_is) (by k_is) (by k_is)
    have D_law := Cd.defAt_mk (x := "law") (st := Cd.s_law) KX G (by k_is) (by k_is) (by k_is) (by k_is)
    have x_BadCut := Cd.excOf_mk (x := "BadCut") KX G (by k_is) (by k_exc) (by k_is) (by k_is) (by k_is)
    have x_BadPrices := Cd.excOf_mk (x := "BadPrices") KX G (by k_is) (by k_exc) (by k_is) (by k_is) (by k_is)
    have g_DebtError := PySem.W.mg_of (n := "DebtError") KX G (by k_is)
    have N := Cd.nine_mk KX G (by k_is) (by k_is) (by k_is) (by k_is) (by k_is) (by k_is) (by k_is) (by k_is) (by k_is)
    exact Cd.law_end D_law hmg (fun _ _ _ _ _ _ _ _ => .of_eq rfl) fun base _ _ => Cd.all_ok B N x_BadCut x_BadPrices g_DebtError ⟨⟨by k_is, by k_is, by k_is, by k_is, by k_is, by k_is, by k_is, by k_is⟩, Cd.kit_val (by k_is), Cd.kit_ref (by k_is) (by k_is) (by k_is) (by decide), Cd.kit_ref (by k_is) (by k_is) (by k_is) (by decide), Cd.kit_ref (by k_is) (by k_is) (by k_is) (by decide), Cd.kit_ref (by k_is) (by k_is) (by k_is) (by decide), Cd.kit_ref (by k_is) (by k_is) (by k_is) (by decide), Cd.kit_ref (by k_is) (by k_is) (by k_is) (by decide), Cd.kit_ref (by k_is) (by k_is) (by k_is) (by decide), Cd.kit_ref (by k_is) (by k_is) (by k_is) (by decide), Cd.kit_ref (by k_is) (by k_is) (by k_is) (by decide)⟩ ⟨⟨by k_is, by k_is, by k_is, by k_is, by k_is, by k_is, by k_is, by k_is⟩, Cd.kit_val (by k_is), Cd.kit_ref (by k_is) (by k_is) (by k_is) (by decide), Cd.kit_ref (by k_is) (by k_is) (by k_is) (by decide), Cd.kit_ref (by k_is) (by k_is) (by k_is) (by decide), Cd.kit_ref (by k_is) (by k_is) (by k_is) (by decide), Cd.kit_ref (by k_is) (by k_is) (by k_is) (by decide), Cd.kit_ref (by k_is) (by k_is) (by k_is) (by decide), Cd.kit_ref (by k_is) (by k_is) (by k_is) (by decide), Cd.kit_ref (by k_is) (by k_is) (by k_is) (by decide), Cd.kit_ref (by k_is) (by k_is) (by k_is) (by decide)⟩ ⟨by k_is, by k_is, by k_is, by k_is⟩ ⟨by k_is, by k_is, by k_is, by k_is⟩ D_L_cell_at D_L_truth D_L_debt D_L_count D_L_debts D_is_whole D_is_number D_check_cut D_check_prices D_shown D_L_shows D_L_tags D_L_cut_for D_L_bad_cut D_L_bad_tags D_L_kind D_L_refused D_law
