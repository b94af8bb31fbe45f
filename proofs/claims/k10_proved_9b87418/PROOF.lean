import PyProof.Rows.All
import Wide.All
import OpenK.AllK
import Wide.FinOn
import HandS.ForMost
import HandS.Steps
import HandS.IsInst
import HandS.TupAny
import HandS.Zip
import HandS.Codes
import HandS.Small
import HandS.Flow
import HandS.Walk
import HandS.Evl
import KE.GoesEnum
import KE.GoesZip
import KE.GoesMore
import HandS.List
import HandS.Deep
import HandS.Conv
import HandS.RevRange
import HandS.TupMul
import PySem.Challenge.RW_handways_k10_whole_nothing_that_is_a_pla
set_option Elab.async false
set_option linter.all false
set_option maxRecDepth 100000
set_option maxHeartbeats 4000000
/-! My own layer over HandS: callees in short, heaps that keep, data. -/
namespace Hw
open PySem PySem.Spec PyProof.Rows L2

/-! ### callees -/
section
variable {P : Program} {w : World} {K : PySem.W.Frag} {mg : Str → Option Value} {base : Heap}
/-- a def of the top, with its promise -/
structure Callee (P : Program) (w : World) (K : PySem.W.Frag) (mg : Str → Option Value) (base : Heap) (x : Str) (k : Nat) (ps : List Str) (sp : Sp) : Prop where
  ex : ∃ (f : Addr) (fd : FuncData), FnOk P w K mg base CX0 k f fd ps sp ∧ mg x = some (.ref f) ∧ PySem.W.keepIn K (.ref f) = true ∧ Binds K fd ps [] ∧ ∃ oc od osl, K.lookup f = some ⟨oc, od, .func fd, osl⟩
/-- a def of the top, as it stands -/
structure DefAt (K : PySem.W.Frag) (mg : Str → Option Value) (x : Str) (st : Stmt) (ps : List Str) : Prop where
  ex : ∃ (f : Addr) (fd : FuncData), Fun K x x st f fd ∧ mg x = some (.ref f) ∧ Binds K fd ps []
theorem DefAt.ok {x : Str} {st : Stmt} {N ps : List Str} {k : Nat} {sp : Sp} (D : DefAt K mg x st ps) (S : FnScope N ps (defScope st)) (len : ∀ vs H Q E, sp vs H Q E → vs.length = ps.length)
    (hbody : ∀ (f : Addr) (cdv : Value) (A : Around) (outer : List Env) (s : Shared) (H : Hp) (vs : List V) (Q : VK) (E : XK), Room k (A.deeper (envOfC x (defScope st) s.heap.objs.size f cdv)) → sp vs H Q E →
      ∃ t, PSs (cxOf CX0 P w K mg base N x (defScope st) f cdv A outer s H E).nox (defBody st) t ∧ t { nx := fun _ H' => Q .non H', rt := Q } (start N vs) H) : Callee P w K mg base x (k + 1) ps sp := by
  obtain ⟨f, fd, F, m, b⟩ := D.ex
  obtain ⟨oc, od, kV, doc, pm, an, cdv, ct, osl, e, lk, hcd⟩ := id F.ex
  exact ⟨f, fd, F.ok S len fun cdv A outer s H vs Q E hr h => hbody f cdv A outer s H vs Q E hr h, m, F.kp, b, oc, od, osl, lk⟩
/-- nothing is asked, nothing is promised -/
theorem DefAt.none {x : Str} {st : Stmt} {ps : List Str} {k : Nat} {sp : Sp} (D : DefAt K mg x st ps) (no : ∀ vs H Q E, ¬ sp vs H Q E) : Callee P w K mg base x k ps sp := by
  obtain ⟨f, fd, F, m, b⟩ := D.ex
  obtain ⟨oc, od, kV, doc, pm, an, cdv, ct, osl, e, lk, hcd⟩ := id F.ex
  exact ⟨f, fd, ⟨fun vs H Q E h => absurd h (no vs H Q E), fun A outer s H args us vs Q E _ _ _ _ h => absurd h (no vs H Q E)⟩, m, F.kp, b, oc, od, osl, lk⟩
theorem Callee.mono {x : Str} {j k : Nat} {ps : List Str} {sp : Sp} (C : Callee P w K mg base x j ps sp) (h : j ≤ k) : Callee P w K mg base x k ps sp := by
  obtain ⟨f, fd, F, r⟩ := C.ex
  exact ⟨f, fd, F.mono h, r⟩
/-- of all promises at once -/
theorem Callee.all {ι : Type} {x : Str} {k : Nat} {ps : List Str} {sp : ι → Sp} (i0 : ι) (h : ∀ i, Callee P w K mg base x k ps (sp i)) : Callee P w K mg base x k ps (fun vs H Q E => ∃ i, sp i vs H Q E) := by
  obtain ⟨f, fd, F, m, kp, b, oc, od, osl, lk⟩ := (h i0).ex
  have at_ : ∀ i, FnOk P w K mg base CX0 k f fd ps (sp i) := fun i => by
    obtain ⟨f', fd', F', m', kp', b', oc', od', osl', lk'⟩ := (h i).ex
    rw [m] at m'
    cases m'
    rw [lk] at lk'
    cases lk'
    exact F'
  exact ⟨f, fd, ⟨fun vs H Q E ⟨i, q⟩ => (at_ i).len vs H Q E q, fun A outer s H args us vs Q E hr he hb hv ⟨i, q⟩ => (at_ i).run A outer s H args us vs Q E hr he hb hv q⟩, m, kp, b, oc, od, osl, lk⟩
theorem Callee.imp {x : Str} {k : Nat} {ps : List Str} {sp sp' : Sp} (C : Callee P w K mg base x k ps sp) (h : ∀ vs H Q E, sp' vs H Q E → sp vs H Q E) : Callee P w K mg base x k ps sp' := by
  obtain ⟨f, fd, F, r⟩ := C.ex
  exact ⟨f, fd, F.imp h, r⟩
end
section
variable {X : Cx}
theorem pcall {k : Nat} {ps : List Str} {sp : Sp} {x : Str} {p pos : Pos} {e : Expr} {es : List Expr} {t : TA} (C : Callee X.prog X.w X.K X.mg X.base x k ps sp) (hr : Room k X.A) (hg : Gl X x) (ha : PA X (e :: es) t)
    (hd : (x == ("__debug__" : Str)) = false := by decide) (h1 : starEach (e :: es) X.env = (false, eval e X.env) :: starEach es X.env := by rfl)
    (h2 : ((backTo pos (starEach es X.env)).any fun x => x.1) = false := by rfl) : PE X (.Call (.Name x p) (e :: es) [] pos) (tCall sp [] E0 t) := by
  obtain ⟨f, fd, F, m, kp, b, _⟩ := C.ex
  exact pe_call F hr hg m kp b .nil pass0 ha hd h1 h2
theorem pcall0 {k : Nat} {ps : List Str} {sp : Sp} {x : Str} {p pos : Pos} (C : Callee X.prog X.w X.K X.mg X.base x k ps sp) (hr : Room k X.A) (hg : Gl X x)
    (hd : (x == ("__debug__" : Str)) = false := by decide) : PE X (.Call (.Name x p) [] [] pos) (tCall sp [] E0 tNil) := by
  obtain ⟨f, fd, F, m, kp, b, _⟩ := C.ex
  exact pe_call0 F hr hg m kp b .nil pass0 hd
end
/-- the built-in names that the program doesn't give another meaning -/
structure Blt (mg : Str → Option Value) : Prop where
  len : mg "len" = none
  int : mg "int" = none
  range : mg "range" = none
  isinstance : mg "isinstance" = none
  tuple : mg "tuple" = none
  list : mg "list" = none
  bool : mg "bool" = none
  str : mg "str" = none
  zip : mg "zip" = none
  enumerate : mg "enumerate" = none

/-! ### heaps that keep all but some -/
def Keep (M : List Addr) (H H' : Hp) : Prop := ∀ a o, H a = some o → a ∉ M → H' a = some o
theorem Keep.refl {M : List Addr} {H : Hp} : Keep M H H := fun _ _ h _ => h
theorem Keep.trans {M : List Addr} {H H1 H2 : Hp} (a : Keep M H H1) (b : Keep M H1 H2) : Keep M H H2 := fun x o h n => b x o (a x o h n) n
theorem Keep.mono {M M' : List Addr} {H H1 : Hp} (a : Keep M H H1) (s : ∀ x ∈ M, x ∈ M') : Keep M' H H1 := fun x o h n => a x o h fun z => n (s x z)
theorem Keep.new {M : List Addr} {H : Hp} {p : Addr} {o : HO} (h : H p = none) : Keep M H (upd H p o) := fun a u e _ => by
  rw [upd_ne (ne_of_none e h)]
  exact e
theorem Keep.put {M : List Addr} {H : Hp} {p : Addr} {o : HO} (h : p ∈ M) : Keep M H (upd H p o) := fun a u e n => by
  have : a ≠ p := fun z => n (z ▸ h)
  rw [upd_ne this]
  exact e
/-- what is new may be changed -/
theorem Keep.at {M : List Addr} {H H1 : Hp} {p : Addr} {o : HO} (a : Keep M H H1) (h : H p = none) : Keep M H (upd H1 p o) := fun x u e n => by
  rw [upd_ne (ne_of_none e h)]
  exact a x u e n
/-- what is only new may be changed by the rest -/
theorem Keep.less {M : List Addr} {H H1 : Hp} {p : Addr} (a : Keep (p :: M) H H1) (h : H p = none) : Keep M H H1 := fun x u e n =>
  a x u e fun z => by
    rcases List.mem_cons.mp z with z | z
    · exact ne_of_none e h z
    · exact n z
theorem Keep.fresh1 {M : List Addr} {H H1 H2 : Hp} {l : Addr} (k1 : Keep M H H1) (k2 : Keep [l] H1 H2) (n : H l = none) : Keep M H H2 :=
  ((k1.mono (M' := l :: M) fun x hx => List.mem_cons_of_mem _ hx).trans (k2.mono (M' := l :: M) fun x hx => List.mem_cons.mpr (.inl (List.mem_singleton.mp hx)))).less n
theorem Keep.by0 {M : List Addr} {H H1 H2 : Hp} (k1 : Keep M H H1) (k2 : Keep [] H1 H2) : Keep M H H2 := k1.trans (k2.mono fun _ z => nomatch z)
/-- free behind is free ahead -/
theorem Keep.free {M : List Addr} {H H1 : Hp} {p : Addr} (a : Keep M H H1) (hm : ∀ m ∈ M, H1 m ≠ none) (h : H1 p = none) : H p = none := by
  cases e : H p with
  | none => rfl
  | some o =>
    by_cases z : p ∈ M
    · exact absurd h (hm p z)
    · rw [a p o e z] at h
      cases h
theorem Keep.rd {M : List Addr} {H H1 : Hp} {a : Addr} {u : HO} (k : Keep M H H1) (n : a ∉ M) (h : Rd H a u) : Rd H1 a u := by
  rcases h with h | ⟨o, h⟩
  · exact .inl (k a _ h n)
  · exact .inr ⟨o, k a _ h n⟩
theorem Keep.sqL {K : PySem.W.Frag} {M : List Addr} {H H1 : Hp} {a : Addr} {xs : List V} (k : Keep M H H1) (n : a ∉ M) (h : SqL K H a xs) : SqL K H1 a xs := by
  rcases h with h | h
  · exact .inl (k.rd n h)
  · exact .inr h

/-! ### tuples stay -/
/-- every tuple, and whatever is locked, stands as it was -/
def Tst (H H' : Hp) : Prop := (∀ a xs, H a = some (.tup xs) → H' a = some (.tup xs)) ∧ ∀ a o u, H a = some (.frz o u) → H' a = some (.frz o u)
theorem Tst.refl {H : Hp} : Tst H H := ⟨fun _ _ h => h, fun _ _ _ h => h⟩
theorem Tst.trans {H H1 H2 : Hp} (a : Tst H H1) (b : Tst H1 H2) : Tst H H2 := ⟨fun x xs h => b.1 x xs (a.1 x xs h), fun x o u h => b.2 x o u (a.2 x o u h)⟩
/-- what is at M is no tuple and not locked -/
def Lo (H : Hp) (M : List Addr) : Prop := ∀ a ∈ M, (∃ xs, H a = some (.lst xs)) ∨ (∃ kvs, H a = some (.dK kvs)) ∨ ∃ C dx fs, H a = some (.ins C dx fs)
theorem Keep.ts {M : List Addr} {H H1 : Hp} (k : Keep M H H1) (l : Lo H M) : Tst H H1 := by
  have no : ∀ a o, H a = some o → (∀ xs, o ≠ .lst xs) → (∀ kvs, o ≠ .dK kvs) → (∀ C dx fs, o ≠ .ins C dx fs) → a ∉ M := fun a o e h1 h2 h3 z => by
    rcases l a z with ⟨xs, q⟩ | ⟨kvs, q⟩ | ⟨C, dx, fs, q⟩
    · rw [e] at q; exact h1 _ (Option.some.inj q)
    · rw [e] at q; exact h2 _ (Option.some.inj q)
    · rw [e] at q; exact h3 _ _ _ (Option.some.inj q)
  exact ⟨fun a xs h => k a _ h (no a _ h (fun _ z => nomatch z) (fun _ z => nomatch z) fun _ _ _ z => nomatch z), fun a o u h => k a _ h (no a _ h (fun _ z => nomatch z) (fun _ z => nomatch z) fun _ _ _ z => nomatch z)⟩
theorem Tst.new {H : Hp} {p : Addr} {o : HO} (h : H p = none) : Tst H (upd H p o) := (Keep.new (M := []) h).ts fun _ z => nomatch z
theorem Tst.sqT {K : PySem.W.Frag} {H H1 : Hp} {a : Addr} {xs : List V} (k : Tst H H1) (h : SqT K H a xs) : SqT K H1 a xs := by
  rcases h with (h | ⟨o, h⟩) | h
  · exact .inl (.inl (k.1 a xs h))
  · exact .inl (.inr ⟨o, k.2 a o _ h⟩)
  · exact .inr h

/-! ### data: texts, numbers, truths and tuples -/
mutual
inductive Rp (K : PySem.W.Frag) (H : Hp) : V → PyData → Prop
  | non : Rp K H .non .none
  | bl (b : Bool) : Rp K H (.bl b) (.bool b)
  | int (i : Int) : Rp K H (.int i) (.int i)
  | str (x : Str) : Rp K H (.str x) (.str x)
  | tup {a : Addr} {xs : List V} {ds : List PyData} : SqT K H a xs → Rps K H xs ds → Rp K H (.ref a) (.tuple ds)
inductive Rps (K : PySem.W.Frag) (H : Hp) : List V → List PyData → Prop
  | nil : Rps K H [] []
  | cons {v : V} {vs : List V} {d : PyData} {ds : List PyData} : Rp K H v d → Rps K H vs ds → Rps K H (v :: vs) (d :: ds)
end
section
variable {K : PySem.W.Frag} {H H1 : Hp}
mutual
theorem Rp.ts (k : Tst H H1) : ∀ {d : PyData} {v : V}, Rp K H v d → Rp K H1 v d
  | .none, _, h => by cases h; exact .non
  | .bool b, _, h => by cases h; exact .bl b
  | .int i, _, h => by cases h; exact .int i
  | .str x, _, h => by cases h; exact .str x
  | .tuple ds, _, h => by
    cases h with
    | tup hs ha => exact .tup (k.sqT hs) (Rps.ts k ha)
  | .list _, _, h => by cases h
  | .dict _, _, h => by cases h
theorem Rps.ts (k : Tst H H1) : ∀ {ds : List PyData} {vs : List V}, Rps K H vs ds → Rps K H1 vs ds
  | [], _, h => by cases h; exact .nil
  | d :: ds, _, h => by
    cases h with
    | cons h1 h2 => exact .cons (Rp.ts k h1) (Rps.ts k h2)
end
theorem Rps.length : ∀ {ds : List PyData} {vs : List V}, Rps K H vs ds → vs.length = ds.length
  | [], _, h => by cases h; rfl
  | d :: ds, _, h => by
    cases h with
    | cons h1 h2 => rw [List.length_cons, List.length_cons, Rps.length h2]
theorem Rps.get : ∀ {ds : List PyData} {vs : List V} {i : Nat} {d : PyData}, Rps K H vs ds → ds[i]? = some d → ∃ v, vs[i]? = some v ∧ Rp K H v d
  | [], _, _, _, _, e => by simp at e
  | d :: ds, _, 0, _, h, e => by
    cases h with
    | cons h1 h2 =>
      simp at e
      subst e
      exact ⟨_, rfl, h1⟩
  | d :: ds, _, i + 1, d', h, e => by
    cases h with
    | cons h1 h2 =>
      obtain ⟨v, q1, q2⟩ := Rps.get (i := i) h2 (by simpa using e)
      exact ⟨v, by simpa using q1, q2⟩
theorem Rps.get' : ∀ {ds : List PyData} {vs : List V} {i : Nat} {v : V}, Rps K H vs ds → vs[i]? = some v → ∃ d, ds[i]? = some d ∧ Rp K H v d
  | [], _, _, _, h, e => by cases h; simp at e
  | d :: ds, _, 0, _, h, e => by
    cases h with
    | cons h1 h2 =>
      simp at e
      subst e
      exact ⟨_, rfl, h1⟩
  | d :: ds, _, i + 1, d', h, e => by
    cases h with
    | cons h1 h2 =>
      obtain ⟨v, q1, q2⟩ := Rps.get' (i := i) h2 (by simpa using e)
      exact ⟨v, by simpa using q1, q2⟩
theorem Rps.append : ∀ {ds ds' : List PyData} {vs vs' : List V}, Rps K H vs ds → Rps K H vs' ds' → Rps K H (vs ++ vs') (ds ++ ds')
  | [], _, _, _, h, h' => by cases h; exact h'
  | d :: ds, _, _, _, h, h' => by
    cases h with
    | cons h1 h2 => exact .cons h1 (Rps.append h2 h')
theorem Rps.take : ∀ {ds : List PyData} {vs : List V} (n : Nat), Rps K H vs ds → Rps K H (vs.take n) (ds.take n)
  | _, _, 0, _ => by rw [List.take_zero, List.take_zero]; exact .nil
  | [], _, n + 1, h => by cases h; exact .nil
  | d :: ds, _, n + 1, h => by
    cases h with
    | cons h1 h2 => exact .cons h1 (Rps.take n h2)
theorem Rp.tup_inv {v : V} {ds : List PyData} (h : Rp K H v (.tuple ds)) : ∃ a xs, v = .ref a ∧ SqT K H a xs ∧ Rps K H xs ds := by
  cases h with
  | tup hs ha => exact ⟨_, _, rfl, hs, ha⟩
theorem Rp.int_inv {v : V} {i : Int} (h : Rp K H v (.int i)) : v = .int i := by cases h; rfl
theorem Rp.str_inv {v : V} {x : Str} (h : Rp K H v (.str x)) : v = .str x := by cases h; rfl
theorem Rps.inv0 {vs : List V} (h : Rps K H vs []) : vs = [] := by cases h; rfl
theorem Rps.inv {vs : List V} {d : PyData} {ds : List PyData} (h : Rps K H vs (d :: ds)) : ∃ v r, vs = v :: r ∧ Rp K H v d ∧ Rps K H r ds := by
  cases h with
  | cons h1 h2 => exact ⟨_, _, rfl, h1, h2⟩
end
/-- behind a store, behind a new object: the heap as a letter -/
theorem st_put {H : Hp} {p : Addr} {o : HO} {Q : Hp → Prop} (h : ∀ H1, H1 p = some o → Keep [p] H H1 → Q H1) : Q (upd H p o) := h _ upd_same (Keep.put (List.mem_singleton.mpr rfl))
theorem st_new {H : Hp} {o : HO} {Q : V → Hp → Prop} (h : ∀ p H1, H p = none → H1 p = some o → Keep [] H H1 → Q (.ref p) H1) : ∀ p, H p = none → Q (.ref p) (upd H p o) := fun p hp => h p _ hp upd_same (Keep.new hp)
theorem ite_t {c : Bool} {A B : Prop} (h : c = true) (a : A) : if c = true then A else B := by rw [if_pos h]; exact a
theorem ite_f {c : Bool} {A B : Prop} (h : c = false) (b : B) : if c = true then A else B := by rw [if_neg (by rw [h]; decide)]; exact b
theorem small {n : Nat} (h : n ≤ 100000) : n ≤ sizeLine := Nat.le_trans h (by decide)
theorem smallT {n : Nat} (h : n ≤ 100000) : n < sizeLine := Nat.lt_of_le_of_lt h (by decide)
end Hw
/-! Readings, one lemma a former: what is left, from the left. -/
namespace Hw
open PySem PySem.Spec PyProof.Rows L2

theorem cx_K {CX : CXT} {P : Program} {w : World} {K : PySem.W.Frag} {mg : Str → Option Value} {base : Heap} {N : List Str} {q : Str} {sc : Scope} {f : Addr} {cd : Value} {A : Around} {outer : List Env} {s : Shared} {H : Hp} {E : XK} :
    (cxOf CX P w K mg base N q sc f cd A outer s H E).nox.K = K := rfl

theorem cx_K1 {CX : CXT} {P : Program} {w : World} {K : PySem.W.Frag} {mg : Str → Option Value} {base : Heap} {N : List Str} {q : Str} {sc : Scope} {f : Addr} {cd : Value} {A : Around} {outer : List Env} {s : Shared} {H : Hp} {E : XK} :
    (cxOf CX P w K mg base N q sc f cd A outer s H E).K = K := rfl
def nums (l : List Nat) : List V := l.map fun (n : Nat) => V.int (n : Int)
theorem nums_flat {l : List Nat} : (nums l).all flatV = true := by
  unfold nums
  rw [List.all_eq_true]
  intro x hx
  obtain ⟨n, _, rfl⟩ := List.mem_map.mp hx
  rfl
theorem nums_get {l : List Nat} {i n : Nat} (h : l[i]? = some n) : atI (nums l) (i : Int) = some (.int (n : Int)) := atI_nat (by unfold nums; rw [List.getElem?_map, h]; rfl)
theorem nums_len {l : List Nat} : (nums l).length = l.length := List.length_map _
theorem nums_app {a b : List Nat} : nums (a ++ b) = nums a ++ nums b := List.map_append
theorem inV_nums {q : Nat} {l : List Nat} : inV (.int (q : Int)) (nums l) = decide (q ∈ l) := by
  unfold inV nums
  rw [List.any_map, Bool.eq_iff_iff, List.any_eq_true, decide_eq_true_eq]
  constructor
  · rintro ⟨x, hx, e⟩
    have e' : eqV (.int (x : Int)) (.int (q : Int)) = true := e
    have : (x : Int) = (q : Int) := by
      unfold eqV at e'
      simpa using e'
    have : x = q := by omega
    exact this ▸ hx
  · intro h
    refine ⟨q, h, ?_⟩
    show eqV (.int (q : Int)) (.int (q : Int)) = true
    unfold eqV
    simp
/-! ### rules with names -/
def rLen (K : PySem.W.Frag) : List V → Hp → VK → Prop := fun xs H Q => ∃ p ys, xs = [V.ref p] ∧ (SqL K H p ys ∨ SqT K H p ys) ∧ Q (V.int ↑ys.length) H
theorem c_len {X : Cx} : CallR X (.builtin "len") (rLen X.K) := call_len_seq
def rInt1 : List V → Hp → VK → Prop := fun xs H Q => (∃ i, xs = [.int i] ∧ Q (.int i) H) ∨ ∃ k, xs = [.bl k] ∧ Q (.int (if k then 1 else 0)) H
theorem c_int {X : Cx} : CallR X (.type "int") rInt1 := call_int1
def rTupOf (K : PySem.W.Frag) : List V → Hp → VK → Prop := fun xs H Q => ∃ p ys, xs = [.ref p] ∧ ((SqL K H p ys ∧ ∀ l, H l = none → Q (.ref l) (upd H l (.tup ys))) ∨ (SqT K H p ys ∧ Q (.ref p) H))
theorem c_tuple {X : Cx} : CallR X (.type "tuple") (rTupOf X.K) := call_tuple_of
def rLstOf (K : PySem.W.Frag) : List V → Hp → VK → Prop := fun xs H Q => ∃ p ys, xs = [V.ref p] ∧ (SqL K H p ys ∨ SqT K H p ys) ∧ ∀ (l : Addr), H l = none → Q (V.ref l) (upd H l (HO.lst ys))
theorem c_list {X : Cx} : CallR X (.type "list") (rLstOf X.K) := call_list_of

/-- an item of a list or of a tuple -/
def rIxA (K : PySem.W.Frag) : R2 := fun x y H Q => ∃ p xs i v, x = .ref p ∧ y = .int i ∧ (SqL K H p xs ∨ SqT K H p xs) ∧ atI xs i = some v ∧ Q v H
theorem ixA0 {X : Cx} : IxR X (rIxA X.K) := by
  intro value slice pins s σ H x y v u Q I rx ry h hs
  obtain ⟨p, xs, i, z, rfl, rfl, hq | hq, he, q⟩ := h
  · exact ix_list value slice pins s σ H _ _ v u Q I rx ry ⟨p, xs, i, z, rfl, rfl, hq, he, q⟩ hs
  · exact ix_tup value slice pins s σ H _ _ v u Q I rx ry ⟨p, xs, i, z, rfl, rfl, hq, he, q⟩ hs
def kb (t n : String) : Bool := (kitB t n).getD false
/-! the rules, the written part by its letter -/
section
variable {X : Cx} {K : PySem.W.Frag}
theorem ixL (h : X.K = K := by rfl) : IxR X (rIxL K) := h ▸ ix_list
theorem ixA (h : X.K = K := by rfl) : IxR X (rIxA K) := h ▸ ixA0
theorem ixT (h : X.K = K := by rfl) : IxR X (rIxT K) := h ▸ ix_tup
theorem cLen (h : X.K = K := by rfl) : CallR X (.builtin "len") (rLen K) := h ▸ c_len
theorem cTuple (h : X.K = K := by rfl) : CallR X (.type "tuple") (rTupOf K) := h ▸ c_tuple
theorem cList (h : X.K = K := by rfl) : CallR X (.type "list") (rLstOf K) := h ▸ c_list
theorem slL (h : X.K = K := by rfl) : SlR X (rSlL K) := h ▸ sl_list
theorem slA (h : X.K = K := by rfl) : SlR X (rSlA K) := h ▸ sl_tupA
theorem opCatA (h : X.K = K := by rfl) : OpR X (binaryOp .Add) (rCatA K) := h ▸ op_catA
theorem opIn (h : X.K = K := by rfl) : OpR X (compareOp .In) (rIn K false) := h ▸ op_in_seq
theorem opNotIn (h : X.K = K := by rfl) : OpR X (compareOp .NotIn) (rIn K true) := h ▸ op_notIn_seq
theorem opEqD (hu : X.A.units + 64 < cLine) (h : X.K = K := by rfl) : OpR X (compareOp .Eq) (rEqD K) := h ▸ op_eqD hu
theorem opNeD (hu : X.A.units + 64 < cLine) (h : X.K = K := by rfl) : OpR X (compareOp .NotEq) (rNeD K) := h ▸ op_neD hu
theorem cIsi (h : X.K = K := by rfl) : CallR X (.builtin "isinstance") (rIsi K) := h ▸ call_isi
theorem cIsiT (h : X.K = K := by rfl) : CallR X (.builtin "isinstance") (rIsiT K) := h ▸ call_isiT
theorem peFld {e : Expr} {f : Str} {pos : Pos} {ta : TE} (he : PE X e ta) (hb : attributeBase e f X.env (eval e X.env) = eval e X.env) (h : X.K = K := by rfl) : PE X (.Attribute e f pos) (tFld K ta f) := h ▸ pe_fld he hb
theorem psFld {o value : Expr} {f : Str} {pos pos' : Pos} {ta tv : TE} (ho : PE X o ta) (hv : PE X value tv) (hs : swapsWith value (some (.Attribute o f pos')) pos.line X.env = pure false) (h : X.K = K := by rfl) : PS X (.Assign [.Attribute o f pos'] value pos) (sFld K ta tv f) := h ▸ ps_fld ho hv hs
theorem peApp {o e : Expr} {to te : TE} {apos cpos : Pos} (ho : PE X o to) (he : PE X e te) (h : X.K = K := by rfl)
    (h1 : attributeBase o "append" X.env (eval o X.env) = eval o X.env := by rfl)
    (h2 : ((((backTo cpos (starEach (e :: []) X.env)).all fun x => !x.fst) && (backToKw cpos (keywordEach [] X.env)).all fun x => x.fst.isSome) && decide (((e :: []).length + ([] : List Keyword).length + if ([] : List Keyword).isEmpty = true then 0 else 1) < 30)) = true := by rfl)
    (h3 : (apos.endLine == cpos.line) = true := by rfl) (h4 : starEach (e :: []) X.env = (false, eval e X.env) :: starEach [] X.env := by rfl) (h5 : ((backTo cpos (starEach [] X.env)).any fun x => x.fst) = false := by rfl) :
    PE X (.Call (.Attribute o "append" apos) [e] [] cpos) (tBM K "list" rAppend to (tCons te tNil)) := h ▸ pe_bm PySem.F.plainAttrs_list PySem.F.slot_list_append PySem.F.type_list_append mt_append ho (pa_cons he pa_nil h4) h1 h2 h3 h4 h5
theorem piList {tg l : Expr} {tl : TE} (h1 : PE X l tl) (h : X.K = K := by rfl) : PI X tg l (iList K tl) := h ▸ pi_list h1
theorem piTup {tg l : Expr} {tl : TE} (h1 : PE X l tl) (h : X.K = K := by rfl) : PI X tg l (iTup K tl) := h ▸ pi_tup h1
theorem piZip {e e2 : Expr} {ta : TA} {p pos tpos : Pos} {elts : List Expr} {kk : Nat} (hg : Gl X "zip") (hm : X.mg "zip" = none) (ha : PA X [e, e2] ta) (h : X.K = K := by rfl)
    (hs : starEach [e, e2] X.env = (false, eval e X.env) :: starEach [e2] X.env := by rfl) (hpl : ((backTo pos (starEach [e2] X.env)).any fun x => x.fst) = false := by rfl) : PI X (.Tuple elts kk tpos) (.Call (.Name "zip" p) [e, e2] [] pos) (RZ.iZipA K ta) := h ▸ RZ.pi_zipA hg hm ha hs hpl
theorem pgTup {es : List Expr} {k : Nat} {t : TGs} {n : Nat} {pos : Pos} (hc : X.calm = true) (h1 : PGs X es t) (h : X.K = K := by rfl)
    (hn : (assignEach es X.env).length = n := by rfl) (hst : (assignEach es X.env).findIdx? (·.1) = none := by rfl) : PG X (.Tuple es k pos) (gTup K n t) := h ▸ pg_tup hc h1 hn hst
end
theorem dRN {a : Addr} : decide (V.ref a = V.non) = false := rfl
theorem dIN {i : Int} : decide (V.int i = V.non) = false := rfl
theorem dNN : decide (V.non = V.non) = true := rfl
theorem nRN {a : Addr} : (!decide (V.ref a = V.non)) = true := rfl
theorem nIN {i : Int} : (!decide (V.int i = V.non)) = true := rfl
theorem nNN : (!decide (V.non = V.non)) = false := rfl
/-- what is asked of a call; of a new object; of a loop -/
def Ask (sp : Sp) (vs : List V) (H : Hp) (Q : VK) (E : XK) : Prop := sp (vs ++ []) H Q E
def IsBl (x : V) (R : Bool → Prop) : Prop := ∃ k, x = .bl k ∧ R k
def IsInt (x : V) (R : Int → Prop) : Prop := ∃ i, x = .int i ∧ R i
def IsTwo (vs : List V) (R : V → V → Prop) : Prop := ∃ v w, vs = [v, w] ∧ R v w
def IsL (K : PySem.W.Frag) (x : V) (H : Hp) (R : Prop) : Prop := tyV K "list" x H ∧ R
def GetD (x y : V) (H : Hp) (R : V → Prop) : Prop := ∃ a v, x = V.ref a ∧ DGet H a y (some v) ∧ R v
def PutD (x y v : V) (H : Hp) (R : Hp → Prop) : Prop := ∃ a H4, x = V.ref a ∧ DPut H a y v H4 ∧ R H4
def GetF (K : PySem.W.Frag) (f : Str) (x : V) (H : Hp) (R : V → Prop) : Prop := ∃ a C dx fs v, x = V.ref a ∧ H a = some (HO.ins C dx fs) ∧ Cls K C ∧ NoAttr K C f ∧ List.lookup f fs = some v ∧ R v
def SetF (K : PySem.W.Frag) (f : Str) (x y : V) (H : Hp) (R : Hp → Prop) : Prop := ∃ a C dx fs, x = V.ref a ∧ H a = some (HO.ins C dx fs) ∧ Cls K C ∧ NoAttr K C f ∧ fs.length < 1000 ∧ R (upd H a (HO.ins C dx (putF f y fs)))
def New (o : HO) (n : Nat) (H : Hp) (Q : VK) : Prop := n ≤ sizeLine ∧ ∀ p, H p = none → Q (.ref p) (upd H p o)

section
variable {K : PySem.W.Frag} {σ : L2.St} {H : Hp} {Q : VK} {QT : Bool → Hp → Prop} {ta tb tc te : TE} {t u : TT} {x y z v : V} {D : Ends} {ts tu : TS}
theorem r_var {i : Nat} (h : σ[i]? = some (some v)) (q : Q v H) : tVar i σ H Q := ⟨v, h, q⟩
theorem r_c (q : Q v H) : tC v σ H Q := q
theorem r_op {r : R2} (h : ta σ H fun x H1 => tb σ H1 fun y H2 => r x y H2 Q) : tOp r ta tb σ H Q := h
theorem r_I0 {g : Int → Int → V} {i j : Int} (q : Q (g i j) H) : rI0 g (.int i) (.int j) H Q := ⟨i, j, rfl, rfl, q⟩
theorem r_I {C : Int → Int → Prop} {g : Int → Int → V} {i j : Int} (c : C i j) (q : Q (g i j) H) : rI C g (.int i) (.int j) H Q := ⟨i, j, rfl, rfl, c, q⟩
theorem r_eq (h : scal x y = true) (q : Q (.bl (decide (x = y))) H) : rEq x y H Q := ⟨h, q⟩
theorem r_ne (h : scal x y = true) (q : Q (.bl (!decide (x = y))) H) : rNe x y H Q := ⟨h, q⟩
theorem r_isN (q : Q (.bl (decide (x = .non))) H) : rIsN x .non H Q := ⟨rfl, q⟩
theorem r_notN (q : Q (.bl (!decide (x = .non))) H) : rNotN x .non H Q := ⟨rfl, q⟩
theorem r_ixL {p : Addr} {xs : List V} {i : Int} (h : SqL K H p xs) (e : atI xs i = some v) (q : Q v H) : rIxL K (.ref p) (.int i) H Q := ⟨p, xs, i, v, rfl, rfl, h, e, q⟩
theorem r_ixT {p : Addr} {xs : List V} {i : Int} (h : SqT K H p xs) (e : atI xs i = some v) (q : Q v H) : rIxT K (.ref p) (.int i) H Q := ⟨p, xs, i, v, rfl, rfl, h, e, q⟩
theorem r_ixA {p : Addr} {xs : List V} {i : Int} (h : SqL K H p xs ∨ SqT K H p xs) (e : atI xs i = some v) (q : Q v H) : rIxA K (.ref p) (.int i) H Q := ⟨p, xs, i, v, rfl, rfl, h, e, q⟩
theorem r_in {p : Addr} {xs : List V} {n : Bool} (h : SqL K H p xs ∨ SqT K H p xs) (f : flatV x = true) (g : xs.all flatV = true) (q : Q (V.bl (if n = true then !inV x xs else inV x xs)) H) : rIn K n x (.ref p) H Q := ⟨p, xs, rfl, h, f, g, q⟩
theorem r_test (h : te σ H fun x H' => IsBl x fun k => QT k H') : tTest te σ H QT := h
theorem r_B (h : te σ H fun x H' => IsBl x fun k => QT k H') : tB te σ H QT := h
theorem r_bl {k : Bool} {R : Bool → Prop} (q : R k) : IsBl (.bl k) R := ⟨k, rfl, q⟩
theorem r_not (h : t σ H fun c H1 => QT (!c) H1) : tNot t σ H QT := h
theorem r_and (h : t σ H fun c H1 => if c = true then u σ H1 QT else QT false H1) : tAnd t u σ H QT := h
theorem r_or (h : t σ H fun c H1 => if c = true then QT true H1 else u σ H1 QT) : tOr t u σ H QT := h
theorem r_notV (h : ta σ H fun x H1 => IsBl x fun c => Q (V.bl !c) H1) : tNotV ta σ H Q := h
theorem r_andV (h : ta σ H fun x H1 => IsBl x fun c => if c = true then tb σ H1 Q else Q (V.bl false) H1) : tAndV ta tb σ H Q := h
theorem r_orV (h : ta σ H fun x H1 => IsBl x fun c => if c = true then Q (V.bl true) H1 else tb σ H1 Q) : tOrV ta tb σ H Q := h
theorem r_ifE (h : t σ H fun c H1 => if c = true then ta σ H1 Q else tb σ H1 Q) : tIf t ta tb σ H Q := h
theorem r_chain {r r' : R2} (h : ta σ H fun x H1 => tb σ H1 fun y H2 => r x y H2 fun z H3 => IsBl z fun k => if k = true then tc σ H3 fun w' H4 => r' y w' H4 Q else Q (V.bl false) H3) : tChain r r' ta tb tc σ H Q := h
/-- both tests only look -/
theorem r_andP {a b : Bool} (h1 : ∀ R : Bool → Hp → Prop, R a H → t σ H R) (h2 : a = true → ∀ R : Bool → Hp → Prop, R b H → u σ H R) (q : QT (a && b) H) : tAnd t u σ H QT := by
  refine h1 _ ?_
  cases a with
  | true =>
    refine h2 rfl _ ?_
    exact q
  | false => exact q
theorem r_orP {a b : Bool} (h1 : ∀ R : Bool → Hp → Prop, R a H → t σ H R) (h2 : a = false → ∀ R : Bool → Hp → Prop, R b H → u σ H R) (q : QT (a || b) H) : tOr t u σ H QT := by
  refine h1 _ ?_
  cases a with
  | true => exact q
  | false =>
    refine h2 rfl _ ?_
    exact q
/-- an impure second test -/
theorem r_andI {a : Bool} (h1 : ∀ R : Bool → Hp → Prop, R a H → t σ H R) (h2 : a = true → u σ H QT) (h3 : a = false → QT false H) : tAnd t u σ H QT := by
  refine h1 _ ?_
  cases a with
  | true => exact h2 rfl
  | false => exact h3 rfl
theorem r_orI {a : Bool} (h1 : ∀ R : Bool → Hp → Prop, R a H → t σ H R) (h2 : a = false → u σ H QT) (h3 : a = true → QT true H) : tOr t u σ H QT := by
  refine h1 _ ?_
  cases a with
  | true => exact h3 rfl
  | false => exact h2 rfl
theorem cut {t u : TS} (Mid : L2.St → Hp → Prop) (h : t { D with nx := Mid } σ H) (k : ∀ σ' H', Mid σ' H' → u D σ' H') : Evl.tCut t u D σ H := ⟨Mid, h, k⟩
/-! arguments, calls -/
theorem r_nil {QA : List V → Hp → Prop} (q : QA [] H) : tNil σ H QA := q
theorem r_cons {QA : List V → Hp → Prop} {tr : TA} (h : ta σ H fun x H1 => tr σ H1 fun xs H2 => QA (x :: xs) H2) : tCons ta tr σ H QA := h
theorem r_call {sp : Sp} {E : XK} {t : TA} (h : t σ H fun vs H1 => Ask sp vs H1 Q E) : tCall sp [] E t σ H Q := h
theorem ask {sp : Sp} {vs : List V} {E : XK} (h : sp vs H Q E) : Ask sp vs H Q E := by
  unfold Ask
  rw [List.append_nil]
  exact h
theorem r_cb {r : List V → Hp → VK → Prop} {t : TA} (h : t σ H fun vs H1 => r vs H1 Q) : tCB r t σ H Q := h
theorem r_lenL {p : Addr} {ys : List V} (h : SqL K H p ys) (q : Q (.int ys.length) H) : rLen K [.ref p] H Q := ⟨p, ys, rfl, .inl h, q⟩
theorem r_lenT {p : Addr} {ys : List V} (h : SqT K H p ys) (q : Q (.int ys.length) H) : rLen K [.ref p] H Q := ⟨p, ys, rfl, .inr h, q⟩
theorem r_int {i : Int} (q : Q (.int i) H) : rInt1 [.int i] H Q := .inl ⟨i, rfl, q⟩
theorem r_intB {k : Bool} (q : Q (.int (if k then 1 else 0)) H) : rInt1 [.bl k] H Q := .inr ⟨k, rfl, q⟩
theorem r_tupL {p : Addr} {ys : List V} (h : SqL K H p ys) (q : New (.tup ys) 0 H Q) : rTupOf K [.ref p] H Q := ⟨p, ys, rfl, .inl ⟨h, q.2⟩⟩
theorem r_tupT {p : Addr} {ys : List V} (h : SqT K H p ys) (q : Q (.ref p) H) : rTupOf K [.ref p] H Q := ⟨p, ys, rfl, .inr ⟨h, q⟩⟩
theorem r_lstL {p : Addr} {ys : List V} (h : SqL K H p ys) (q : New (.lst ys) 0 H Q) : rLstOf K [.ref p] H Q := ⟨p, ys, rfl, .inl h, q.2⟩
theorem r_lstT {p : Addr} {ys : List V} (h : SqT K H p ys) (q : New (.lst ys) 0 H Q) : rLstOf K [.ref p] H Q := ⟨p, ys, rfl, .inr h, q.2⟩
/-! new objects -/
theorem r_tup {t : TA} (h : t σ H fun xs H1 => New (.tup xs) xs.length H1 Q) : tTup t σ H Q := h
theorem r_lst {t : TA} (h : t σ H fun xs H1 => New (.lst xs) xs.length H1 Q) : tLst t σ H Q := h
theorem new {o : HO} {n : Nat} (z : n ≤ sizeLine) (q : ∀ p H1, H p = none → H1 p = some o → Keep [] H H1 → Q (.ref p) H1) : New o n H Q := ⟨z, fun p hp => q p _ hp upd_same (Keep.new hp)⟩
/-! isinstance of a built-in class -/
theorem r_isi {t n : String} (ty : TyX K H x (.type t)) (e : (kitB t n).isSome = true) (q : Q (.bl (kb t n)) H) : rIsi K [x, .ty n] H Q := ⟨x, .ty n, .type t, .type n, kb t n, rfl, .ty n, ty, kit_ty (by unfold kb; rw [Option.isSome_iff_exists] at e; obtain ⟨b, e⟩ := e; rw [e]; rfl), q⟩
theorem r_isiT2 {t n1 n2 : String} {tp : Addr} (hT : H tp = some (.tup [.ty n1, .ty n2])) (ty : TyX K H x (.type t)) (e1 : (kitB t n1).isSome = true) (e2 : (kitB t n2).isSome = true) (q : Q (.bl (kb t n1 || kb t n2)) H) : rIsiT K [x, .ref tp] H Q := by
  have f1 : kitB t n1 = some (kb t n1) := by unfold kb; rw [Option.isSome_iff_exists] at e1; obtain ⟨b, e⟩ := e1; rw [e]; rfl
  have f2 : kitB t n2 = some (kb t n2) := by unfold kb; rw [Option.isSome_iff_exists] at e2; obtain ⟨b, e⟩ := e2; rw [e]; rfl
  exact ⟨x, tp, _, .type t, [.type n1, .type n2], kb t n1 || kb t n2, rfl, hT, .cons (.ty n1) (.cons (.ty n2) .nil), ty, kitAny_cons (kit_ty f1) (fun h => by rw [h, Bool.false_or]; exact kitAny_cons (kit_ty f2) (fun h2 => by rw [h2]; exact kitAny_nil) fun h2 => h2) (fun h => by rw [h, Bool.true_or]), q⟩
theorem tyT {a : Addr} {xs : List V} (h : SqT K H a xs) : TyX K H (.ref a) (.type "tuple") := by
  rcases h with (h | ⟨o, h⟩) | ⟨o, its, n, h, c, _⟩
  · exact .base (.tup h)
  · exact .fTuple h
  · exact .kTuple h c
theorem tyL {a : Addr} {xs : List V} (h : SqL K H a xs) : TyX K H (.ref a) (.type "list") := by
  rcases h with (h | ⟨o, h⟩) | ⟨o, its, n, h, c, _⟩
  · exact .base (.lst h)
  · exact .base (.frz h)
  · exact .kList h c
/-! slices, sums of sequences -/
theorem r_sl {r : V → Option Int → Option Int → Hp → VK → Prop} {tl th : TO} (h : te σ H fun x H1 => tl σ H1 fun l H2 => th σ H2 fun u H3 => r x l u H3 Q) : tSl r te tl th σ H Q := h
theorem r_part {QO : Option Int → Hp → Prop} (h : te σ H fun x H1 => IsInt x fun i => QO (some i) H1) : tPart te σ H QO := h
theorem r_part1 {R : Int → Prop} {i : Int} (q : R i) : IsInt (.int i) R := ⟨i, rfl, q⟩
theorem r_noPart {QO : Option Int → Hp → Prop} (q : QO none H) : tNoPart σ H QO := q
theorem r_slL {a : Addr} {xs : List V} {lo hi : Option Int} (h : SqL K H a xs) (q : New (.lst (cutV xs lo hi)) 0 H Q) : rSlL K (.ref a) lo hi H Q := ⟨a, xs, rfl, h, q.2⟩
/-- a slice of a tuple: some tuple of these -/
theorem r_slA {a : Addr} {xs : List V} {lo hi : Option Int} (h : SqT K H a xs) (q : ∀ p H1, SqT K H1 p (cutV xs lo hi) → Keep [] H H1 → (∀ b, H1 b = none → H b = none) → Q (.ref p) H1) : rSlA K (.ref a) lo hi H Q := by
  refine ⟨a, xs, rfl, h, fun e => ?_, fun _ p hp => q p _ (SqT.of upd_same) (Keep.new hp) fun b hb => (Keep.new (M := []) hp).free (fun _ z => nomatch z) hb⟩
  refine q a H ?_ Keep.refl fun _ h => h
  have : cutV xs lo hi = xs := by
    unfold cutV
    rw [e.1, e.2]
    simp
  rw [this]
  exact h
theorem cutV_to {xs : List V} {k : Int} (h : 0 ≤ k) : cutV xs none (some k) = xs.take k.toNat := by
  unfold cutV HT.sIx
  simp only [if_neg (show ¬ k < 0 by omega), List.drop_zero, Nat.sub_zero]
  rw [← List.take_take, List.take_length]
theorem atI_ints {ns : List Int} {v : Int} (h0 : 0 ≤ v) (h1 : v < ns.length) : ∃ z, atI (ns.map V.int) v = some (.int z) ∧ z ∈ ns := by
  obtain ⟨m, rfl⟩ : ∃ m : Nat, v = m := ⟨v.toNat, by omega⟩
  have hm : m < ns.length := by omega
  refine ⟨ns[m], atI_nat ?_, List.getElem_mem hm⟩
  rw [List.getElem?_map, List.getElem?_eq_getElem hm]
  rfl
theorem r_catA {a b : Addr} {xs ys : List V} (h : SqT K H a xs) (g : SqT K H b ys) (z : xs.length + ys.length ≤ sizeLine) (q : ∀ p H1, SqT K H1 p (xs ++ ys) → Keep [] H H1 → (∀ b, H1 b = none → H b = none) → Q (.ref p) H1) : rCatA K (.ref a) (.ref b) H Q := by
  refine ⟨a, b, xs, ys, rfl, rfl, h, g, z, fun e => ?_, fun _ e => ?_, fun _ _ p hp => q p _ (SqT.of upd_same) (Keep.new hp) fun b hb => (Keep.new (M := []) hp).free (fun _ z => nomatch z) hb⟩
  · refine q b H ?_ Keep.refl fun _ h => h
    rw [e]
    exact g
  · refine q a H ?_ Keep.refl fun _ h => h
    rw [e, List.append_nil]
    exact h
theorem r_cat {a b : Addr} {xs ys : List V} (h : H a = some (.lst xs)) (g : H b = some (.lst ys)) (z : xs.length + ys.length ≤ sizeLine) (q : New (.lst (xs ++ ys)) 0 H Q) : rCat (.ref a) (.ref b) H Q := ⟨a, b, xs, ys, rfl, rfl, h, g, z, q.2⟩
/-! statements -/
theorem r_seq (h : ts { D with nx := tu D } σ H) : tSeq ts tu D σ H := h
theorem r_next (h : D.nx σ H) : tNext D σ H := h
theorem r_asg {g : TG} (h : te σ H fun x H1 => g x σ H1 D.nx) : tAsg te g D σ H := h
theorem r_name {i : Nat} {QS : L2.St → Hp → Prop} (h : QS (σ.set i (some v)) H) : gName i v σ H QS := h
theorem r_drop (h : te σ H fun _ H1 => D.nx σ H1) : tDrop te D σ H := h
theorem r_ret (h : te σ H D.rt) : tRet te D σ H := h
theorem r_retN (h : D.rt .non H) : tRetN D σ H := h
theorem r_if (h : t σ H fun b H1 => if b = true then ts D σ H1 else tu D σ H1) : tIfS t ts tu D σ H := h
theorem r_par {i j : Nat} {ta : TA} (h : ta σ H fun vs H1 => IsTwo vs fun v w => D.nx ((List.set σ i (some v)).set j (some w)) H1) : tPar i j ta D σ H := h
theorem r_par2 {v w : V} {R : V → V → Prop} (q : R v w) : IsTwo [v, w] R := ⟨v, w, rfl, q⟩
theorem r_sub {to ti : TE} {t : TSet} {QS : L2.St → Hp → Prop} (h : to σ H fun o H1 => ti σ H1 fun i H2 => t o i v H2 fun H3 => QS σ H3) : gSub to ti t v σ H QS := h
theorem r_setL {p : Addr} {xs : List V} {k : Int} {j : Nat} {QH : Hp → Prop} (h : H p = some (.lst xs)) (e : ixN xs.length k = some j) (q : ∀ H1, H1 p = some (.lst (xs.set j v)) → Keep [p] H H1 → QH H1) : rSetL (.ref p) (.int k) v H QH :=
  ⟨p, xs, k, j, rfl, rfl, h, e, q _ upd_same (Keep.put (List.mem_singleton.mpr rfl))⟩
theorem r_gtup {a : Addr} {xs : List V} {n : Nat} {t : TGs} {QS : L2.St → Hp → Prop} (h : SqT K H a xs) (e : xs.length = n) (q : t xs σ H QS) : gTup K n t (.ref a) σ H QS := ⟨a, xs, rfl, h, e, q⟩
theorem r_gnil {QS : L2.St → Hp → Prop} (q : QS σ H) : gNil [] σ H QS := ⟨rfl, q⟩
theorem r_gcons {t : TG} {u : TGs} {r : List V} {QS : L2.St → Hp → Prop} (q : t v σ H fun σ' H' => u r σ' H' QS) : gCons t u (v :: r) σ H QS := ⟨v, r, rfl, q⟩
/-! methods -/
theorem r_append {r : V → List V → Hp → VK → Prop} {t : TA} (h : ta σ H fun x H1 => IsL K x H1 (t σ H1 fun xs H2 => r x xs H2 Q)) : tBM K "list" r ta t σ H Q := h
theorem r_isL {p : Addr} {xs : List V} {R : Prop} (h : SqL K H p xs) (q : R) : IsL K (.ref p) H R := ⟨.inl ⟨rfl, xs, h⟩, q⟩
theorem r_app {l : Addr} {xs : List V} (h : H l = some (.lst xs)) (z : xs.length < sizeLine) (q : ∀ H1, H1 l = some (.lst (xs ++ [y])) → Keep [l] H H1 → Q .non H1) : rAppend (.ref l) [y] H Q :=
  ⟨l, xs, y, rfl, rfl, h, z, q _ upd_same (Keep.put (List.mem_singleton.mpr rfl))⟩
/-! dicts with written text keys -/
theorem r_dget {td ty : TE} (h : td σ H fun x H1 => ty σ H1 fun y H2 => GetD x y H2 fun v => Q v H2) : tDGet td ty σ H Q := h
theorem r_dgetS {a : Addr} {k : Str} {kvs : List (Key × V)} {R : V → Prop} (h : H a = some (.dK kvs)) (e : valV kvs (.inr k) = some v) (q : R v) : GetD (.ref a) (.str k) H R := ⟨a, v, rfl, e ▸ DGet.k (k := Sum.inr k) h, q⟩
theorem r_dput {td ty tv : TE} (h : tv σ H fun v H1 => td σ H1 fun x H2 => ty σ H2 fun y H3 => PutD x y v H3 fun H4 => D.nx σ H4) : sDPut td ty tv D σ H := h
theorem r_dputS {a : Addr} {k : Str} {kvs : List (Key × V)} {QH : Hp → Prop} (h : H a = some (.dK kvs)) (z : kvs.length < sizeLine) (q : ∀ H1, H1 a = some (.dK (putK kvs (.inr k) v)) → Keep [a] H H1 → QH H1) : PutD (.ref a) (.str k) v H QH :=
  ⟨a, _, rfl, DPut.k (k := Sum.inr k) h z, q _ upd_same (Keep.put (List.mem_singleton.mpr rfl))⟩
/-! written dicts -/
def Disp (p : Addr) (ps : List (V × V)) (H : Hp) (Q : VK) : Prop := H p = some (.dK []) ∧ ∃ kvs : List (Key × V), ps = kvs.map (fun kv => (kV kv.1, kv.2)) ∧ kvs.length ≤ 15 ∧ Q (.ref p) (upd H p (.dK (mergeK [] kvs)))
theorem r_disp {trs : List (TE × TE)} (h : ∀ p H1, H p = none → H1 p = some (.dK []) → Keep [] H H1 → tPairs trs σ H1 fun ps H2 => Disp p ps H2 Q) : tDisp trs σ H Q := fun p hp => h p _ hp upd_same (Keep.new hp)
theorem r_pnil {QP : List (V × V) → Hp → Prop} (q : QP [] H) : tPairs [] σ H QP := q
theorem r_pcons {tk tv : TE} {r : List (TE × TE)} {QP : List (V × V) → Hp → Prop} (h : tk σ H fun x H1 => tv σ H1 fun y H2 => tPairs r σ H2 fun ps H3 => QP ((x, y) :: ps) H3) : tPairs ((tk, tv) :: r) σ H QP := h
theorem put_new {acc : List (Key × V)} {k : Key} {x : V} (h : ∀ p ∈ acc, p.1 ≠ k) : putK acc k x = acc ++ [(k, x)] := by
  unfold putK
  rw [if_neg]
  intro c
  obtain ⟨p, hp, e⟩ := List.any_eq_true.mp c
  exact h p hp (of_decide_eq_true e)
theorem mergeK_app : ∀ {kvs acc : List (Key × V)}, ((acc ++ kvs).map (·.1)).Nodup → mergeK acc kvs = acc ++ kvs
  | [], acc, _ => (List.append_nil acc).symm
  | (k, x) :: r, acc, h => by
    have e : acc ++ (k, x) :: r = (acc ++ [(k, x)]) ++ r := by rw [List.append_assoc]; rfl
    have hn : ∀ p ∈ acc, p.1 ≠ k := fun p hp z => by
      rw [List.map_append] at h
      exact (List.nodup_append.mp h).2.2 p.1 (List.mem_map_of_mem hp) k (List.mem_map_of_mem (f := (·.1)) (List.mem_cons_self (a := (k, x)))) z
    show mergeK (putK acc k x) r = _
    rw [put_new hn, e]
    exact mergeK_app (by rw [← e]; exact h)
theorem disp {p : Addr} {ps : List (V × V)} (kvs : List (Key × V)) (h : H p = some (.dK [])) (e : ps = kvs.map (fun kv => (kV kv.1, kv.2))) (z : kvs.length ≤ 15) (n : (kvs.map (·.1)).Nodup) (q : ∀ H1, H1 p = some (.dK kvs) → Keep [p] H H1 → Q (.ref p) H1) : Disp p ps H Q := by
  refine ⟨h, kvs, e, z, ?_⟩
  rw [mergeK_app (acc := []) (kvs := kvs) n]
  exact q _ upd_same (Keep.put (List.mem_singleton.mpr rfl))
/-! fields -/
theorem r_fld {f : Str} (h : ta σ H fun x H1 => GetF K f x H1 fun v => Q v H1) : tFld K ta f σ H Q := h
theorem r_fld1 {f : Str} {a C dx : Addr} {fs : List (Str × V)} {R : V → Prop} (h : H a = some (.ins C dx fs)) (c : Cls K C) (n : NoAttr K C f) (e : fs.lookup f = some v) (q : R v) : GetF K f (.ref a) H R := ⟨a, C, dx, fs, v, rfl, h, c, n, e, q⟩
theorem r_sfld {f : Str} {tv : TE} (h : tv σ H fun y H1 => ta σ H1 fun x H2 => SetF K f x y H2 fun H3 => D.nx σ H3) : sFld K ta tv f D σ H := h
theorem r_sfld1 {f : Str} {a C dx : Addr} {fs : List (Str × V)} {QH : Hp → Prop} (h : H a = some (.ins C dx fs)) (c : Cls K C) (n : NoAttr K C f) (z : fs.length < 1000) (q : ∀ H1, H1 a = some (.ins C dx (putF f y fs)) → Keep [a] H H1 → QH H1) : SetF K f (.ref a) y H QH := ⟨a, C, dx, fs, rfl, h, c, n, z, q _ upd_same (Keep.put (List.mem_singleton.mpr rfl))⟩
/-! loops -/
def ForIt (J : It) (g : TG) (tb : TS) (D : Ends) (σ : L2.St) (H : Hp) : Prop := ∃ W : Nat → Nat → L2.St → Hp → Prop, (∃ m, W 0 m σ H) ∧ ∀ i m σ H, W i m σ H →
  (J.stop i H ∧ D.nx σ H) ∨ (J.go i H ∧ ∃ N : L2.St → Hp → Prop, (∀ σ' H', N σ' H' → ∃ m', m' < m ∧ W (i + 1) m' σ' H') ∧ ∀ x H', J.yld i H x H' → g x σ H' fun σ2 H2 => tb { D with nx := N, ct := N, bk := D.nx } σ2 H2)
theorem r_for {wi : TI} {g : TG} (h : wi σ H fun J H1 => ForIt J g ts D σ H1) : tFor wi g ts D σ H := h
def RngOf (vs : List V) (R : Int → Prop) : Prop := ∃ j : Int, vs = [.int j] ∧ -(2 ^ 62) ≤ j ∧ j < 2 ^ 62 ∧ R j
theorem r_iRng1 {ta : TA} {R : It → Hp → Prop} (h : ta σ H fun vs H1 => RngOf vs fun n => R (Itr 0 n.toNat) H1) : iRng1 ta σ H R := h
theorem r_rng {j : Int} {R : Int → Prop} (h1 : -(2 ^ 62) ≤ j) (h2 : j < 2 ^ 62) (q : R j) : RngOf [.int j] R := ⟨j, rfl, h1, h2, q⟩
def OverL (K : PySem.W.Frag) (x : V) (H : Hp) (R : Addr → Prop) : Prop := ∃ a, x = .ref a ∧ (∃ xs, SqL K H a xs) ∧ R a
def OverT (K : PySem.W.Frag) (x : V) (H : Hp) (R : Addr → Prop) : Prop := ∃ a, x = .ref a ∧ (∃ xs, SqT K H a xs) ∧ R a
theorem r_iList {R : It → Hp → Prop} (h : ta σ H fun x H1 => OverL K x H1 fun a => R (Itl K a) H1) : iList K ta σ H R := h
theorem r_iTup {R : It → Hp → Prop} (h : ta σ H fun x H1 => OverT K x H1 fun a => R (Itt K a) H1) : iTup K ta σ H R := h
theorem r_overL {a : Addr} {xs : List V} {R : Addr → Prop} (h : SqL K H a xs) (q : R a) : OverL K (.ref a) H R := ⟨a, rfl, ⟨xs, h⟩, q⟩
theorem r_overT {a : Addr} {xs : List V} {R : Addr → Prop} (h : SqT K H a xs) (q : R a) : OverT K (.ref a) H R := ⟨a, rfl, ⟨xs, h⟩, q⟩
theorem forR {n : Nat} {g : TG} (Pv : Nat → L2.St → Hp → Prop) (h0 : Pv 0 σ H) (hs : ∀ i σ H, i < n → Pv i σ H → g (.int (i : Int)) σ H fun σ2 H2 => ts { D with nx := Pv (i + 1), ct := Pv (i + 1), bk := D.nx } σ2 H2)
    (hd : ∀ σ H, Pv n σ H → D.nx σ H) : ForIt (Itr 0 n) g ts D σ H :=
  for_it (walk_range (lo := 0) (n := n)) Pv h0 (fun _ _ _ _ _ => trivial) (fun i x σ H H' hi p y => by
    obtain ⟨rfl, rfl⟩ := y
    show g (.int (0 + (i : Int))) σ H' _
    rw [Int.zero_add]
    exact hs i σ H' hi p) hd
theorem forL {a : Addr} {xs : List V} {g : TG} (Pv : Nat → L2.St → Hp → Prop) (h0 : Pv 0 σ H) (hG : ∀ i σ H, i ≤ xs.length → Pv i σ H → SqL K H a xs) (hs : ∀ i x σ H, xs[i]? = some x → Pv i σ H → g x σ H fun σ2 H2 => ts { D with nx := Pv (i + 1), ct := Pv (i + 1), bk := D.nx } σ2 H2)
    (hd : ∀ σ H, Pv xs.length σ H → D.nx σ H) : ForIt (Itl K a) g ts D σ H :=
  for_it walk_list Pv h0 hG (fun i x σ H H' hi p y => by
    obtain ⟨rfl, e⟩ := y
    exact hs i x σ H' e p) hd
theorem forT {a : Addr} {xs : List V} {g : TG} (Pv : Nat → L2.St → Hp → Prop) (h0 : Pv 0 σ H) (hG : ∀ i σ H, i ≤ xs.length → Pv i σ H → SqT K H a xs) (hs : ∀ i x σ H, xs[i]? = some x → Pv i σ H → g x σ H fun σ2 H2 => ts { D with nx := Pv (i + 1), ct := Pv (i + 1), bk := D.nx } σ2 H2)
    (hd : ∀ σ H, Pv xs.length σ H → D.nx σ H) : ForIt (Itt K a) g ts D σ H :=
  for_it walk_tup Pv h0 hG (fun i x σ H H' hi p y => by
    obtain ⟨rfl, e⟩ := y
    exact hs i x σ H' e p) hd
def Down (Pv : Nat → L2.St → Hp → Prop) (m : Nat) (σ : L2.St) (H : Hp) : Prop := ∃ m', m' < m ∧ Pv m' σ H
/-- a turn of a while -/
def WhT (Pv : Nat → L2.St → Hp → Prop) (m : Nat) (ts : TS) (D : Ends) (σ : L2.St) (H : Hp) : Prop := ∃ N : L2.St → Hp → Prop, (∀ σ' H', N σ' H' → ∃ m', m' < m ∧ Pv m' σ' H') ∧ ts { D with nx := N, ct := N, bk := D.nx } σ H
theorem turn {Pv : Nat → L2.St → Hp → Prop} {m : Nat} (h : ts { D with nx := Down Pv m, ct := Down Pv m, bk := D.nx } σ H) : WhT Pv m ts D σ H := ⟨Down Pv m, fun _ _ q => q, h⟩
theorem whileM (Pv : Nat → L2.St → Hp → Prop) (m : Nat) (h0 : Pv m σ H) (hs : ∀ m σ H, Pv m σ H → t σ H fun b H1 => if b = true then WhT Pv m ts D σ H1 else D.nx σ H1) : tWhile t ts D σ H := ⟨Pv, ⟨m, h0⟩, hs⟩
/-! comprehensions, without ifs -/
def LcIt (J : It) (g : TG) (tt : TT) (te : TE) (vs : List Nat) (σ : L2.St) (H1 : Hp) (Q : VK) : Prop := ∀ D, H1 D = none → ∃ W : Nat → Nat → Hp → Prop, (∃ m, W 0 m (upd H1 D (.lst []))) ∧ ∀ i m H, W i m H →
  (J.stop i H ∧ Q (.ref D) H) ∨ (J.go i H ∧ ∃ Nx : Hp → Prop, (∀ H', Nx H' → ∃ m', m' < m ∧ W (i + 1) m' H') ∧ ∀ x H', J.yld i H x H' → g x (wipe σ vs) H' fun σ2 H2 => wipe σ2 vs = wipe σ vs ∧ tt σ2 H2 fun b H3 =>
    if b = true then te σ2 H3 fun y H4 => ∃ acc, H4 D = some (.lst acc) ∧ acc.length < sizeLine ∧ Nx (upd H4 D (.lst (acc ++ [y]))) else Nx H3)
theorem r_lc {wi : TI} {g : TG} {tt : TT} {vs : List Nat} (h : wi σ H fun J H1 => LcIt J g tt te vs σ H1 Q) : tLc wi g tt te vs σ H Q := h
def Acc (D : Addr) (y : V) (H : Hp) (R : Hp → Prop) : Prop := ∃ acc, H D = some (.lst acc) ∧ acc.length < sizeLine ∧ R (upd H D (.lst (acc ++ [y])))
theorem acc {E : Addr} {xs : List V} {R : Hp → Prop} (h : H E = some (.lst xs)) (z : xs.length < sizeLine) (q : ∀ H1, H1 E = some (.lst (xs ++ [y])) → Keep [E] H H1 → R H1) : Acc E y H R := ⟨xs, h, z, q _ upd_same (Keep.put (List.mem_singleton.mpr rfl))⟩
theorem lcY {J : It} {n : Nat} {G : Hp → Prop} {Y : Nat → Hp → V → Hp → Prop} (w : Walk J n G Y) {g : TG} {vs : List Nat} (Pv : Addr → Nat → Hp → Prop) (h0 : ∀ E H1, H E = none → H1 E = some (.lst []) → Keep [] H H1 → Pv E 0 H1) (hG : ∀ E i H, i ≤ n → Pv E i H → G H)
    (hs : ∀ E i x H H', i < n → Pv E i H → Y i H x H' → g x (wipe σ vs) H' fun σ2 H2 => wipe σ2 vs = wipe σ vs ∧ te σ2 H2 fun y H4 => Acc E y H4 (Pv E (i + 1))) (hd : ∀ E H, Pv E n H → Q (.ref E) H) : LcIt J g tYes te vs σ H Q :=
  fun E hE => lc_it w (Pv E) (h0 E _ hE upd_same (Keep.new hE)) (hG E) (fun i x H1 H' hi p y => hs E i x H1 H' hi p y) (hd E)
theorem lcR {n : Nat} {g : TG} {vs : List Nat} (Pv : Addr → Nat → Hp → Prop) (h0 : ∀ E H1, H E = none → H1 E = some (.lst []) → Keep [] H H1 → Pv E 0 H1)
    (hs : ∀ E i H, i < n → Pv E i H → g (.int (i : Int)) (wipe σ vs) H fun σ2 H2 => wipe σ2 vs = wipe σ vs ∧ te σ2 H2 fun y H4 => Acc E y H4 (Pv E (i + 1))) (hd : ∀ E H, Pv E n H → Q (.ref E) H) : LcIt (Itr 0 n) g tYes te vs σ H Q :=
  lcY (walk_range (lo := 0) (n := n)) Pv h0 (fun _ _ _ _ _ => trivial) (fun E i x H H' hi p y => by
    obtain ⟨rfl, rfl⟩ := y
    show g (.int (0 + (i : Int))) (wipe σ vs) H' _
    rw [Int.zero_add]
    exact hs E i H' hi p) hd
theorem lcL {a : Addr} {xs : List V} {g : TG} {vs : List Nat} (Pv : Addr → Nat → Hp → Prop) (h0 : ∀ E H1, H E = none → H1 E = some (.lst []) → Keep [] H H1 → Pv E 0 H1) (hG : ∀ E i H, i ≤ xs.length → Pv E i H → SqL K H a xs)
    (hs : ∀ E i x H, xs[i]? = some x → Pv E i H → g x (wipe σ vs) H fun σ2 H2 => wipe σ2 vs = wipe σ vs ∧ te σ2 H2 fun y H4 => Acc E y H4 (Pv E (i + 1))) (hd : ∀ E H, Pv E xs.length H → Q (.ref E) H) : LcIt (Itl K a) g tYes te vs σ H Q :=
  lcY walk_list Pv h0 hG (fun E i x H H' hi p y => by
    obtain ⟨rfl, e⟩ := y
    exact hs E i x H' e p) hd
theorem lcT {a : Addr} {xs : List V} {g : TG} {vs : List Nat} (Pv : Addr → Nat → Hp → Prop) (h0 : ∀ E H1, H E = none → H1 E = some (.lst []) → Keep [] H H1 → Pv E 0 H1) (hG : ∀ E i H, i ≤ xs.length → Pv E i H → SqT K H a xs)
    (hs : ∀ E i x H, xs[i]? = some x → Pv E i H → g x (wipe σ vs) H fun σ2 H2 => wipe σ2 vs = wipe σ vs ∧ te σ2 H2 fun y H4 => Acc E y H4 (Pv E (i + 1))) (hd : ∀ E H, Pv E xs.length H → Q (.ref E) H) : LcIt (Itt K a) g tYes te vs σ H Q :=
  lcY walk_tup Pv h0 hG (fun E i x H H' hi p y => by
    obtain ⟨rfl, e⟩ := y
    exact hs E i x H' e p) hd
/-! comprehensions with one if -/
theorem lcYi {J : It} {n : Nat} {G : Hp → Prop} {Y : Nat → Hp → V → Hp → Prop} (w : Walk J n G Y) {g : TG} {tt : TT} {vs : List Nat} (Pv : Addr → Nat → Hp → Prop) (h0 : ∀ E H1, H E = none → H1 E = some (.lst []) → Keep [] H H1 → Pv E 0 H1) (hG : ∀ E i H, i ≤ n → Pv E i H → G H)
    (hs : ∀ E i x H H', i < n → Pv E i H → Y i H x H' → g x (wipe σ vs) H' fun σ2 H2 => wipe σ2 vs = wipe σ vs ∧ tt σ2 H2 fun b H3 => if b = true then te σ2 H3 fun y H4 => Acc E y H4 (Pv E (i + 1)) else Pv E (i + 1) H3) (hd : ∀ E H, Pv E n H → Q (.ref E) H) : LcIt J g tt te vs σ H Q :=
  fun E hE => lc_it w (Pv E) (h0 E _ hE upd_same (Keep.new hE)) (hG E) (fun i x H1 H' hi p y => hs E i x H1 H' hi p y) (hd E)
theorem lcRi {n : Nat} {g : TG} {tt : TT} {vs : List Nat} (Pv : Addr → Nat → Hp → Prop) (h0 : ∀ E H1, H E = none → H1 E = some (.lst []) → Keep [] H H1 → Pv E 0 H1)
    (hs : ∀ E i H, i < n → Pv E i H → g (.int (i : Int)) (wipe σ vs) H fun σ2 H2 => wipe σ2 vs = wipe σ vs ∧ tt σ2 H2 fun b H3 => if b = true then te σ2 H3 fun y H4 => Acc E y H4 (Pv E (i + 1)) else Pv E (i + 1) H3) (hd : ∀ E H, Pv E n H → Q (.ref E) H) : LcIt (Itr 0 n) g tt te vs σ H Q :=
  lcYi (walk_range (lo := 0) (n := n)) Pv h0 (fun _ _ _ _ _ => trivial) (fun E i x H H' hi p y => by
    obtain ⟨rfl, rfl⟩ := y
    show g (.int (0 + (i : Int))) (wipe σ vs) H' _
    rw [Int.zero_add]
    exact hs E i H' hi p) hd
end
end Hw
/-! The syntax of programs in Lean, its data, what is well made. -/
namespace Hw
open PySem PySem.Spec PyProof.Rows L2

inductive Th where
  | num (n : Nat) | sum (a b : Th) | cell (t : Th) | own (k : Nat) | par (k : Nat)
mutual
inductive St where
  | set (p t : Th) | say (t : Th) | ite (t : Th) (a b : Sts) | call (w : Nat) (ts : List Th)
inductive Sts where
  | nil | cons (s : St) (r : Sts)
end
def Sts.app : Sts → Sts → Sts
  | .nil, r => r
  | .cons s q, r => .cons s (q.app r)
structure Wk where
  params : Nat
  owns : Nat
  body : Sts

def Th.enc : Th → PyData
  | .num n => .tuple [.str "num", .int (n : Int)]
  | .sum a b => .tuple [.str "sum", a.enc, b.enc]
  | .cell t => .tuple [.str "cell", t.enc]
  | .own k => .tuple [.str "own", .int (k : Int)]
  | .par k => .tuple [.str "par", .int (k : Int)]
mutual
def St.enc : St → PyData
  | .set p t => .tuple [.str "set", p.enc, t.enc]
  | .say t => .tuple [.str "say", t.enc]
  | .ite t a b => .tuple [.str "if", t.enc, .tuple a.encs, .tuple b.encs]
  | .call w ts => .tuple [.str "call", .int (w : Int), .tuple (ts.map Th.enc)]
def Sts.encs : Sts → List PyData
  | .nil => []
  | .cons s r => s.enc :: r.encs
end
def Wk.enc (w : Wk) : PyData := .tuple [.int (w.params : Int), .int (w.owns : Int), .tuple w.body.encs]
def encP (P : List Wk) : PyData := .tuple (P.map Wk.enc)

def Th.word : Th → Str
  | .num _ => "num"
  | .sum _ _ => "sum"
  | .cell _ => "cell"
  | .own _ => "own"
  | .par _ => "par"
theorem Th.head {K : PySem.W.Frag} {H : Hp} {v : V} : ∀ {t : Th}, Rp K H v t.enc → ∃ a r, v = .ref a ∧ SqT K H a (.str t.word :: r)
  | .num n, h => by
    obtain ⟨a, xs, rfl, ha, hx⟩ := h.tup_inv
    obtain ⟨v0, r0, rfl, g0, gr⟩ := hx.inv
    cases g0.str_inv
    exact ⟨a, r0, rfl, ha⟩
  | .sum x y, h => by
    obtain ⟨a, xs, rfl, ha, hx⟩ := h.tup_inv
    obtain ⟨v0, r0, rfl, g0, gr⟩ := hx.inv
    cases g0.str_inv
    exact ⟨a, r0, rfl, ha⟩
  | .cell x, h => by
    obtain ⟨a, xs, rfl, ha, hx⟩ := h.tup_inv
    obtain ⟨v0, r0, rfl, g0, gr⟩ := hx.inv
    cases g0.str_inv
    exact ⟨a, r0, rfl, ha⟩
  | .own n, h => by
    obtain ⟨a, xs, rfl, ha, hx⟩ := h.tup_inv
    obtain ⟨v0, r0, rfl, g0, gr⟩ := hx.inv
    cases g0.str_inv
    exact ⟨a, r0, rfl, ha⟩
  | .par n, h => by
    obtain ⟨a, xs, rfl, ha, hx⟩ := h.tup_inv
    obtain ⟨v0, r0, rfl, g0, gr⟩ := hx.inv
    cases g0.str_inv
    exact ⟨a, r0, rfl, ha⟩
section
variable {K : PySem.W.Frag} {H : Hp} {v : V}
theorem Th.inv_num {n : Nat} (h : Rp K H v (Th.num n).enc) : ∃ a, v = .ref a ∧ SqT K H a [.str "num", .int (n : Int)] := by
  obtain ⟨a, xs, rfl, ha, hx⟩ := h.tup_inv
  obtain ⟨v0, r0, rfl, g0, gr⟩ := hx.inv
  obtain ⟨v1, r1, rfl, g1, gr1⟩ := gr.inv
  cases gr1.inv0
  cases g0.str_inv
  cases g1.int_inv
  exact ⟨a, rfl, ha⟩
theorem Th.inv_own {n : Nat} (h : Rp K H v (Th.own n).enc) : ∃ a, v = .ref a ∧ SqT K H a [.str "own", .int (n : Int)] := by
  obtain ⟨a, xs, rfl, ha, hx⟩ := h.tup_inv
  obtain ⟨v0, r0, rfl, g0, gr⟩ := hx.inv
  obtain ⟨v1, r1, rfl, g1, gr1⟩ := gr.inv
  cases gr1.inv0
  cases g0.str_inv
  cases g1.int_inv
  exact ⟨a, rfl, ha⟩
theorem Th.inv_par {n : Nat} (h : Rp K H v (Th.par n).enc) : ∃ a, v = .ref a ∧ SqT K H a [.str "par", .int (n : Int)] := by
  obtain ⟨a, xs, rfl, ha, hx⟩ := h.tup_inv
  obtain ⟨v0, r0, rfl, g0, gr⟩ := hx.inv
  obtain ⟨v1, r1, rfl, g1, gr1⟩ := gr.inv
  cases gr1.inv0
  cases g0.str_inv
  cases g1.int_inv
  exact ⟨a, rfl, ha⟩
theorem Th.inv_cell {t : Th} (h : Rp K H v (Th.cell t).enc) : ∃ a u, v = .ref a ∧ SqT K H a [.str "cell", u] ∧ Rp K H u t.enc := by
  obtain ⟨a, xs, rfl, ha, hx⟩ := h.tup_inv
  obtain ⟨v0, r0, rfl, g0, gr⟩ := hx.inv
  obtain ⟨v1, r1, rfl, g1, gr1⟩ := gr.inv
  cases gr1.inv0
  cases g0.str_inv
  exact ⟨a, _, rfl, ha, g1⟩
theorem Th.inv_sum {t u : Th} (h : Rp K H v (Th.sum t u).enc) : ∃ a x y, v = .ref a ∧ SqT K H a [.str "sum", x, y] ∧ Rp K H x t.enc ∧ Rp K H y u.enc := by
  obtain ⟨a, xs, rfl, ha, hx⟩ := h.tup_inv
  obtain ⟨v0, r0, rfl, g0, gr⟩ := hx.inv
  obtain ⟨v1, r1, rfl, g1, gr1⟩ := gr.inv
  obtain ⟨v2, r2, rfl, g2, gr2⟩ := gr1.inv
  cases gr2.inv0
  cases g0.str_inv
  exact ⟨a, _, _, rfl, ha, g1, g2⟩
end
theorem atI_zero {x : V} {r : List V} : atI (x :: r) 0 = some x := atI_nat (j := 0) rfl
theorem Sts.encs_app : ∀ a b : Sts, (a.app b).encs = a.encs ++ b.encs
  | .nil, b => rfl
  | .cons s r, b => by
    show s.enc :: (r.app b).encs = s.enc :: (r.encs ++ b.encs)
    rw [Sts.encs_app r b]
def Sts.take : Nat → Sts → Sts
  | 0, _ => .nil
  | _ + 1, .nil => .nil
  | n + 1, .cons s r => .cons s (r.take n)
theorem Sts.encs_take : ∀ (n : Nat) (a : Sts), (a.take n).encs = a.encs.take n
  | 0, _ => by rw [List.take_zero]; rfl
  | _ + 1, .nil => rfl
  | n + 1, .cons s r => by
    show s.enc :: (r.take n).encs = s.enc :: (r.encs.take n)
    rw [Sts.encs_take n r]
def Sts.len : Sts → Nat
  | .nil => 0
  | .cons _ r => r.len + 1
theorem Sts.encs_len : ∀ a : Sts, a.encs.length = a.len
  | .nil => rfl
  | .cons s r => by
    show r.encs.length + 1 = r.len + 1
    rw [Sts.encs_len r]

/-! ### well made: p params, o own cells, so deep -/
def Th.ok (p o : Nat) : Nat → Th → Prop
  | _, .num n => n < 3
  | _, .own k => k < o
  | _, .par k => k < p
  | 0, .cell _ => False
  | 0, .sum _ _ => False
  | d + 1, .cell t => Th.ok p o d t
  | d + 1, .sum a b => Th.ok p o d a ∧ Th.ok p o d b
theorem Th.ok.mono {p o : Nat} : ∀ {t : Th} {d e : Nat}, Th.ok p o d t → d ≤ e → Th.ok p o e t
  | .num _, 0, 0, h, _ => h
  | .num _, 0, _ + 1, h, _ => h
  | .num _, _ + 1, 0, h, _ => h
  | .num _, _ + 1, _ + 1, h, _ => h
  | .own _, 0, 0, h, _ => h
  | .own _, 0, _ + 1, h, _ => h
  | .own _, _ + 1, 0, h, _ => h
  | .own _, _ + 1, _ + 1, h, _ => h
  | .par _, 0, 0, h, _ => h
  | .par _, 0, _ + 1, h, _ => h
  | .par _, _ + 1, 0, h, _ => h
  | .par _, _ + 1, _ + 1, h, _ => h
  | .cell t, 0, _, h, _ => h.elim
  | .cell t, _ + 1, 0, _, g => by omega
  | .cell t, d + 1, e + 1, h, g => Th.ok.mono (t := t) (d := d) (e := e) h (by omega)
  | .sum a b, 0, _, h, _ => h.elim
  | .sum a b, _ + 1, 0, _, g => by omega
  | .sum a b, d + 1, e + 1, h, g => ⟨Th.ok.mono (t := a) (d := d) (e := e) h.1 (by omega), Th.ok.mono (t := b) (d := d) (e := e) h.2 (by omega)⟩
theorem Th.ok_num {p o d n : Nat} (h : n < 3) : Th.ok p o d (.num n) := by cases d <;> exact h
theorem Th.ok_own {p o d n : Nat} (h : n < o) : Th.ok p o d (.own n) := by cases d <;> exact h
theorem Th.ok_par {p o d n : Nat} (h : n < p) : Th.ok p o d (.par n) := by cases d <;> exact h
def Th.isPlace : Th → Bool
  | .cell _ | .own _ | .par _ => true
  | _ => false
/- shapes: params and own cells of all works; the work at; so many steps within others -/
mutual
def St.ok (sh : List (Nat × Nat)) (at_ : Nat) : Nat → St → Prop
  | _, .set p t => p.isPlace = true ∧ Th.ok (sh.getD at_ (0, 0)).1 (sh.getD at_ (0, 0)).2 4 p ∧ Th.ok (sh.getD at_ (0, 0)).1 (sh.getD at_ (0, 0)).2 4 t
  | _, .say t => Th.ok (sh.getD at_ (0, 0)).1 (sh.getD at_ (0, 0)).2 4 t
  | 0, .ite _ _ _ => False
  | d + 1, .ite t a b => Th.ok (sh.getD at_ (0, 0)).1 (sh.getD at_ (0, 0)).2 4 t ∧ Sts.ok sh at_ d a ∧ Sts.ok sh at_ d b
  | _, .call w ts => at_ < w ∧ w < sh.length ∧ ts.length = (sh.getD w (0, 0)).1 ∧ ∀ t ∈ ts, Th.ok (sh.getD at_ (0, 0)).1 (sh.getD at_ (0, 0)).2 4 t
def Sts.ok (sh : List (Nat × Nat)) (at_ : Nat) : Nat → Sts → Prop
  | _, .nil => True
  | d, .cons s r => St.ok sh at_ d s ∧ Sts.ok sh at_ d r
end
theorem St.ok_set {sh : List (Nat × Nat)} {at_ d : Nat} {p t : Th} (h : p.isPlace = true) (h1 : Th.ok (sh.getD at_ (0, 0)).1 (sh.getD at_ (0, 0)).2 4 p) (h2 : Th.ok (sh.getD at_ (0, 0)).1 (sh.getD at_ (0, 0)).2 4 t) : St.ok sh at_ d (.set p t) := by
  cases d <;> (unfold St.ok; exact ⟨h, h1, h2⟩)
theorem St.ok_say {sh : List (Nat × Nat)} {at_ d : Nat} {t : Th} (h : Th.ok (sh.getD at_ (0, 0)).1 (sh.getD at_ (0, 0)).2 4 t) : St.ok sh at_ d (.say t) := by
  cases d <;> (unfold St.ok; exact h)
theorem St.ok_ite {sh : List (Nat × Nat)} {at_ d : Nat} {t : Th} {a b : Sts} (h : Th.ok (sh.getD at_ (0, 0)).1 (sh.getD at_ (0, 0)).2 4 t) (h1 : Sts.ok sh at_ d a) (h2 : Sts.ok sh at_ d b) : St.ok sh at_ (d + 1) (.ite t a b) := by
  unfold St.ok; exact ⟨h, h1, h2⟩
theorem St.ok_call {sh : List (Nat × Nat)} {at_ d w : Nat} {ts : List Th} (h : at_ < w) (h1 : w < sh.length) (h2 : ts.length = (sh.getD w (0, 0)).1) (h3 : ∀ t ∈ ts, Th.ok (sh.getD at_ (0, 0)).1 (sh.getD at_ (0, 0)).2 4 t) : St.ok sh at_ d (.call w ts) := by
  cases d <;> (unfold St.ok; exact ⟨h, h1, h2, h3⟩)
theorem getD_at {sh : List (Nat × Nat)} {i : Nat} (h : i < sh.length) : sh.getD i (0, 0) = sh[i] := by rw [List.getD_eq_getElem?_getD, List.getElem?_eq_getElem h]; rfl
/- how many steps, those within others too; how many calls -/
mutual
def St.many : St → Nat
  | .set _ _ => 1
  | .say _ => 1
  | .ite _ a b => 1 + a.many + b.many
  | .call _ _ => 1
def Sts.many : Sts → Nat
  | .nil => 0
  | .cons s r => s.many + r.many
end
mutual
def St.calls : St → Nat
  | .set _ _ => 0
  | .say _ => 0
  | .ite _ a b => a.calls + b.calls
  | .call _ _ => 1
def Sts.calls : Sts → Nat
  | .nil => 0
  | .cons s r => s.calls + r.calls
end
theorem Sts.ok_app {sh : List (Nat × Nat)} {at_ : Nat} : ∀ {d : Nat} {a b : Sts}, Sts.ok sh at_ d a → Sts.ok sh at_ d b → Sts.ok sh at_ d (a.app b)
  | _, .nil, _, _, g => g
  | d, .cons s r, b, h, g => by
    unfold Sts.ok at h
    show Sts.ok sh at_ d (.cons s (r.app b))
    unfold Sts.ok
    exact ⟨h.1, Sts.ok_app h.2 g⟩
theorem Sts.ok_take {sh : List (Nat × Nat)} {at_ : Nat} : ∀ {d : Nat} (n : Nat) {a : Sts}, Sts.ok sh at_ d a → Sts.ok sh at_ d (a.take n)
  | _, 0, _, _ => by unfold Sts.take Sts.ok; trivial
  | _, _ + 1, .nil, _ => by unfold Sts.take Sts.ok; trivial
  | d, n + 1, .cons s r, h => by
    unfold Sts.ok at h
    show Sts.ok sh at_ d (.cons s (r.take n))
    unfold Sts.ok
    exact ⟨h.1, Sts.ok_take n h.2⟩
theorem Sts.many_app : ∀ a b : Sts, (a.app b).many = a.many + b.many
  | .nil, b => (Nat.zero_add _).symm
  | .cons s r, b => by
    show s.many + (r.app b).many = s.many + r.many + b.many
    rw [Sts.many_app r b]
    omega
theorem Sts.many_take : ∀ (n : Nat) (a : Sts), (a.take n).many ≤ a.many
  | 0, _ => Nat.zero_le _
  | _ + 1, .nil => Nat.zero_le _
  | n + 1, .cons s r => by
    show s.many + (r.take n).many ≤ s.many + r.many
    have := Sts.many_take n r
    omega
theorem Sts.calls_app : ∀ a b : Sts, (a.app b).calls = a.calls + b.calls
  | .nil, b => (Nat.zero_add _).symm
  | .cons s r, b => by
    show s.calls + (r.app b).calls = s.calls + r.calls + b.calls
    rw [Sts.calls_app r b]
    omega
theorem Sts.calls_take : ∀ (n : Nat) (a : Sts), (a.take n).calls ≤ a.calls
  | 0, _ => Nat.zero_le _
  | _ + 1, .nil => Nat.zero_le _
  | n + 1, .cons s r => by
    show s.calls + (r.take n).calls ≤ s.calls + r.calls
    have := Sts.calls_take n r
    omega
theorem Sts.len_le_many : ∀ a : Sts, a.len ≤ a.many
  | .nil => Nat.le_refl _
  | .cons s r => by
    show r.len + 1 ≤ s.many + r.many
    have := Sts.len_le_many r
    have : 1 ≤ s.many := by cases s <;> (unfold St.many; omega)
    omega
def shapes (P : List Wk) : List (Nat × Nat) := P.map fun w => (w.params, w.owns)
/-- what the law's own drawing gives: a program; so many steps and calls at most in a work -/
structure Good (P : List Wk) (steps : Nat) : Prop where
  one : 1 ≤ P.length
  few : P.length ≤ 4
  first : ∀ w, P[0]? = some w → w.params = 0
  params : ∀ w ∈ P, w.params ≤ 3
  owns : ∀ w ∈ P, w.owns ≤ 10
  body : ∀ (i : Nat) (w : Wk), P[i]? = some w → Sts.ok (shapes P) i 2 w.body
  many : ∀ w ∈ P, w.body.many ≤ steps
  calls : ∀ w ∈ P, w.body.calls ≤ 4
end Hw
/-! Steps and works, opened. -/
namespace Hw
open PySem PySem.Spec PyProof.Rows L2
section
variable {K : PySem.W.Frag}
/-! ### steps, opened -/
section
variable {H : Hp} {v : V}
theorem St.inv_say {t : Th} (h : Rp K H v (St.say t).enc) : ∃ a u, v = .ref a ∧ SqT K H a [.str "say", u] ∧ Rp K H u t.enc := by
  obtain ⟨a, xs, rfl, ha, hx⟩ := h.tup_inv
  obtain ⟨v0, r0, rfl, g0, gr⟩ := hx.inv
  obtain ⟨v1, r1, rfl, g1, gr1⟩ := gr.inv
  cases gr1.inv0
  cases g0.str_inv
  exact ⟨a, _, rfl, ha, g1⟩
theorem St.inv_set {p t : Th} (h : Rp K H v (St.set p t).enc) : ∃ a u x, v = .ref a ∧ SqT K H a [.str "set", u, x] ∧ Rp K H u p.enc ∧ Rp K H x t.enc := by
  obtain ⟨a, xs, rfl, ha, hx⟩ := h.tup_inv
  obtain ⟨v0, r0, rfl, g0, gr⟩ := hx.inv
  obtain ⟨v1, r1, rfl, g1, gr1⟩ := gr.inv
  obtain ⟨v2, r2, rfl, g2, gr2⟩ := gr1.inv
  cases gr2.inv0
  cases g0.str_inv
  exact ⟨a, _, _, rfl, ha, g1, g2⟩
theorem St.inv_ite {t : Th} {b c : Sts} (h : Rp K H v (St.ite t b c).enc) : ∃ a u x y, v = .ref a ∧ SqT K H a [.str "if", u, x, y] ∧ Rp K H u t.enc ∧ Rp K H x (.tuple b.encs) ∧ Rp K H y (.tuple c.encs) := by
  obtain ⟨a, xs, rfl, ha, hx⟩ := h.tup_inv
  obtain ⟨v0, r0, rfl, g0, gr⟩ := hx.inv
  obtain ⟨v1, r1, rfl, g1, gr1⟩ := gr.inv
  obtain ⟨v2, r2, rfl, g2, gr2⟩ := gr1.inv
  obtain ⟨v3, r3, rfl, g3, gr3⟩ := gr2.inv
  cases gr3.inv0
  cases g0.str_inv
  exact ⟨a, _, _, _, rfl, ha, g1, g2, g3⟩
theorem St.inv_call {k : Nat} {ts : List Th} (h : Rp K H v (St.call k ts).enc) : ∃ a x, v = .ref a ∧ SqT K H a [.str "call", .int (k : Int), x] ∧ Rp K H x (.tuple (ts.map Th.enc)) := by
  obtain ⟨a, xs, rfl, ha, hx⟩ := h.tup_inv
  obtain ⟨v0, r0, rfl, g0, gr⟩ := hx.inv
  obtain ⟨v1, r1, rfl, g1, gr1⟩ := gr.inv
  obtain ⟨v2, r2, rfl, g2, gr2⟩ := gr1.inv
  cases gr2.inv0
  cases g0.str_inv
  cases g1.int_inv
  exact ⟨a, _, rfl, ha, g2⟩
theorem Wk.inv {k : Wk} (h : Rp K H v k.enc) : ∃ a x, v = .ref a ∧ SqT K H a [.int (k.params : Int), .int (k.owns : Int), x] ∧ Rp K H x (.tuple k.body.encs) := by
  obtain ⟨a, xs, rfl, ha, hx⟩ := h.tup_inv
  obtain ⟨v0, r0, rfl, g0, gr⟩ := hx.inv
  obtain ⟨v1, r1, rfl, g1, gr1⟩ := gr.inv
  obtain ⟨v2, r2, rfl, g2, gr2⟩ := gr1.inv
  cases gr2.inv0
  cases g0.int_inv
  cases g1.int_inv
  exact ⟨a, _, rfl, ha, g2⟩
end
def Sts.drop : Nat → Sts → Sts
  | 0, b => b
  | _ + 1, .nil => .nil
  | n + 1, .cons _ r => r.drop n
theorem Sts.drop_get : ∀ {i : Nat} {b : Sts} {d : PyData}, b.encs[i]? = some d → ∃ st, d = st.enc ∧ b.drop i = .cons st (b.drop (i + 1))
  | _, .nil, _, e => by simp [Sts.encs] at e
  | 0, .cons s r, d, e => by
    have e' : (s.enc :: r.encs)[0]? = some d := e
    simp at e'
    refine ⟨s, e'.symm, ?_⟩
    show Sts.cons s r = .cons s ((Sts.cons s r).drop 1)
    congr 1
  | i + 1, .cons s r, d, e => by
    have e' : (s.enc :: r.encs)[i + 1]? = some d := e
    simp at e'
    obtain ⟨st, e1, e2⟩ := Sts.drop_get e'
    exact ⟨st, e1, e2⟩
theorem Sts.drop_all : ∀ {b : Sts}, b.drop b.encs.length = .nil
  | .nil => rfl
  | .cons s r => by
    show (Sts.cons s r).drop (r.encs.length + 1) = .nil
    exact Sts.drop_all (b := r)
end
/-! ### as drawn: what calls hand lies within at most three others -/
def Th.dep : Th → Nat
  | .num _ => 0
  | .own _ => 0
  | .par _ => 0
  | .cell t => t.dep + 1
  | .sum a b => max a.dep b.dep + 1
theorem Th.ok_dep {p o : Nat} : ∀ {t : Th} {d : Nat}, Th.ok p o d t → t.dep ≤ d
  | .num _, d, _ => Nat.zero_le _
  | .own _, d, _ => Nat.zero_le _
  | .par _, d, _ => Nat.zero_le _
  | .cell t, 0, h => h.elim
  | .cell t, d + 1, h => by
    have := Th.ok_dep (t := t) (d := d) h
    show t.dep + 1 ≤ d + 1
    omega
  | .sum a b, 0, h => h.elim
  | .sum a b, d + 1, h => by
    have := Th.ok_dep (t := a) (d := d) h.1
    have := Th.ok_dep (t := b) (d := d) h.2
    show max a.dep b.dep + 1 ≤ d + 1
    omega
theorem Th.ok_cut {p o : Nat} : ∀ {t : Th} {d e : Nat}, Th.ok p o d t → t.dep ≤ e → Th.ok p o e t
  | .num _, d, e, h, _ => by cases d <;> cases e <;> exact h
  | .own _, d, e, h, _ => by cases d <;> cases e <;> exact h
  | .par _, d, e, h, _ => by cases d <;> cases e <;> exact h
  | .cell t, 0, _, h, _ => h.elim
  | .cell t, d + 1, 0, h, g => absurd (show t.dep + 1 ≤ 0 from g) (by omega)
  | .cell t, d + 1, e + 1, h, g => Th.ok_cut (t := t) (d := d) (e := e) h (by have g' : t.dep + 1 ≤ e + 1 := g; omega)
  | .sum a b, 0, _, h, _ => h.elim
  | .sum a b, d + 1, 0, h, g => absurd (show max a.dep b.dep + 1 ≤ 0 from g) (by omega)
  | .sum a b, d + 1, e + 1, h, g => by
    have g' : max a.dep b.dep + 1 ≤ e + 1 := g
    exact ⟨Th.ok_cut (t := a) (d := d) (e := e) h.1 (by omega), Th.ok_cut (t := b) (d := d) (e := e) h.2 (by omega)⟩
mutual
def St.thin : St → Prop
  | .set _ _ => True
  | .say _ => True
  | .ite _ a b => a.thin ∧ b.thin
  | .call _ ts => ∀ t ∈ ts, t.dep ≤ 3
def Sts.thin : Sts → Prop
  | .nil => True
  | .cons s r => s.thin ∧ r.thin
end
def St.okD (sh : List (Nat × Nat)) (i d : Nat) (s : St) : Prop := St.ok sh i d s ∧ s.thin
def Sts.okD (sh : List (Nat × Nat)) (i d : Nat) (b : Sts) : Prop := Sts.ok sh i d b ∧ b.thin
theorem Sts.thin_app : ∀ {a b : Sts}, a.thin → b.thin → (a.app b).thin
  | .nil, b, _, g => g
  | .cons s r, b, h, g => by
    unfold Sts.thin at h
    show (Sts.cons s (r.app b)).thin
    unfold Sts.thin
    exact ⟨h.1, Sts.thin_app h.2 g⟩
theorem Sts.thin_take : ∀ (n : Nat) {a : Sts}, a.thin → (a.take n).thin
  | 0, _, _ => by unfold Sts.take Sts.thin; trivial
  | _ + 1, .nil, _ => by unfold Sts.take Sts.thin; trivial
  | n + 1, .cons s r, h => by
    unfold Sts.thin at h
    show (Sts.cons s (r.take n)).thin
    unfold Sts.thin
    exact ⟨h.1, Sts.thin_take n h.2⟩
theorem Sts.okD_nil {sh : List (Nat × Nat)} {i d : Nat} : Sts.okD sh i d .nil := ⟨by unfold Sts.ok; trivial, by unfold Sts.thin; trivial⟩
theorem Sts.okD_one {sh : List (Nat × Nat)} {i d : Nat} {s : St} (h : St.okD sh i d s) : Sts.okD sh i d (.cons s .nil) := ⟨by unfold Sts.ok; exact ⟨h.1, by unfold Sts.ok; trivial⟩, by unfold Sts.thin; exact ⟨h.2, by unfold Sts.thin; trivial⟩⟩
theorem Sts.okD_app {sh : List (Nat × Nat)} {i d : Nat} {a b : Sts} (h : Sts.okD sh i d a) (g : Sts.okD sh i d b) : Sts.okD sh i d (a.app b) := ⟨Sts.ok_app h.1 g.1, Sts.thin_app h.2 g.2⟩
theorem Sts.okD_take {sh : List (Nat × Nat)} {i d : Nat} (n : Nat) {a : Sts} (h : Sts.okD sh i d a) : Sts.okD sh i d (a.take n) := ⟨Sts.ok_take n h.1, Sts.thin_take n h.2⟩
structure Drawn (P : List Wk) (steps : Nat) : Prop extends Good P steps where
  thin : ∀ w ∈ P, w.body.thin
end Hw
/-! The runs, in Lean: numbers by place, what is said, what is lent, whether it is mixed. -/
namespace Hw
open PySem PySem.Spec PyProof.Rows L2

mutual
inductive Fr where
  | mk (owns : List Nat) (hs : Hds)
inductive Hd where
  | road (p : Nat) (ws : List Nat) | want (t : Th) (f : Fr)
inductive Hds where
  | nil | cons (h : Hd) (r : Hds)
end
def Hds.get : Hds → Nat → Option Hd
  | .nil, _ => none
  | .cons h _, 0 => some h
  | .cons _ r, n + 1 => r.get n
def Hds.of : List (Hd × Option Nat) → Hds
  | [] => .nil
  | (h, _) :: r => .cons h (Hds.of r)
/-- the number of a thing: at, the numbers by place; so much fuel -/
def numF (at_ : List Nat) : Nat → Fr → Th → Option Nat
  | 0, _, _ => none
  | _ + 1, _, .num k => some k
  | n + 1, f, .sum a b => (numF at_ n f a).bind fun x => (numF at_ n f b).bind fun y => some ((x + y) % 3)
  | n + 1, f, .cell t => (numF at_ n f t).bind fun x => at_[x]?
  | _ + 1, .mk os _, .own k => os[k]?.bind fun p => at_[p]?
  | n + 1, .mk _ hs, .par k => match hs.get k with
    | some (.road p _) => at_[p]?
    | some (.want t f) => numF at_ n f t
    | none => none
/-- the place that a thing is (none: it is none), and the lent things on the road -/
def roadF (at_ : List Nat) : Nat → Fr → Th → Option (Option (Nat × List Nat))
  | 0, _, _ => none
  | _ + 1, _, .num _ => some none
  | _ + 1, _, .sum _ _ => some none
  | n + 1, f, .cell t => (numF at_ n f t).map fun x => some (x, [])
  | _ + 1, .mk os _, .own k => os[k]?.map fun p => some (p, [])
  | n + 1, .mk _ hs, .par k => match hs.get k with
    | some (.road p ws) => some (some (p, ws))
    | some (.want t f) => roadF at_ n f t
    | none => none
/-- a place is come to by a road that doesn't go through each thing by which it is lent -/
def meet (lent : List (Nat × Nat)) (p : Nat) (ws : List Nat) : Bool := lent.any fun q => decide (q.1 = p) && !decide (q.2 ∈ ws)
/-- so is some place where the number of a thing is asked; where its place is found -/
def mixN (at_ : List Nat) (lent : List (Nat × Nat)) : Nat → Fr → Th → Bool
  | 0, _, _ => false
  | _ + 1, _, .num _ => false
  | n + 1, f, .sum a b => mixN at_ lent n f a || mixN at_ lent n f b
  | n + 1, f, .cell t => mixN at_ lent n f t || meet lent ((numF at_ n f t).getD 0) []
  | _ + 1, .mk os _, .own k => meet lent (os.getD k 0) []
  | n + 1, .mk _ hs, .par k => match hs.get k with
    | some (.road p ws) => meet lent p ws
    | some (.want t f) => mixN at_ lent n f t
    | none => false
def mixR (at_ : List Nat) (lent : List (Nat × Nat)) : Nat → Fr → Th → Bool
  | 0, _, _ => false
  | _ + 1, _, .num _ => false
  | _ + 1, _, .sum _ _ => false
  | n + 1, f, .cell t => mixN at_ lent n f t
  | _ + 1, .mk _ _, .own _ => false
  | n + 1, .mk _ hs, .par k => match hs.get k with
    | some (.road _ _) => false
    | some (.want t f) => mixR at_ lent n f t
    | none => false

structure LS where
  at_ : List Nat
  said : List Nat
  lent : List (Nat × Nat)
  many : Nat
  mixed : Bool
def LS.mix (S : LS) (b : Bool) : LS := { S with mixed := S.mixed || b }
theorem LS.mix_false (S : LS) : S.mix false = S := by unfold LS.mix; rw [Bool.or_false]
theorem LS.mix_mix (S : LS) (a b : Bool) : (S.mix a).mix b = S.mix (a || b) := by unfold LS.mix; simp only [Bool.or_assoc]
/-- a new place with the number of the thing -/
def newF (N : Nat) (S : LS) (f : Fr) (t : Th) : Option (Hd × Option Nat × LS) :=
  (numF S.at_ N f t).map fun v => (.road S.at_.length [], none, { S.mix (mixN S.at_ S.lent N f t) with at_ := S.at_ ++ [v] })
/-- a place is lent -/
def LS.lend (S : LS) (p : Nat) (ws : List Nat) : LS := { S.mix (meet S.lent p ws) with many := S.many + 1, lent := S.lent ++ [(p, S.many + 1)] }
def handF (N : Nat) (S : LS) (f : Fr) (t : Th) (way : Str) : Option (Hd × Option Nat × LS) :=
  if way = "want" then some (.want t f, none, S)
  else if way = "place" ∨ way = "back" then
    (roadF S.at_ N f t).bind fun r => match r with
      | none => newF N (S.mix (mixR S.at_ S.lent N f t)) f t
      | some (p, ws) =>
        if way = "place" then some (.road p (ws ++ [S.many + 1]), none, (S.mix (mixR S.at_ S.lent N f t)).lend p ws)
        else S.at_[p]?.map fun v => (.road S.at_.length [], some p, { (S.mix (mixR S.at_ S.lent N f t)).lend p ws with at_ := S.at_ ++ [v] })
  else newF N S f t
def handsF (N : Nat) (f : Fr) : LS → List Th → List Str → Option (List (Hd × Option Nat) × LS)
  | S, [], _ => some ([], S)
  | S, t :: ts, w :: ws => (handF N S f t w).bind fun (h, b, S1) => (handsF N f S1 ts ws).map fun (r, S2) => ((h, b) :: r, S2)
  | _, _ :: _, [] => none
/-- what is laid back -/
def backsF : List Nat → List (Hd × Option Nat) → Option (List Nat)
  | at_, [] => some at_
  | at_, (_, none) :: r => backsF at_ r
  | at_, (.road q _, some p) :: r => if p < at_.length then at_[q]?.bind fun v => backsF (at_.set p v) r else none
  | _, (.want _ _, some _) :: _ => none
def iter (g : LS → St → Option LS) : Sts → LS → Option LS
  | .nil, S => some S
  | .cons s r, S => (g S s).bind (iter g r)
/-- own cells -/
def LS.enter (S : LS) (owns : Nat) : LS := { S with at_ := S.at_ ++ List.replicate owns 0 }
def ownsOf (S : LS) (owns : Nat) : List Nat := List.range' S.at_.length owns
def stepF (P : List Wk) (W : List (List Str)) (N : Nat) : Nat → Fr → LS → St → Option LS
  | 0, _, _, _ => none
  | _ + 1, f, S, .say t => (numF S.at_ N f t).map fun v => { S.mix (mixN S.at_ S.lent N f t) with said := S.said ++ [v] }
  | n + 1, f, S, .ite t a b => (numF S.at_ N f t).bind fun v => iter (stepF P W N n f) (if v = 0 then b else a) (S.mix (mixN S.at_ S.lent N f t))
  | _ + 1, f, S, .set p t => (numF S.at_ N f t).bind fun v => (roadF S.at_ N f p).bind fun r => match r with
    | none => some ((S.mix (mixN S.at_ S.lent N f t)).mix (mixR S.at_ S.lent N f p))
    | some (q, ws) => if q < S.at_.length then some { ((S.mix (mixN S.at_ S.lent N f t)).mix (mixR S.at_ S.lent N f p)).mix (meet S.lent q ws) with at_ := S.at_.set q v } else none
  | n + 1, f, S, .call w ts => W[w]?.bind fun ws => if ws.length = ts.length then (handsF N f S ts ws).bind fun (hs, S1) => P[w]?.bind fun wk =>
    (iter (stepF P W N n (.mk (ownsOf S1 wk.owns) (Hds.of hs))) wk.body (S1.enter wk.owns)).bind fun S2 => (backsF S2.at_ hs).map fun a => { S2 with at_ := a, lent := S2.lent.take S.lent.length } else none
def doesF (P : List Wk) (W : List (List Str)) (N n : Nat) (S : LS) (w : Nat) (hs : Hds) : Option LS :=
  P[w]?.bind fun wk => iter (stepF P W N n (.mk (ownsOf S wk.owns) hs)) wk.body (S.enter wk.owns)
def ranF (P : List Wk) (W : List (List Str)) (N n : Nat) (cells : List Nat) : Option LS := doesF P W N n ⟨cells, [], [], 0, false⟩ 0 .nil
end Hw
/-! Runs only grow. -/
namespace Hw
open PySem PySem.Spec PyProof.Rows L2
mutual
def Fr.wsLe (m : Nat) : Fr → Prop
  | .mk _ hs => hs.wsLe m
def Hd.wsLe (m : Nat) : Hd → Prop
  | .road _ ws => ws.length ≤ m
  | .want _ f => f.wsLe m
def Hds.wsLe (m : Nat) : Hds → Prop
  | .nil => True
  | .cons h r => h.wsLe m ∧ r.wsLe m
end
mutual
theorem Fr.wsLe.mono {m n : Nat} (l : m ≤ n) : ∀ {f : Fr}, f.wsLe m → f.wsLe n
  | .mk _ hs, h => by
    unfold Fr.wsLe at h ⊢
    exact Hds.wsLe.mono l h
theorem Hd.wsLe.mono {m n : Nat} (l : m ≤ n) : ∀ {d : Hd}, d.wsLe m → d.wsLe n
  | .road _ ws, h => by
    unfold Hd.wsLe at h ⊢
    exact Nat.le_trans h l
  | .want _ f, h => by
    unfold Hd.wsLe at h ⊢
    exact Fr.wsLe.mono l h
theorem Hds.wsLe.mono {m n : Nat} (l : m ≤ n) : ∀ {hs : Hds}, hs.wsLe m → hs.wsLe n
  | .nil, h => by unfold Hds.wsLe; trivial
  | .cons d r, h => by
    unfold Hds.wsLe at h ⊢
    exact ⟨Hd.wsLe.mono l h.1, Hds.wsLe.mono l h.2⟩
end
theorem Hds.wsLe.get {m : Nat} : ∀ {hs : Hds} {i : Nat} {d : Hd}, hs.wsLe m → hs.get i = some d → d.wsLe m
  | .nil, _, _, _, e => by unfold Hds.get at e; cases e
  | .cons d r, 0, d', h, e => by
    unfold Hds.wsLe at h
    unfold Hds.get at e
    cases e
    exact h.1
  | .cons d r, i + 1, d', h, e => by
    unfold Hds.wsLe at h
    unfold Hds.get at e
    exact Hds.wsLe.get h.2 e
theorem roadF_ws {at_ : List Nat} {m : Nat} : ∀ {N : Nat} {f : Fr} {t : Th} {p : Nat} {ws : List Nat}, f.wsLe m → roadF at_ N f t = some (some (p, ws)) → ws.length ≤ m
  | 0, f, t, p, ws, _, e => by unfold roadF at e; cases e
  | n + 1, f, .num _, p, ws, _, e => by unfold roadF at e; cases e
  | n + 1, f, .sum _ _, p, ws, _, e => by unfold roadF at e; cases e
  | n + 1, f, .cell u, p, ws, _, e => by
    unfold roadF at e
    cases q : numF at_ n f u with
    | none => rw [q] at e; cases e
    | some x => rw [q] at e; cases e; exact Nat.zero_le _
  | n + 1, .mk os hs, .own k, p, ws, _, e => by
    unfold roadF at e
    cases q : os[k]? with
    | none => rw [q] at e; cases e
    | some x => rw [q] at e; cases e; exact Nat.zero_le _
  | n + 1, .mk os hs, .par k, p, ws, h, e => by
    unfold roadF at e
    unfold Fr.wsLe at h
    cases q : hs.get k with
    | none => rw [q] at e; cases e
    | some d =>
      have hd := h.get q
      rw [q] at e
      cases d with
      | road p2 ws2 => cases e; unfold Hd.wsLe at hd; exact hd
      | want u f2 => unfold Hd.wsLe at hd; exact roadF_ws hd e
structure Le (S S' : LS) : Prop where
  a : S.at_.length ≤ S'.at_.length
  s : S.said.length ≤ S'.said.length
  m : S.many ≤ S'.many
  l : S.lent.length ≤ S.many → S'.lent.length ≤ S'.many
theorem Le.refl {S : LS} : Le S S := ⟨Nat.le_refl _, Nat.le_refl _, Nat.le_refl _, id⟩
theorem Le.trans {S S1 S2 : LS} (x : Le S S1) (y : Le S1 S2) : Le S S2 := ⟨Nat.le_trans x.a y.a, Nat.le_trans x.s y.s, Nat.le_trans x.m y.m, fun h => y.l (x.l h)⟩
theorem Le.mix {S : LS} {b : Bool} : Le S (S.mix b) := ⟨Nat.le_refl _, Nat.le_refl _, Nat.le_refl _, id⟩
theorem Le.lend {S : LS} {p : Nat} {ws : List Nat} : Le S (S.lend p ws) := ⟨Nat.le_refl _, Nat.le_refl _, Nat.le_succ _, fun h => by
  show (S.lent ++ [(p, S.many + 1)]).length ≤ S.many + 1
  rw [List.length_append, List.length_singleton]
  omega⟩
theorem newF_le {N : Nat} {S : LS} {f : Fr} {t : Th} {h : Hd} {b : Option Nat} {S' : LS} (e : newF N S f t = some (h, b, S')) : Le S S' ∧ ∀ m, h.wsLe m := by
  unfold newF at e
  cases q : numF S.at_ N f t with
  | none => rw [q] at e; cases e
  | some v =>
    rw [q] at e
    cases e
    exact ⟨⟨by show _ ≤ (S.at_ ++ [v]).length; rw [List.length_append]; omega, Nat.le_refl _, Nat.le_refl _, id⟩, fun m => by unfold Hd.wsLe; exact Nat.zero_le _⟩
theorem handF_le {N : Nat} {S : LS} {f : Fr} {t : Th} {way : Str} {h : Hd} {b : Option Nat} {S' : LS} (e : handF N S f t way = some (h, b, S')) : Le S S' ∧ (f.wsLe S.many → h.wsLe S'.many) := by
  unfold handF at e
  by_cases c1 : way = "want"
  · rw [if_pos c1] at e
    cases e
    exact ⟨Le.refl, fun w => by unfold Hd.wsLe; exact w⟩
  rw [if_neg c1] at e
  by_cases c2 : way = "place" ∨ way = "back"
  · rw [if_pos c2] at e
    cases q : roadF S.at_ N f t with
    | none => rw [q] at e; cases e
    | some r =>
      rw [q] at e
      cases r with
      | none =>
        have := newF_le (show newF N (S.mix (mixR S.at_ S.lent N f t)) f t = some (h, b, S') from e)
        exact ⟨Le.mix.trans this.1, fun _ => this.2 _⟩
      | some pw =>
        obtain ⟨p, ws⟩ := pw
        have e' : (if way = "place" then some (Hd.road p (ws ++ [S.many + 1]), (none : Option Nat), (S.mix (mixR S.at_ S.lent N f t)).lend p ws) else (S.at_[p]?.map fun v => (Hd.road S.at_.length [], some p, { (S.mix (mixR S.at_ S.lent N f t)).lend p ws with at_ := S.at_ ++ [v] }))) = some (h, b, S') := e
        by_cases c3 : way = "place"
        · rw [if_pos c3] at e'
          cases e'
          refine ⟨Le.mix.trans (Le.lend (p := p) (ws := ws)), fun w => ?_⟩
          have hw := roadF_ws w q
          unfold Hd.wsLe
          rw [List.length_append, List.length_singleton]
          exact Nat.succ_le_succ hw
        · rw [if_neg c3] at e'
          cases q2 : S.at_[p]? with
          | none => rw [q2] at e'; cases e'
          | some v =>
            rw [q2] at e'
            cases e'
            refine ⟨(Le.mix.trans (Le.lend (p := p) (ws := ws))).trans ⟨by show S.at_.length ≤ (S.at_ ++ [v]).length; rw [List.length_append]; omega, Nat.le_refl _, Nat.le_refl _, id⟩, fun _ => ?_⟩
            unfold Hd.wsLe
            exact Nat.zero_le _
  · rw [if_neg c2] at e
    have := newF_le e
    exact ⟨this.1, fun _ => this.2 _⟩
theorem handsF_le {N : Nat} {f : Fr} : ∀ {ts : List Th} {S : LS} {ws : List Str} {hs : List (Hd × Option Nat)} {S' : LS}, handsF N f S ts ws = some (hs, S') → Le S S' ∧ (f.wsLe S.many → (Hds.of hs).wsLe S'.many)
  | [], S, ws, hs, S', e => by
    unfold handsF at e
    cases e
    exact ⟨Le.refl, fun _ => by unfold Hds.of Hds.wsLe; trivial⟩
  | t :: ts, S, [], hs, S', e => by unfold handsF at e; cases e
  | t :: ts, S, w :: ws, hs, S', e => by
    unfold handsF at e
    cases q : handF N S f t w with
    | none => rw [q] at e; cases e
    | some r =>
      obtain ⟨d, b, S1⟩ := r
      rw [q] at e
      have q1 := handF_le q
      have e2 : ((handsF N f S1 ts ws).map fun (r, S2) => ((d, b) :: r, S2)) = some (hs, S') := e
      cases q2 : handsF N f S1 ts ws with
      | none => rw [q2] at e2; cases e2
      | some r2 =>
        obtain ⟨hs2, S2⟩ := r2
        rw [q2] at e2
        cases e2
        have q3 := handsF_le q2
        refine ⟨q1.1.trans q3.1, fun h => ?_⟩
        unfold Hds.of Hds.wsLe
        exact ⟨(q1.2 h).mono q3.1.m, q3.2 (h.mono q1.1.m)⟩
theorem backsF_len : ∀ {hs : List (Hd × Option Nat)} {a a' : List Nat}, backsF a hs = some a' → a'.length = a.length
  | [], a, a', e => by unfold backsF at e; cases e; rfl
  | (d, none) :: r, a, a', e => by unfold backsF at e; exact backsF_len e
  | (.road q _, some p) :: r, a, a', e => by
    unfold backsF at e
    by_cases c : p < a.length
    · rw [if_pos c] at e
      cases g : a[q]? with
      | none => rw [g] at e; cases e
      | some v =>
        rw [g] at e
        have := backsF_len (show backsF (a.set p v) r = some a' from e)
        rw [this, List.length_set]
    · rw [if_neg c] at e
      cases e
  | (.want _ _, some _) :: r, a, a', e => by unfold backsF at e; cases e
theorem iter_le {g : LS → St → Option LS} (hg : ∀ S s S', g S s = some S' → Le S S') : ∀ {b : Sts} {S S' : LS}, iter g b S = some S' → Le S S'
  | .nil, S, S', e => by unfold iter at e; cases e; exact Le.refl
  | .cons s r, S, S', e => by
    unfold iter at e
    cases q : g S s with
    | none => rw [q] at e; cases e
    | some S1 =>
      rw [q] at e
      exact (hg S s S1 q).trans (iter_le hg (show iter g r S1 = some S' from e))
theorem Le.enter {S : LS} {n : Nat} : Le S (S.enter n) := ⟨by show _ ≤ (S.at_ ++ _).length; rw [List.length_append]; omega, Nat.le_refl _, Nat.le_refl _, id⟩
theorem stepF_le {P : List Wk} {W : List (List Str)} {N : Nat} : ∀ {n : Nat} {f : Fr} {S : LS} {st : St} {S' : LS}, stepF P W N n f S st = some S' → Le S S'
  | 0, f, S, st, S', e => by unfold stepF at e; cases e
  | n + 1, f, S, .say t, S', e => by
    unfold stepF at e
    cases q : numF S.at_ N f t with
    | none => rw [q] at e; cases e
    | some v =>
      rw [q] at e
      cases e
      exact ⟨Nat.le_refl _, by show _ ≤ (S.said ++ [v]).length; rw [List.length_append]; omega, Nat.le_refl _, id⟩
  | n + 1, f, S, .ite t a b, S', e => by
    unfold stepF at e
    cases q : numF S.at_ N f t with
    | none => rw [q] at e; cases e
    | some v =>
      rw [q] at e
      exact Le.mix.trans (iter_le (fun S s S' h => stepF_le h) (show iter (stepF P W N n f) (if v = 0 then b else a) (S.mix (mixN S.at_ S.lent N f t)) = some S' from e))
  | n + 1, f, S, .set p t, S', e => by
    unfold stepF at e
    cases q : numF S.at_ N f t with
    | none => rw [q] at e; cases e
    | some v =>
      rw [q] at e
      cases q2 : roadF S.at_ N f p with
      | none =>
        rw [q2] at e
        cases e
      | some r =>
        rw [q2] at e
        cases r with
        | none =>
          cases e
          exact Le.mix.trans Le.mix
        | some pw =>
          obtain ⟨x, ws⟩ := pw
          have e' : (if x < S.at_.length then some { ((S.mix (mixN S.at_ S.lent N f t)).mix (mixR S.at_ S.lent N f p)).mix (meet S.lent x ws) with at_ := S.at_.set x v } else none) = some S' := e
          by_cases c : x < S.at_.length
          · rw [if_pos c] at e'
            cases e'
            exact ⟨by show _ ≤ (S.at_.set x v).length; rw [List.length_set]; exact Nat.le_refl _, Nat.le_refl _, Nat.le_refl _, id⟩
          · rw [if_neg c] at e'
            cases e'
  | n + 1, f, S, .call w ts, S', e => by
    unfold stepF at e
    cases q : W[w]? with
    | none => rw [q] at e; cases e
    | some ws =>
    rw [q] at e
    have e1 : (if ws.length = ts.length then (handsF N f S ts ws).bind fun (hs, S1) => P[w]?.bind fun wk =>
      (iter (stepF P W N n (.mk (ownsOf S1 wk.owns) (Hds.of hs))) wk.body (S1.enter wk.owns)).bind fun S2 => (backsF S2.at_ hs).map fun a => { S2 with at_ := a, lent := S2.lent.take S.lent.length } else none) = some S' := e
    by_cases c : ws.length = ts.length
    · rw [if_pos c] at e1
      cases q2 : handsF N f S ts ws with
      | none => rw [q2] at e1; cases e1
      | some r =>
      obtain ⟨hs, S1⟩ := r
      rw [q2] at e1
      cases q3 : P[w]? with
      | none => rw [q3] at e1; cases e1
      | some wk =>
      rw [q3] at e1
      have e2 : ((iter (stepF P W N n (.mk (ownsOf S1 wk.owns) (Hds.of hs))) wk.body (S1.enter wk.owns)).bind fun S2 => (backsF S2.at_ hs).map fun a => { S2 with at_ := a, lent := S2.lent.take S.lent.length }) = some S' := e1
      cases q4 : iter (stepF P W N n (.mk (ownsOf S1 wk.owns) (Hds.of hs))) wk.body (S1.enter wk.owns) with
      | none => rw [q4] at e2; cases e2
      | some S2 =>
      rw [q4] at e2
      have e3 : ((backsF S2.at_ hs).map fun a => { S2 with at_ := a, lent := S2.lent.take S.lent.length }) = some S' := e2
      cases q5 : backsF S2.at_ hs with
      | none => rw [q5] at e3; cases e3
      | some a =>
      rw [q5] at e3
      cases e3
      have l2 := ((handsF_le q2).1.trans Le.enter).trans (iter_le (fun S s S' h => stepF_le h) q4)
      exact ⟨by show _ ≤ a.length; rw [backsF_len q5]; exact l2.a, l2.s, l2.m, fun h => by
        show (S2.lent.take S.lent.length).length ≤ S2.many
        rw [List.length_take]
        have := l2.m
        omega⟩
    · rw [if_neg c] at e1
      cases e1
end Hw
/-! Ways, as data; what a run is of. -/
namespace Hw
open PySem PySem.Spec PyProof.Rows L2
section
variable {K : PySem.W.Frag}
def encW (W : List (List Str)) : PyData := .tuple (W.map fun ws => .tuple (ws.map PyData.str))
def WaysOk (P : List Wk) (W : List (List Str)) (opts : List Str) : Prop := W.length = P.length ∧ ∀ (i : Nat) (w : Wk) (ws : List Str), P[i]? = some w → W[i]? = some ws → ws.length = w.params ∧ ∀ x ∈ ws, x ∈ opts
def fourWays : List Str := ["copy", "place", "back", "want"]
def ways4 : List Str := ["copy", "place", "back", "want"]
structure Run (K : PySem.W.Frag) (H : Hp) (P : List Wk) (W : List (List Str)) (vp vw : V) : Prop where
  p : Rp K H vp (encP P)
  w : Rp K H vw (encW W)
  o : ∀ w ∈ P, w.owns ≤ 1000
  k : ∀ ws ∈ W, ∀ x ∈ ws, x ∈ fourWays
  l : ∀ ws ∈ W, ws.length ≤ 1000
theorem Run.ts {H H1 : Hp} {P : List Wk} {W : List (List Str)} {vp vw : V} (r : Run K H P W vp vw) (t : Tst H H1) : Run K H1 P W vp vw := ⟨r.p.ts t, r.w.ts t, r.o, r.k, r.l⟩
def Fits (S : LS) : Prop := S.at_.length ≤ 90000 ∧ S.said.length ≤ 90000 ∧ S.many ≤ 90000
theorem Fits.le {S S' : LS} (f : Fits S') (l : Le S S') : Fits S := ⟨Nat.le_trans l.a f.1, Nat.le_trans l.s f.2.1, Nat.le_trans l.m f.2.2⟩
end
end Hw
/-! Good programs run, and stay small. -/
namespace Hw
open PySem PySem.Spec PyProof.Rows L2
/-! a frame of a work of p params and o own cells, wants through fewer than d frames, places below L -/
mutual
def Fr.okv (L : Nat) : Nat → Nat → Nat → Fr → Prop
  | p, o, d, .mk os hs => os.length = o ∧ (∀ x ∈ os, x < L) ∧ hs.okv L p d
def Hd.okv (L : Nat) : Nat → Hd → Prop
  | _, .road q _ => q < L
  | d, .want t f => ∃ d' p o, d' < d ∧ t.ok p o 4 ∧ f.okv L p o d'
def Hds.okv (L : Nat) : Nat → Nat → Hds → Prop
  | p, _, .nil => p = 0
  | p, d, .cons h r => ∃ p', p = p' + 1 ∧ h.okv L d ∧ r.okv L p' d
end
mutual
theorem Fr.okv.mono {L L' : Nat} (l : L ≤ L') : ∀ {f : Fr} {p o d d' : Nat}, d ≤ d' → f.okv L p o d → f.okv L' p o d'
  | .mk os hs, p, o, d, d', h, g => by
    unfold Fr.okv at g ⊢
    exact ⟨g.1, fun x hx => Nat.lt_of_lt_of_le (g.2.1 x hx) l, Hds.okv.mono l h g.2.2⟩
theorem Hd.okv.mono {L L' : Nat} (l : L ≤ L') : ∀ {h : Hd} {d d' : Nat}, d ≤ d' → h.okv L d → h.okv L' d'
  | .road q _, d, d', h, g => by
    unfold Hd.okv at g ⊢
    exact Nat.lt_of_lt_of_le g l
  | .want t f, d, d', h, g => by
    unfold Hd.okv at g ⊢
    obtain ⟨e, p, o, h1, h2, h3⟩ := g
    exact ⟨e, p, o, Nat.lt_of_lt_of_le h1 h, h2, Fr.okv.mono l (Nat.le_refl _) h3⟩
theorem Hds.okv.mono {L L' : Nat} (l : L ≤ L') : ∀ {hs : Hds} {p d d' : Nat}, d ≤ d' → hs.okv L p d → hs.okv L' p d'
  | .nil, p, d, d', h, g => by
    unfold Hds.okv at g ⊢
    exact g
  | .cons a r, p, d, d', h, g => by
    unfold Hds.okv at g ⊢
    obtain ⟨p', h1, h2, h3⟩ := g
    exact ⟨p', h1, Hd.okv.mono l h h2, Hds.okv.mono l h h3⟩
end
theorem Hds.okv.get {L : Nat} : ∀ {hs : Hds} {p d i : Nat}, hs.okv L p d → i < p → ∃ h, hs.get i = some h ∧ h.okv L d
  | .nil, p, d, i, g, hi => by
    unfold Hds.okv at g
    omega
  | .cons a r, p, d, 0, g, hi => by
    unfold Hds.okv at g
    obtain ⟨p', h1, h2, h3⟩ := g
    exact ⟨a, rfl, h2⟩
  | .cons a r, p, d, i + 1, g, hi => by
    unfold Hds.okv at g
    obtain ⟨p', h1, h2, h3⟩ := g
    obtain ⟨h, e1, e2⟩ := Hds.okv.get (i := i) h3 (by omega)
    exact ⟨h, e1, e2⟩
structure AtOk (a : List Nat) : Prop where
  l : 3 ≤ a.length
  v : ∀ x ∈ a, x < 3
theorem AtOk.get {a : List Nat} (g : AtOk a) {i : Nat} (h : i < a.length) : ∃ v, a[i]? = some v ∧ v < 3 := ⟨a[i], List.getElem?_eq_getElem h, g.v _ (List.getElem_mem h)⟩
theorem AtOk.app {a : List Nat} (g : AtOk a) {v : Nat} (h : v < 3) : AtOk (a ++ [v]) := ⟨by rw [List.length_append]; have := g.l; omega, fun x hx => by
  rcases List.mem_append.mp hx with hx | hx
  · exact g.v x hx
  · cases List.mem_singleton.mp hx
    exact h⟩
theorem AtOk.set {a : List Nat} (g : AtOk a) {i v : Nat} (h : v < 3) : AtOk (a.set i v) := ⟨by rw [List.length_set]; exact g.l, fun x hx => by
  rcases List.mem_or_eq_of_mem_set hx with hx | hx
  · exact g.v x hx
  · rw [hx]; exact h⟩
theorem numF_ok {a : List Nat} (ga : AtOk a) : ∀ {N d e p o : Nat} {f : Fr} {t : Th}, f.okv a.length p o d → t.ok p o e → e ≤ 4 → 6 * d + e + 1 ≤ N → ∃ k, numF a N f t = some k ∧ k < 3
  | 0, d, e, p, o, f, t, _, _, _, h => by omega
  | N + 1, d, e, p, o, f, .num k, _, ht, _, _ => ⟨k, by unfold numF; rfl, by cases e <;> exact ht⟩
  | N + 1, d, 0, p, o, f, .sum x y, _, ht, _, _ => ht.elim
  | N + 1, d, e + 1, p, o, f, .sum x y, hf, ht, he, h => by
    obtain ⟨k1, e1, _⟩ := numF_ok ga (N := N) hf ht.1 (by omega) (by omega)
    obtain ⟨k2, e2, _⟩ := numF_ok ga (N := N) hf ht.2 (by omega) (by omega)
    refine ⟨(k1 + k2) % 3, ?_, Nat.mod_lt _ (by decide)⟩
    unfold numF
    rw [e1, e2]
    rfl
  | N + 1, d, 0, p, o, f, .cell x, _, ht, _, _ => ht.elim
  | N + 1, d, e + 1, p, o, f, .cell x, hf, ht, he, h => by
    obtain ⟨k1, e1, l1⟩ := numF_ok ga (N := N) (t := x) hf ht (by omega) (by omega)
    obtain ⟨v, e2, l2⟩ := ga.get (i := k1) (by have := ga.l; omega)
    refine ⟨v, ?_, l2⟩
    unfold numF
    rw [e1]
    exact e2
  | N + 1, d, e, p, o, .mk os hs, .own k, hf, ht, he, h => by
    unfold Fr.okv at hf
    have hk : k < o := by cases e <;> exact ht
    have hk' : k < os.length := by omega
    obtain ⟨v, e2, l2⟩ := ga.get (hf.2.1 _ (List.getElem_mem hk'))
    refine ⟨v, ?_, l2⟩
    unfold numF
    rw [List.getElem?_eq_getElem hk']
    exact e2
  | N + 1, d, e, p, o, .mk os hs, .par k, hf, ht, he, h => by
    unfold Fr.okv at hf
    have hk : k < p := by cases e <;> exact ht
    obtain ⟨g, eg, og⟩ := hf.2.2.get hk
    cases g with
    | road q ws =>
      unfold Hd.okv at og
      obtain ⟨v, e2, l2⟩ := ga.get og
      refine ⟨v, ?_, l2⟩
      unfold numF
      rw [eg]
      exact e2
    | want u f2 =>
      unfold Hd.okv at og
      obtain ⟨d', p', o', h1, h2, h3⟩ := og
      obtain ⟨v, e2, l2⟩ := numF_ok ga (N := N) h3 h2 (Nat.le_refl _) (by omega)
      refine ⟨v, ?_, l2⟩
      unfold numF
      rw [eg]
      exact e2
theorem roadF_ok {a : List Nat} (ga : AtOk a) : ∀ {N d e p o : Nat} {f : Fr} {t : Th}, f.okv a.length p o d → t.ok p o e → e ≤ 4 → 6 * d + e + 1 ≤ N → ∃ r, roadF a N f t = some r ∧ ∀ q ws, r = some (q, ws) → q < a.length
  | 0, d, e, p, o, f, t, _, _, _, h => by omega
  | N + 1, d, e, p, o, f, .num k, _, ht, _, _ => ⟨none, by unfold roadF; rfl, fun _ _ h => nomatch h⟩
  | N + 1, d, e, p, o, f, .sum x y, _, ht, _, _ => ⟨none, by unfold roadF; rfl, fun _ _ h => nomatch h⟩
  | N + 1, d, 0, p, o, f, .cell x, _, ht, _, _ => ht.elim
  | N + 1, d, e + 1, p, o, f, .cell x, hf, ht, he, h => by
    obtain ⟨k1, e1, l1⟩ := numF_ok ga (N := N) (t := x) hf ht (by omega) (by omega)
    refine ⟨some (k1, []), ?_, fun q ws h => ?_⟩
    · unfold roadF
      rw [e1]
      rfl
    · cases h
      have := ga.l
      omega
  | N + 1, d, e, p, o, .mk os hs, .own k, hf, ht, he, h => by
    unfold Fr.okv at hf
    have hk : k < o := by cases e <;> exact ht
    have hk' : k < os.length := by omega
    refine ⟨some (os[k], []), ?_, fun q ws h => ?_⟩
    · unfold roadF
      rw [List.getElem?_eq_getElem hk']
      rfl
    · cases h
      exact hf.2.1 _ (List.getElem_mem hk')
  | N + 1, d, e, p, o, .mk os hs, .par k, hf, ht, he, h => by
    unfold Fr.okv at hf
    have hk : k < p := by cases e <;> exact ht
    obtain ⟨g, eg, og⟩ := hf.2.2.get hk
    cases g with
    | road q ws =>
      unfold Hd.okv at og
      refine ⟨some (q, ws), ?_, fun q' ws' h => ?_⟩
      · unfold roadF
        rw [eg]
      · cases h
        exact og
    | want u f2 =>
      unfold Hd.okv at og
      obtain ⟨d', p', o', h1, h2, h3⟩ := og
      obtain ⟨r, e2, l2⟩ := roadF_ok ga (N := N) h3 h2 (Nat.le_refl _) (by omega)
      refine ⟨r, ?_, l2⟩
      unfold roadF
      rw [eg]
      exact e2
/-! ### handing -/
def LS.size (S : LS) : Nat := S.at_.length + S.said.length + S.many
structure HOk1 (S S' : LS) (d : Nat) (h : Hd) (b : Option Nat) : Prop where
  a : AtOk S'.at_
  l : S.at_.length ≤ S'.at_.length
  z : S'.size ≤ S.size + 2
  o : h.okv S'.at_.length d
  b : ∀ p, b = some p → p < S'.at_.length ∧ ∃ q ws, h = .road q ws ∧ q < S'.at_.length
theorem newF_ok {N d p o : Nat} {S : LS} {f : Fr} {t : Th} (ga : AtOk S.at_) (hf : f.okv S.at_.length p o d) (ht : t.ok p o 4) (hN : 6 * d + 5 ≤ N) : ∃ h b S', newF N S f t = some (h, b, S') ∧ HOk1 S S' (d + 1) h b := by
  obtain ⟨k, e, lk⟩ := numF_ok ga hf ht (Nat.le_refl _) (by omega : 6 * d + 4 + 1 ≤ N)
  refine ⟨.road S.at_.length [], none, _, by unfold newF; rw [e]; rfl, ⟨ga.app lk, ?_, ?_, ?_, fun _ h => nomatch h⟩⟩
  · show _ ≤ (S.at_ ++ [k]).length
    rw [List.length_append]
    omega
  · show (S.at_ ++ [k]).length + S.said.length + S.many ≤ S.at_.length + S.said.length + S.many + 2
    rw [List.length_append, List.length_singleton]
    omega
  · unfold Hd.okv
    show S.at_.length < (S.at_ ++ [k]).length
    rw [List.length_append, List.length_singleton]
    omega
theorem handF_ok {N d p o : Nat} {S : LS} {f : Fr} {t : Th} {way : Str} (ga : AtOk S.at_) (hf : f.okv S.at_.length p o d) (ht : t.ok p o 4) (hN : 6 * d + 5 ≤ N) : ∃ h b S', handF N S f t way = some (h, b, S') ∧ HOk1 S S' (d + 1) h b := by
  unfold handF
  by_cases c1 : way = "want"
  · rw [if_pos c1]
    refine ⟨_, _, _, rfl, ga, Nat.le_refl _, Nat.le_add_right _ _, ?_, fun _ h => nomatch h⟩
    unfold Hd.okv
    exact ⟨d, p, o, Nat.lt_succ_self _, ht, hf⟩
  rw [if_neg c1]
  by_cases c2 : way = "place" ∨ way = "back"
  · rw [if_pos c2]
    obtain ⟨r, er, hr⟩ := roadF_ok ga hf ht (Nat.le_refl _) (by omega : 6 * d + 4 + 1 ≤ N)
    rw [er]
    cases r with
    | none =>
      obtain ⟨h, b, S', e, o⟩ := newF_ok (S := S.mix (mixR S.at_ S.lent N f t)) ga hf ht hN
      exact ⟨h, b, S', e, o.a, o.l, o.z, o.o, o.b⟩
    | some pw =>
      obtain ⟨q, ws⟩ := pw
      have hq := hr q ws rfl
      by_cases c3 : way = "place"
      · refine ⟨.road q (ws ++ [S.many + 1]), none, (S.mix (mixR S.at_ S.lent N f t)).lend q ws, ?_, ga, Nat.le_refl _, ?_, ?_, fun _ h => nomatch h⟩
        · show (if way = "place" then _ else _) = _
          rw [if_pos c3]
        · show S.at_.length + S.said.length + (S.many + 1) ≤ S.at_.length + S.said.length + S.many + 2
          omega
        · unfold Hd.okv
          exact hq
      · obtain ⟨v, ev, lv⟩ := ga.get hq
        refine ⟨.road S.at_.length [], some q, { (S.mix (mixR S.at_ S.lent N f t)).lend q ws with at_ := S.at_ ++ [v] }, ?_, ga.app lv, ?_, ?_, ?_, fun p' h => ?_⟩
        · show (if way = "place" then _ else _) = _
          rw [if_neg c3, ev]
          rfl
        · show _ ≤ (S.at_ ++ [v]).length
          rw [List.length_append]
          omega
        · show (S.at_ ++ [v]).length + S.said.length + (S.many + 1) ≤ S.at_.length + S.said.length + S.many + 2
          rw [List.length_append, List.length_singleton]
          omega
        · unfold Hd.okv
          show S.at_.length < (S.at_ ++ [v]).length
          rw [List.length_append, List.length_singleton]
          omega
        · cases h
          show q < (S.at_ ++ [v]).length ∧ ∃ q2 ws2, Hd.road S.at_.length [] = .road q2 ws2 ∧ q2 < (S.at_ ++ [v]).length
          rw [List.length_append, List.length_singleton]
          exact ⟨by omega, _, _, rfl, by omega⟩
  · rw [if_neg c2]
    exact newF_ok ga hf ht hN
/-- several -/
def BOk (L : Nat) (hs : List (Hd × Option Nat)) : Prop := ∀ h p, (h, some p) ∈ hs → p < L ∧ ∃ q ws, h = Hd.road q ws ∧ q < L
theorem handsF_ok {N d p o : Nat} {f : Fr} (hN : 6 * d + 5 ≤ N) : ∀ {ts : List Th} {ws : List Str} {S : LS}, AtOk S.at_ → f.okv S.at_.length p o d → (∀ t ∈ ts, t.ok p o 4) → ws.length = ts.length →
    ∃ hs S', handsF N f S ts ws = some (hs, S') ∧ AtOk S'.at_ ∧ S.at_.length ≤ S'.at_.length ∧ S'.size ≤ S.size + 2 * ts.length ∧ (Hds.of hs).okv S'.at_.length ts.length (d + 1) ∧ BOk S'.at_.length hs
  | [], ws, S, ga, hf, ht, hl => ⟨[], S, by unfold handsF; rfl, ga, Nat.le_refl _, Nat.le_refl _, by unfold Hds.of Hds.okv; rfl, fun h p hm => by cases hm⟩
  | t :: ts, [], S, ga, hf, ht, hl => by cases hl
  | t :: ts, w :: ws, S, ga, hf, ht, hl => by
    obtain ⟨h, b, S1, e1, ⟨a1, l1, z1, o1, b1⟩⟩ := handF_ok (way := w) ga hf (ht t (List.mem_cons_self)) hN
    obtain ⟨hs, S2, e2, a2, l2, z2, o2, b2⟩ := handsF_ok hN (ts := ts) (ws := ws) (S := S1) a1 (hf.mono l1 (Nat.le_refl _)) (fun u hu => ht u (List.mem_cons_of_mem _ hu)) (by simpa using hl)
    refine ⟨(h, b) :: hs, S2, ?_, a2, Nat.le_trans l1 l2, ?_, ?_, fun h' p' hm => ?_⟩
    · unfold handsF
      rw [e1]
      show ((handsF N f S1 ts ws).map fun (r, S2) => ((h, b) :: r, S2)) = _
      rw [e2]
      rfl
    · rw [List.length_cons]
      omega
    · unfold Hds.of Hds.okv
      exact ⟨ts.length, rfl, o1.mono l2 (Nat.le_refl _), o2⟩
    · rcases List.mem_cons.mp hm with hm | hm
      · cases hm
        obtain ⟨q1, q, ws', q2, q3⟩ := b1 p' rfl
        exact ⟨by omega, q, ws', q2, by omega⟩
      · exact b2 h' p' hm
theorem backsF_ok : ∀ {hs : List (Hd × Option Nat)} {a : List Nat}, AtOk a → BOk a.length hs → ∃ a', backsF a hs = some a' ∧ AtOk a' ∧ a'.length = a.length
  | [], a, g, _ => ⟨a, by unfold backsF; rfl, g, rfl⟩
  | (h, none) :: r, a, g, b => by
    obtain ⟨a', e, g', l⟩ := backsF_ok (hs := r) g fun h' p hm => b h' p (List.mem_cons_of_mem _ hm)
    exact ⟨a', by unfold backsF; exact e, g', l⟩
  | (h, some p) :: r, a, g, b => by
    obtain ⟨hp, q, ws, rfl, hq⟩ := b h p List.mem_cons_self
    obtain ⟨v, ev, lv⟩ := g.get hq
    obtain ⟨a', e, g', l⟩ := backsF_ok (hs := r) (a := a.set p v) (g.set lv) fun h' p' hm => by
      rw [List.length_set]
      exact b h' p' (List.mem_cons_of_mem _ hm)
    refine ⟨a', ?_, g', by rw [l, List.length_set]⟩
    unfold backsF
    rw [if_pos hp, ev]
    exact e
/-! ### steps -/
def grow : Nat → Nat
  | 0 => 0
  | j + 1 => 80 + 4 * (6 + grow j)
theorem grow_mono : ∀ {i j : Nat}, i ≤ j → grow i ≤ grow j
  | 0, j, _ => Nat.zero_le _
  | i + 1, 0, h => by omega
  | i + 1, j + 1, h => by
    unfold grow
    have := grow_mono (i := i) (j := j) (by omega)
    omega
structure SOk (S S' : LS) (z : Nat) : Prop where
  a : AtOk S'.at_
  l : S.at_.length ≤ S'.at_.length
  z : S'.size ≤ S.size + z
theorem iter_ok {sh : List (Nat × Nat)} {i e c : Nat} {g : LS → St → Option LS} {p o d : Nat} {f : Fr}
    (hg : ∀ (S : LS) (st : St), AtOk S.at_ → f.okv S.at_.length p o d → St.ok sh i e st → ∃ S', g S st = some S' ∧ SOk S S' (st.many + st.calls * c)) :
    ∀ {b : Sts} {S : LS}, AtOk S.at_ → f.okv S.at_.length p o d → Sts.ok sh i e b → ∃ S', iter g b S = some S' ∧ SOk S S' (b.many + b.calls * c)
  | .nil, S, ga, hf, _ => ⟨S, by unfold iter; rfl, ga, Nat.le_refl _, Nat.le_add_right _ _⟩
  | .cons s r, S, ga, hf, hb => by
    unfold Sts.ok at hb
    obtain ⟨S1, e1, o1⟩ := hg S s ga hf hb.1
    obtain ⟨S2, e2, o2⟩ := iter_ok hg (b := r) o1.a (hf.mono o1.l (Nat.le_refl _)) hb.2
    refine ⟨S2, by unfold iter; rw [e1]; exact e2, o2.a, Nat.le_trans o1.l o2.l, ?_⟩
    have h1 := o1.z
    have h2 := o2.z
    have hm : (Sts.cons s r).many = s.many + r.many := rfl
    have hc : (Sts.cons s r).calls = s.calls + r.calls := rfl
    rw [hm, hc, Nat.add_mul]
    omega
theorem stepF_ok {P : List Wk} {W : List (List Str)} {N steps : Nat} (gp : Good P steps) (hs : steps ≤ 70) (hW : ∀ (i : Nat) (w : Wk), P[i]? = some w → ∃ ws, W[i]? = some ws ∧ ws.length = w.params) (hN : 30 ≤ N) :
    ∀ {n i e d : Nat} {f : Fr} {S : LS} {st : St}, i < P.length → d ≤ i → AtOk S.at_ → f.okv S.at_.length ((shapes P).getD i (0, 0)).1 ((shapes P).getD i (0, 0)).2 d → St.ok (shapes P) i e st → e + 1 + 4 * (P.length - 1 - i) ≤ n →
      ∃ S', stepF P W N n f S st = some S' ∧ SOk S S' (st.many + st.calls * (6 + grow (P.length - 1 - i)))
  | 0, i, e, d, f, S, st, _, _, _, _, _, h => by omega
  | n + 1, i, e, d, f, S, .say t, hi, hd, ga, hf, ht, h => by
    have ht' : t.ok ((shapes P).getD i (0, 0)).1 ((shapes P).getD i (0, 0)).2 4 := by cases e <;> (unfold St.ok at ht; exact ht)
    have := gp.few
    obtain ⟨k, ek, lk⟩ := numF_ok ga hf ht' (Nat.le_refl _) (by omega : 6 * d + 4 + 1 ≤ N)
    refine ⟨{ S.mix (mixN S.at_ S.lent N f t) with said := S.said ++ [k] }, by unfold stepF; rw [ek]; rfl, ga, Nat.le_refl _, ?_⟩
    show S.at_.length + (S.said ++ [k]).length + S.many ≤ S.at_.length + S.said.length + S.many + _
    have hm : (St.say t).many = 1 := rfl
    rw [List.length_append, List.length_singleton, hm]
    omega
  | n + 1, i, e, d, f, S, .set q t, hi, hd, ga, hf, ht, h => by
    have ht' : q.isPlace = true ∧ q.ok ((shapes P).getD i (0, 0)).1 ((shapes P).getD i (0, 0)).2 4 ∧ t.ok ((shapes P).getD i (0, 0)).1 ((shapes P).getD i (0, 0)).2 4 := by cases e <;> (unfold St.ok at ht; exact ht)
    have := gp.few
    obtain ⟨k, ek, lk⟩ := numF_ok ga hf ht'.2.2 (Nat.le_refl _) (by omega : 6 * d + 4 + 1 ≤ N)
    obtain ⟨r, er, hr⟩ := roadF_ok ga hf ht'.2.1 (Nat.le_refl _) (by omega : 6 * d + 4 + 1 ≤ N)
    cases r with
    | none => exact ⟨(S.mix (mixN S.at_ S.lent N f t)).mix (mixR S.at_ S.lent N f q), by unfold stepF; rw [ek, er]; rfl, ga, Nat.le_refl _, Nat.le_add_right _ _⟩
    | some pw =>
      obtain ⟨x, ws⟩ := pw
      have hx := hr x ws rfl
      refine ⟨{ ((S.mix (mixN S.at_ S.lent N f t)).mix (mixR S.at_ S.lent N f q)).mix (meet S.lent x ws) with at_ := S.at_.set x k }, ?_, ga.set lk, ?_, ?_⟩
      · unfold stepF
        rw [ek, er]
        show (if x < S.at_.length then _ else _) = _
        rw [if_pos hx]
      · show _ ≤ (S.at_.set x k).length
        rw [List.length_set]
        exact Nat.le_refl _
      · show (S.at_.set x k).length + S.said.length + S.many ≤ S.at_.length + S.said.length + S.many + _
        rw [List.length_set]
        omega
  | n + 1, i, 0, d, f, S, .ite t a b, hi, hd, ga, hf, ht, h => by unfold St.ok at ht; exact ht.elim
  | n + 1, i, e + 1, d, f, S, .ite t a b, hi, hd, ga, hf, ht, h => by
    unfold St.ok at ht
    have := gp.few
    obtain ⟨k, ek, lk⟩ := numF_ok ga hf ht.1 (Nat.le_refl _) (by omega : 6 * d + 4 + 1 ≤ N)
    have hb : Sts.ok (shapes P) i e (if k = 0 then b else a) := by
      by_cases c : k = 0
      · rw [if_pos c]; exact ht.2.2
      · rw [if_neg c]; exact ht.2.1
    obtain ⟨S', e1, o1⟩ := iter_ok (sh := shapes P) (i := i) (e := e) (c := 6 + grow (P.length - 1 - i)) (g := stepF P W N n f) (f := f) (fun S st ga' hf' hst => stepF_ok gp hs hW hN hi hd ga' hf' hst (by omega)) (b := if k = 0 then b else a) (S := S.mix (mixN S.at_ S.lent N f t)) ga hf hb
    refine ⟨S', by unfold stepF; rw [ek]; exact e1, o1.a, o1.l, Nat.le_trans o1.z ?_⟩
    show S.size + _ ≤ S.size + _
    have hm : (St.ite t a b).many = 1 + a.many + b.many := rfl
    have hc : (St.ite t a b).calls = a.calls + b.calls := rfl
    rw [hm, hc, Nat.add_mul]
    by_cases c : k = 0
    · rw [if_pos c]; omega
    · rw [if_neg c]; omega
  | n + 1, i, e, d, f, S, .call w ts, hi, hd, ga, hf, ht, h => by
    have ht' : i < w ∧ w < (shapes P).length ∧ ts.length = ((shapes P).getD w (0, 0)).1 ∧ ∀ t ∈ ts, t.ok ((shapes P).getD i (0, 0)).1 ((shapes P).getD i (0, 0)).2 4 := by cases e <;> (unfold St.ok at ht; exact ht)
    obtain ⟨h1, h2, h3, h4⟩ := ht'
    have few := gp.few
    have hl : (shapes P).length = P.length := List.length_map _
    have hw : w < P.length := by omega
    have ew : P[w]? = some P[w] := List.getElem?_eq_getElem hw
    have esh : (shapes P).getD w (0, 0) = (P[w].params, P[w].owns) := by
      rw [List.getD_eq_getElem?_getD]
      unfold shapes
      rw [List.getElem?_map, ew]
      rfl
    obtain ⟨ws, eW, lW⟩ := hW w _ ew
    have lts : ts.length = P[w].params := by rw [h3, esh]
    have p3 := gp.params _ (List.getElem_mem hw)
    have o10 := gp.owns _ (List.getElem_mem hw)
    obtain ⟨hs', S1, e1, a1, l1, z1, o1, b1⟩ := handsF_ok (N := N) (d := d) (f := f) (by omega) (ts := ts) (ws := ws) ga hf h4 (by omega)
    have aE : AtOk (S1.enter P[w].owns).at_ := ⟨by show 3 ≤ (S1.at_ ++ _).length; rw [List.length_append]; have := a1.l; omega, fun x hx => by
      rcases List.mem_append.mp hx with hx | hx
      · exact a1.v x hx
      · have := (List.mem_replicate.mp hx).2
        omega⟩
    have lE : (S1.enter P[w].owns).at_.length = S1.at_.length + P[w].owns := by
      show (S1.at_ ++ List.replicate _ 0).length = _
      rw [List.length_append, List.length_replicate]
    have fE : (Fr.mk (ownsOf S1 P[w].owns) (Hds.of hs')).okv (S1.enter P[w].owns).at_.length ((shapes P).getD w (0, 0)).1 ((shapes P).getD w (0, 0)).2 (d + 1) := by
      unfold Fr.okv
      rw [esh, lE]
      refine ⟨by unfold ownsOf; rw [List.length_range'], fun x hx => ?_, ?_⟩
      · unfold ownsOf at hx
        have := (List.mem_range'_1.mp hx).2
        omega
      · rw [← lts]
        exact o1.mono (by omega) (Nat.le_refl _)
    have bok := gp.body w _ ew
    obtain ⟨S2, e2, o2⟩ := iter_ok (sh := shapes P) (i := w) (e := 2) (c := 6 + grow (P.length - 1 - w)) (g := stepF P W N n (.mk (ownsOf S1 P[w].owns) (Hds.of hs'))) (fun S st ga' hf' hst => stepF_ok gp hs hW hN hw (by omega) ga' hf' hst (by omega)) (b := P[w].body) aE fE bok
    obtain ⟨a', e3, a3, l3⟩ := backsF_ok (hs := hs') (a := S2.at_) o2.a fun h' p' hm => by
      obtain ⟨q1, q, ws', q2, q3⟩ := b1 h' p' hm
      have := o2.l
      rw [lE] at this
      exact ⟨by omega, q, ws', q2, by omega⟩
    refine ⟨{ S2 with at_ := a', lent := S2.lent.take S.lent.length }, ?_, a3, ?_, ?_⟩
    · unfold stepF
      rw [eW]
      show (if ws.length = ts.length then _ else _) = _
      rw [if_pos (by omega), e1]
      show (P[w]?.bind _) = _
      rw [ew]
      show ((iter (stepF P W N n (.mk (ownsOf S1 P[w].owns) (Hds.of hs'))) P[w].body (S1.enter P[w].owns)).bind _) = _
      rw [e2]
      show ((backsF S2.at_ hs').map _) = _
      rw [e3]
      rfl
    · show _ ≤ a'.length
      have := o2.l
      rw [lE] at this
      omega
    · show a'.length + S2.said.length + S2.many ≤ S.size + _
      have z2 := o2.z
      have hsz : S2.size = S2.at_.length + S2.said.length + S2.many := rfl
      have hse : (S1.enter P[w].owns).size = S1.size + P[w].owns := by
        show (S1.enter P[w].owns).at_.length + S1.said.length + S1.many = S1.at_.length + S1.said.length + S1.many + _
        rw [lE]
        omega
      have hm : (St.call w ts).many = 1 := rfl
      have hc : (St.call w ts).calls = 1 := rfl
      have mb := gp.many _ (List.getElem_mem hw)
      have cb := gp.calls _ (List.getElem_mem hw)
      have hcb : P[w].body.calls * (6 + grow (P.length - 1 - w)) ≤ 4 * (6 + grow (P.length - 1 - w)) := Nat.mul_le_mul_right _ cb
      have hg : grow (P.length - 1 - w + 1) ≤ grow (P.length - 1 - i) := grow_mono (by omega)
      have hgd : grow (P.length - 1 - w + 1) = 80 + 4 * (6 + grow (P.length - 1 - w)) := rfl
      rw [hm, hc]
      omega
theorem ranF_ok {P : List Wk} {W : List (List Str)} {steps : Nat} (gp : Good P steps) (hs : steps ≤ 70) (hW : ∀ (i : Nat) (w : Wk), P[i]? = some w → ∃ ws, W[i]? = some ws ∧ ws.length = w.params) {cells : List Nat} (hc : cells.length = 3) (hv : ∀ x ∈ cells, x < 3) :
    ∃ S, ranF P W 30 15 cells = some S ∧ S.at_.length ≤ 90000 ∧ S.said.length ≤ 90000 ∧ S.many ≤ 90000 ∧ AtOk S.at_ := by
  have one := gp.one
  have few := gp.few
  have e0 : P[0]? = some P[0] := List.getElem?_eq_getElem (by omega)
  have f0 := gp.first _ e0
  have o10 := gp.owns _ (List.getElem_mem (by omega : 0 < P.length))
  have esh : (shapes P).getD 0 (0, 0) = (P[0].params, P[0].owns) := by
    rw [List.getD_eq_getElem?_getD]
    unfold shapes
    rw [List.getElem?_map, e0]
    rfl
  have lE : ((⟨cells, [], [], 0, false⟩ : LS).enter P[0].owns).at_.length = 3 + P[0].owns := by
    show (cells ++ List.replicate _ 0).length = _
    rw [List.length_append, List.length_replicate, hc]
  have aE : AtOk ((⟨cells, [], [], 0, false⟩ : LS).enter P[0].owns).at_ := ⟨by omega, fun x hx => by
    rcases List.mem_append.mp hx with hx | hx
    · exact hv x hx
    · have := (List.mem_replicate.mp hx).2
      omega⟩
  have fE : (Fr.mk (ownsOf ⟨cells, [], [], 0, false⟩ P[0].owns) .nil).okv ((⟨cells, [], [], 0, false⟩ : LS).enter P[0].owns).at_.length ((shapes P).getD 0 (0, 0)).1 ((shapes P).getD 0 (0, 0)).2 0 := by
    unfold Fr.okv
    rw [esh, lE]
    refine ⟨by unfold ownsOf; rw [List.length_range'], fun x hx => ?_, by unfold Hds.okv; exact f0⟩
    unfold ownsOf at hx
    have := (List.mem_range'_1.mp hx).2
    have e : (⟨cells, [], [], 0, false⟩ : LS).at_.length = 3 := hc
    omega
  obtain ⟨S2, e2, o2⟩ := iter_ok (sh := shapes P) (i := 0) (e := 2) (c := 6 + grow (P.length - 1 - 0)) (g := stepF P W 30 15 (.mk (ownsOf ⟨cells, [], [], 0, false⟩ P[0].owns) .nil)) (fun S st ga' hf' hst => stepF_ok gp hs hW (Nat.le_refl _) (by omega) (Nat.le_refl _) ga' hf' hst (by omega)) (b := P[0].body) aE fE (gp.body 0 _ e0)
  have mb := gp.many _ (List.getElem_mem (by omega : 0 < P.length))
  have cb := gp.calls _ (List.getElem_mem (by omega : 0 < P.length))
  have hcb : P[0].body.calls * (6 + grow (P.length - 1 - 0)) ≤ 4 * (6 + grow (P.length - 1 - 0)) := Nat.mul_le_mul_right _ cb
  have hg : grow (P.length - 1 - 0) ≤ grow 3 := grow_mono (by omega)
  have h3 : grow 3 = 2184 := by decide
  have z2 := o2.z
  have hse : ((⟨cells, [], [], 0, false⟩ : LS).enter P[0].owns).size = 3 + P[0].owns := by
    show ((⟨cells, [], [], 0, false⟩ : LS).enter P[0].owns).at_.length + 0 + 0 = _
    rw [lE]
    rfl
  have hsz : S2.size = S2.at_.length + S2.said.length + S2.many := rfl
  exact ⟨S2, by unfold ranF doesF; rw [e0]; exact e2, by omega, by omega, by omega, o2.a⟩
end Hw
/-! The runs, in Lean, more: roads and numbers, what is lent, numbers below 3. -/
namespace Hw
open PySem PySem.Spec PyProof.Rows L2
/-- what a place is lent by -/
def lentOf (lent : List (Nat × Nat)) (p : Nat) : List Nat := lent.filterMap fun q => if q.1 = p then some q.2 else none
theorem lentOf_app {a b : List (Nat × Nat)} {p : Nat} : lentOf (a ++ b) p = lentOf a p ++ lentOf b p := List.filterMap_append
theorem meet_lentOf {lent : List (Nat × Nat)} {p : Nat} {ws : List Nat} : meet lent p ws = (lentOf lent p).any fun q => !decide (q ∈ ws) := by
  induction lent with
  | nil => rfl
  | cons q r ih =>
    have e : meet (q :: r) p ws = ((decide (q.1 = p) && !decide (q.2 ∈ ws)) || meet r p ws) := rfl
    rw [e, ih]
    unfold lentOf
    rw [List.filterMap_cons]
    by_cases c : q.1 = p
    · rw [if_pos c, decide_eq_true c, Bool.true_and]
      rfl
    · rw [if_neg c, decide_eq_false c, Bool.false_and, Bool.false_or]
/-- the number of a place that was found -/
theorem numF_road {at_ : List Nat} : ∀ {n : Nat} {f : Fr} {t : Th} {p : Nat} {ws : List Nat}, roadF at_ n f t = some (some (p, ws)) → numF at_ n f t = at_[p]?
  | 0, f, t, p, ws, e => by unfold roadF at e; cases e
  | n + 1, f, .num _, p, ws, e => by unfold roadF at e; cases e
  | n + 1, f, .sum _ _, p, ws, e => by unfold roadF at e; cases e
  | n + 1, f, .cell u, p, ws, e => by
    unfold roadF at e
    unfold numF
    cases q : numF at_ n f u with
    | none => rw [q] at e; cases e
    | some x => rw [q] at e; cases e; rfl
  | n + 1, .mk os hs, .own k, p, ws, e => by
    unfold roadF at e
    unfold numF
    cases q : os[k]? with
    | none => rw [q] at e; cases e
    | some x => rw [q] at e; cases e; rfl
  | n + 1, .mk os hs, .par k, p, ws, e => by
    unfold roadF at e
    unfold numF
    cases q : hs.get k with
    | none => rw [q] at e; cases e
    | some d =>
      rw [q] at e
      cases d with
      | road p2 ws2 => cases e; rfl
      | want u f2 => exact numF_road e
/-- what is met where the number of a place is asked -/
theorem mixN_road {at_ : List Nat} {lent : List (Nat × Nat)} : ∀ {n : Nat} {f : Fr} {t : Th} {p : Nat} {ws : List Nat}, roadF at_ n f t = some (some (p, ws)) → mixN at_ lent n f t = (mixR at_ lent n f t || meet lent p ws)
  | 0, f, t, p, ws, e => by unfold roadF at e; cases e
  | n + 1, f, .num _, p, ws, e => by unfold roadF at e; cases e
  | n + 1, f, .sum _ _, p, ws, e => by unfold roadF at e; cases e
  | n + 1, f, .cell u, p, ws, e => by
    unfold roadF at e
    unfold mixN mixR
    cases q : numF at_ n f u with
    | none => rw [q] at e; cases e
    | some x => rw [q] at e; cases e; rfl
  | n + 1, .mk os hs, .own k, p, ws, e => by
    unfold roadF at e
    unfold mixN mixR
    cases q : os[k]? with
    | none => rw [q] at e; cases e
    | some x =>
      rw [q] at e
      cases e
      rw [List.getD_eq_getElem?_getD, q, Bool.false_or]
      rfl
  | n + 1, .mk os hs, .par k, p, ws, e => by
    unfold roadF at e
    unfold mixN mixR
    cases q : hs.get k with
    | none => rw [q] at e; cases e
    | some d =>
      rw [q] at e
      cases d with
      | road p2 ws2 => cases e; rfl
      | want u f2 => exact mixN_road e
/-! numbers below 3 -/
def Th.lit : Th → Prop
  | .num k => k < 3
  | .sum a b => a.lit ∧ b.lit
  | .cell t => t.lit
  | .own _ => True
  | .par _ => True
mutual
def Fr.lit : Fr → Prop
  | .mk _ hs => hs.lit
def Hd.lit : Hd → Prop
  | .road _ _ => True
  | .want t f => t.lit ∧ f.lit
def Hds.lit : Hds → Prop
  | .nil => True
  | .cons h r => h.lit ∧ r.lit
end
theorem Hds.lit.get : ∀ {hs : Hds} {i : Nat} {d : Hd}, hs.lit → hs.get i = some d → d.lit
  | .nil, _, _, _, e => by unfold Hds.get at e; cases e
  | .cons d r, 0, d', h, e => by
    unfold Hds.lit at h
    unfold Hds.get at e
    cases e
    exact h.1
  | .cons d r, i + 1, d', h, e => by
    unfold Hds.lit at h
    unfold Hds.get at e
    exact Hds.lit.get h.2 e
def Low (a : List Nat) : Prop := ∀ x ∈ a, x < 3
theorem Low.get {a : List Nat} {i x : Nat} (l : Low a) (e : a[i]? = some x) : x < 3 := l x (List.mem_of_getElem? e)
theorem Low.app {a b : List Nat} (l : Low a) (k : Low b) : Low (a ++ b) := fun x hx => (List.mem_append.mp hx).elim (l x) (k x)
theorem Low.one {v : Nat} (h : v < 3) : Low [v] := fun x hx => by cases List.mem_singleton.mp hx; exact h
theorem Low.set {a : List Nat} {i v : Nat} (l : Low a) (h : v < 3) : Low (a.set i v) := fun x hx => by
  rcases List.mem_or_eq_of_mem_set hx with hx | hx
  · exact l x hx
  · rw [hx]; exact h
theorem numF_low {at_ : List Nat} (la : Low at_) : ∀ {n : Nat} {f : Fr} {t : Th} {x : Nat}, f.lit → t.lit → numF at_ n f t = some x → x < 3
  | 0, f, t, x, _, _, e => by unfold numF at e; cases e
  | n + 1, f, .num k, x, _, ht, e => by
    unfold numF at e
    cases e
    unfold Th.lit at ht
    exact ht
  | n + 1, f, .sum a b, x, hf, ht, e => by
    unfold numF at e
    cases q : numF at_ n f a with
    | none => rw [q] at e; cases e
    | some u =>
      rw [q] at e
      have e2 : ((numF at_ n f b).bind fun y => some ((u + y) % 3)) = some x := e
      cases q2 : numF at_ n f b with
      | none => rw [q2] at e2; cases e2
      | some v =>
        rw [q2] at e2
        cases e2
        omega
  | n + 1, f, .cell u, x, hf, ht, e => by
    unfold numF at e
    cases q : numF at_ n f u with
    | none => rw [q] at e; cases e
    | some y => rw [q] at e; exact la.get (show at_[y]? = some x from e)
  | n + 1, .mk os hs, .own k, x, hf, ht, e => by
    unfold numF at e
    cases q : os[k]? with
    | none => rw [q] at e; cases e
    | some y => rw [q] at e; exact la.get (show at_[y]? = some x from e)
  | n + 1, .mk os hs, .par k, x, hf, ht, e => by
    unfold numF at e
    unfold Fr.lit at hf
    cases q : hs.get k with
    | none => rw [q] at e; cases e
    | some d =>
      have hd := hf.get q
      rw [q] at e
      cases d with
      | road p2 ws2 => exact la.get (show at_[p2]? = some x from e)
      | want u f2 =>
        unfold Hd.lit at hd
        exact numF_low la hd.2 hd.1 e
theorem handF_low {N : Nat} {S : LS} {f : Fr} {t : Th} {way : Str} {h : Hd} {b : Option Nat} {S' : LS} (la : Low S.at_) (hf : f.lit) (ht : t.lit) (e : handF N S f t way = some (h, b, S')) : Low S'.at_ ∧ h.lit := by
  have new : ∀ (T : LS) (h : Hd) (b : Option Nat) (S' : LS), T.at_ = S.at_ → newF N T f t = some (h, b, S') → Low S'.at_ ∧ h.lit := fun T h b S' eT e => by
    unfold newF at e
    rw [eT] at e
    cases q : numF S.at_ N f t with
    | none => rw [q] at e; cases e
    | some v =>
      rw [q] at e
      cases e
      refine ⟨?_, by unfold Hd.lit; trivial⟩
      exact Low.app la (Low.one (numF_low la hf ht q))
  unfold handF at e
  by_cases c1 : way = "want"
  · rw [if_pos c1] at e
    cases e
    exact ⟨la, by unfold Hd.lit; exact ⟨ht, hf⟩⟩
  rw [if_neg c1] at e
  by_cases c2 : way = "place" ∨ way = "back"
  · rw [if_pos c2] at e
    cases q : roadF S.at_ N f t with
    | none => rw [q] at e; cases e
    | some r =>
      rw [q] at e
      cases r with
      | none => exact new (S.mix (mixR S.at_ S.lent N f t)) h b S' rfl e
      | some pw =>
        obtain ⟨p, ws⟩ := pw
        have e' : (if way = "place" then some (Hd.road p (ws ++ [S.many + 1]), (none : Option Nat), (S.mix (mixR S.at_ S.lent N f t)).lend p ws) else (S.at_[p]?.map fun v => (Hd.road S.at_.length [], some p, { (S.mix (mixR S.at_ S.lent N f t)).lend p ws with at_ := S.at_ ++ [v] }))) = some (h, b, S') := e
        by_cases c3 : way = "place"
        · rw [if_pos c3] at e'
          cases e'
          exact ⟨la, by unfold Hd.lit; trivial⟩
        · rw [if_neg c3] at e'
          cases q2 : S.at_[p]? with
          | none => rw [q2] at e'; cases e'
          | some v =>
            rw [q2] at e'
            cases e'
            exact ⟨Low.app la (Low.one (la.get q2)), by unfold Hd.lit; trivial⟩
  · rw [if_neg c2] at e
    exact new S h b S' rfl e
/-! what is lent at the end is what was lent at first -/
theorem iter_lent {g : LS → St → Option LS} (hg : ∀ S s S', g S s = some S' → S'.lent = S.lent) : ∀ {b : Sts} {S S' : LS}, iter g b S = some S' → S'.lent = S.lent
  | .nil, S, S', e => by unfold iter at e; cases e; rfl
  | .cons s r, S, S', e => by
    unfold iter at e
    cases q : g S s with
    | none => rw [q] at e; cases e
    | some S1 =>
      rw [q] at e
      exact (iter_lent hg (show iter g r S1 = some S' from e)).trans (hg S s S1 q)
/-- the place that is lent where a thing is handed -/
def lentP (N : Nat) (S : LS) (f : Fr) (t : Th) (way : Str) : Option Nat :=
  if way = "want" then none else if way = "place" ∨ way = "back" then (match roadF S.at_ N f t with | some (some (p, _)) => some p | _ => none) else none
def lentB (m : Nat) : Option Nat → List (Nat × Nat)
  | none => []
  | some p => [(p, m + 1)]
def lentM (m : Nat) : Option Nat → Nat
  | none => m
  | some _ => m + 1
theorem handF_lent {N : Nat} {S : LS} {f : Fr} {t : Th} {way : Str} {h : Hd} {b : Option Nat} {S' : LS} (e : handF N S f t way = some (h, b, S')) : S'.lent = S.lent ++ lentB S.many (lentP N S f t way) ∧ S'.many = lentM S.many (lentP N S f t way) ∧ (b = if way = "back" then lentP N S f t way else none) := by
  have new : ∀ (T : LS) (h : Hd) (b : Option Nat) (S' : LS), T.lent = S.lent → T.many = S.many → newF N T f t = some (h, b, S') → S'.lent = S.lent ∧ S'.many = S.many ∧ b = none := fun T h b S' e1 e2 e => by
    unfold newF at e
    cases q : numF T.at_ N f t with
    | none => rw [q] at e; cases e
    | some v => rw [q] at e; cases e; exact ⟨e1, e2, rfl⟩
  unfold handF at e
  unfold lentP
  by_cases c1 : way = "want"
  · rw [if_pos c1] at e
    rw [if_pos c1]
    cases e
    rw [if_neg (by rw [c1]; decide +kernel)]
    exact ⟨(List.append_nil _).symm, rfl, rfl⟩
  rw [if_neg c1] at e
  rw [if_neg c1]
  by_cases c2 : way = "place" ∨ way = "back"
  · rw [if_pos c2] at e
    rw [if_pos c2]
    cases q : roadF S.at_ N f t with
    | none => rw [q] at e; cases e
    | some r =>
      rw [q] at e
      cases r with
      | none =>
        obtain ⟨h1, h2, h3⟩ := new (S.mix (mixR S.at_ S.lent N f t)) h b S' rfl rfl e
        refine ⟨by rw [h1]; exact (List.append_nil _).symm, h2, ?_⟩
        rw [h3]
        split <;> rfl
      | some pw =>
        obtain ⟨p, ws⟩ := pw
        have e' : (if way = "place" then some (Hd.road p (ws ++ [S.many + 1]), (none : Option Nat), (S.mix (mixR S.at_ S.lent N f t)).lend p ws) else (S.at_[p]?.map fun v => (Hd.road S.at_.length [], some p, { (S.mix (mixR S.at_ S.lent N f t)).lend p ws with at_ := S.at_ ++ [v] }))) = some (h, b, S') := e
        by_cases c3 : way = "place"
        · rw [if_pos c3] at e'
          cases e'
          rw [if_neg (by rw [c3]; decide +kernel)]
          exact ⟨rfl, rfl, rfl⟩
        · rw [if_neg c3] at e'
          have c4 : way = "back" := c2.resolve_left c3
          cases q2 : S.at_[p]? with
          | none => rw [q2] at e'; cases e'
          | some v =>
            rw [q2] at e'
            cases e'
            rw [if_pos c4]
            exact ⟨rfl, rfl, rfl⟩
  · rw [if_neg c2] at e
    rw [if_neg c2]
    obtain ⟨h1, h2, h3⟩ := new S h b S' rfl rfl e
    refine ⟨by rw [h1]; exact (List.append_nil _).symm, h2, ?_⟩
    rw [h3]
    split <;> rfl
theorem handsF_lent {N : Nat} {f : Fr} : ∀ {ts : List Th} {S : LS} {ws : List Str} {hs : List (Hd × Option Nat)} {S' : LS}, handsF N f S ts ws = some (hs, S') → ∃ L, S'.lent = S.lent ++ L
  | [], S, ws, hs, S', e => by
    unfold handsF at e
    cases e
    exact ⟨[], (List.append_nil _).symm⟩
  | t :: ts, S, [], hs, S', e => by unfold handsF at e; cases e
  | t :: ts, S, w :: ws, hs, S', e => by
    unfold handsF at e
    cases q : handF N S f t w with
    | none => rw [q] at e; cases e
    | some r =>
      obtain ⟨d, b, S1⟩ := r
      rw [q] at e
      have e2 : ((handsF N f S1 ts ws).map fun (r, S2) => ((d, b) :: r, S2)) = some (hs, S') := e
      cases q2 : handsF N f S1 ts ws with
      | none => rw [q2] at e2; cases e2
      | some r2 =>
        obtain ⟨hs2, S2⟩ := r2
        rw [q2] at e2
        cases e2
        obtain ⟨L, h⟩ := handsF_lent q2
        exact ⟨_, by rw [h, (handF_lent q).1, List.append_assoc]⟩
theorem stepF_lent {P : List Wk} {W : List (List Str)} {N : Nat} : ∀ {n : Nat} {f : Fr} {S : LS} {st : St} {S' : LS}, stepF P W N n f S st = some S' → S'.lent = S.lent
  | 0, f, S, st, S', e => by unfold stepF at e; cases e
  | n + 1, f, S, .say t, S', e => by
    unfold stepF at e
    cases q : numF S.at_ N f t with
    | none => rw [q] at e; cases e
    | some v => rw [q] at e; cases e; rfl
  | n + 1, f, S, .ite t a b, S', e => by
    unfold stepF at e
    cases q : numF S.at_ N f t with
    | none => rw [q] at e; cases e
    | some v =>
      rw [q] at e
      have e' : iter (stepF P W N n f) (if v = 0 then b else a) (S.mix (mixN S.at_ S.lent N f t)) = some S' := e
      have e2 := iter_lent (g := stepF P W N n f) (fun S s S' h => stepF_lent h) e'
      exact e2
  | n + 1, f, S, .set p t, S', e => by
    unfold stepF at e
    cases q : numF S.at_ N f t with
    | none => rw [q] at e; cases e
    | some v =>
      rw [q] at e
      cases q2 : roadF S.at_ N f p with
      | none => rw [q2] at e; cases e
      | some r =>
        rw [q2] at e
        cases r with
        | none => cases e; rfl
        | some pw =>
          obtain ⟨x, ws⟩ := pw
          have e' : (if x < S.at_.length then some { ((S.mix (mixN S.at_ S.lent N f t)).mix (mixR S.at_ S.lent N f p)).mix (meet S.lent x ws) with at_ := S.at_.set x v } else none) = some S' := e
          by_cases c : x < S.at_.length
          · rw [if_pos c] at e'; cases e'; rfl
          · rw [if_neg c] at e'; cases e'
  | n + 1, f, S, .call w ts, S', e => by
    unfold stepF at e
    cases q : W[w]? with
    | none => rw [q] at e; cases e
    | some ws =>
    rw [q] at e
    have e1 : (if ws.length = ts.length then (handsF N f S ts ws).bind fun (hs, S1) => P[w]?.bind fun wk =>
      (iter (stepF P W N n (.mk (ownsOf S1 wk.owns) (Hds.of hs))) wk.body (S1.enter wk.owns)).bind fun S2 => (backsF S2.at_ hs).map fun a => { S2 with at_ := a, lent := S2.lent.take S.lent.length } else none) = some S' := e
    by_cases c : ws.length = ts.length
    · rw [if_pos c] at e1
      cases q2 : handsF N f S ts ws with
      | none => rw [q2] at e1; cases e1
      | some r =>
      obtain ⟨hs, S1⟩ := r
      rw [q2] at e1
      cases q3 : P[w]? with
      | none => rw [q3] at e1; cases e1
      | some wk =>
      rw [q3] at e1
      have e2 : ((iter (stepF P W N n (.mk (ownsOf S1 wk.owns) (Hds.of hs))) wk.body (S1.enter wk.owns)).bind fun S2 => (backsF S2.at_ hs).map fun a => { S2 with at_ := a, lent := S2.lent.take S.lent.length }) = some S' := e1
      cases q4 : iter (stepF P W N n (.mk (ownsOf S1 wk.owns) (Hds.of hs))) wk.body (S1.enter wk.owns) with
      | none => rw [q4] at e2; cases e2
      | some S2 =>
      rw [q4] at e2
      have e3 : ((backsF S2.at_ hs).map fun a => { S2 with at_ := a, lent := S2.lent.take S.lent.length }) = some S' := e2
      cases q5 : backsF S2.at_ hs with
      | none => rw [q5] at e3; cases e3
      | some a =>
      rw [q5] at e3
      cases e3
      obtain ⟨L, hL⟩ := handsF_lent q2
      have h2 : S2.lent = (S1.enter wk.owns).lent := iter_lent (g := stepF P W N n (.mk (ownsOf S1 wk.owns) (Hds.of hs))) (fun S s S' h => stepF_lent h) q4
      have h3 : (S1.enter wk.owns).lent = S1.lent := rfl
      show S2.lent.take S.lent.length = S.lent
      rw [h2, h3, hL, List.take_left']
      rfl
    · rw [if_neg c] at e1
      cases e1
end Hw
/-! Numbers stay below 3. -/
namespace Hw
open PySem PySem.Spec PyProof.Rows L2
mutual
def St.lit : St → Prop
  | .set p t => p.lit ∧ t.lit
  | .say t => t.lit
  | .ite t a b => t.lit ∧ a.lit ∧ b.lit
  | .call _ ts => ∀ t ∈ ts, t.lit
def Sts.lit : Sts → Prop
  | .nil => True
  | .cons s r => s.lit ∧ r.lit
end
theorem Th.ok_lit {p o : Nat} : ∀ {t : Th} {d : Nat}, t.ok p o d → t.lit
  | .num k, d, h => by
    unfold Th.lit
    cases d <;> exact h
  | .own k, d, h => by unfold Th.lit; trivial
  | .par k, d, h => by unfold Th.lit; trivial
  | .cell t, 0, h => h.elim
  | .cell t, d + 1, h => by
    unfold Th.lit
    exact Th.ok_lit (t := t) (d := d) h
  | .sum a b, 0, h => h.elim
  | .sum a b, d + 1, h => by
    unfold Th.lit
    exact ⟨Th.ok_lit (t := a) (d := d) h.1, Th.ok_lit (t := b) (d := d) h.2⟩
mutual
theorem St.ok_lit {sh : List (Nat × Nat)} {i : Nat} : ∀ {s : St} {d : Nat}, St.ok sh i d s → s.lit
  | .set p t, d, h => by
    unfold St.lit
    have h' : p.isPlace = true ∧ Th.ok (sh.getD i (0, 0)).1 (sh.getD i (0, 0)).2 4 p ∧ Th.ok (sh.getD i (0, 0)).1 (sh.getD i (0, 0)).2 4 t := by cases d <;> (unfold St.ok at h; exact h)
    exact ⟨Th.ok_lit h'.2.1, Th.ok_lit h'.2.2⟩
  | .say t, d, h => by
    unfold St.lit
    have h' : Th.ok (sh.getD i (0, 0)).1 (sh.getD i (0, 0)).2 4 t := by cases d <;> (unfold St.ok at h; exact h)
    exact Th.ok_lit h'
  | .ite t a b, 0, h => by
    unfold St.ok at h
    exact h.elim
  | .ite t a b, d + 1, h => by
    unfold St.ok at h
    unfold St.lit
    exact ⟨Th.ok_lit h.1, Sts.ok_lit h.2.1, Sts.ok_lit h.2.2⟩
  | .call k ts, d, h => by
    unfold St.lit
    intro t ht
    have h' : i < k ∧ k < sh.length ∧ ts.length = (sh.getD k (0, 0)).1 ∧ ∀ t ∈ ts, Th.ok (sh.getD i (0, 0)).1 (sh.getD i (0, 0)).2 4 t := by cases d <;> (unfold St.ok at h; exact h)
    exact Th.ok_lit (h'.2.2.2 t ht)
theorem Sts.ok_lit {sh : List (Nat × Nat)} {i : Nat} : ∀ {s : Sts} {d : Nat}, Sts.ok sh i d s → s.lit
  | .nil, d, h => by unfold Sts.lit; trivial
  | .cons s r, d, h => by
    unfold Sts.ok at h
    unfold Sts.lit
    exact ⟨St.ok_lit h.1, Sts.ok_lit h.2⟩
end
theorem handsF_low {N : Nat} {f : Fr} (hf : f.lit) : ∀ {ts : List Th} {S : LS} {ws : List Str} {hs : List (Hd × Option Nat)} {S' : LS}, Low S.at_ → (∀ t ∈ ts, t.lit) → handsF N f S ts ws = some (hs, S') → Low S'.at_ ∧ (Hds.of hs).lit
  | [], S, ws, hs, S', la, _, e => by
    unfold handsF at e
    cases e
    exact ⟨la, by unfold Hds.of Hds.lit; trivial⟩
  | t :: ts, S, [], hs, S', _, _, e => by unfold handsF at e; cases e
  | t :: ts, S, w :: ws, hs, S', la, lt, e => by
    unfold handsF at e
    cases q : handF N S f t w with
    | none => rw [q] at e; cases e
    | some r =>
      obtain ⟨d, b, S1⟩ := r
      rw [q] at e
      have e2 : ((handsF N f S1 ts ws).map fun (r, S2) => ((d, b) :: r, S2)) = some (hs, S') := e
      cases q2 : handsF N f S1 ts ws with
      | none => rw [q2] at e2; cases e2
      | some r2 =>
        obtain ⟨hs2, S2⟩ := r2
        rw [q2] at e2
        cases e2
        obtain ⟨l1, ld⟩ := handF_low la hf (lt t List.mem_cons_self) q
        obtain ⟨l2, lr⟩ := handsF_low hf l1 (fun u hu => lt u (List.mem_cons_of_mem _ hu)) q2
        exact ⟨l2, by unfold Hds.of Hds.lit; exact ⟨ld, lr⟩⟩
theorem backsF_low : ∀ {hs : List (Hd × Option Nat)} {a a' : List Nat}, Low a → backsF a hs = some a' → Low a'
  | [], a, a', l, e => by unfold backsF at e; cases e; exact l
  | (d, none) :: r, a, a', l, e => by unfold backsF at e; exact backsF_low l e
  | (.road q _, some p) :: r, a, a', l, e => by
    unfold backsF at e
    by_cases c : p < a.length
    · rw [if_pos c] at e
      cases g : a[q]? with
      | none => rw [g] at e; cases e
      | some v =>
        rw [g] at e
        exact backsF_low (l.set (l.get g)) (show backsF (a.set p v) r = some a' from e)
    · rw [if_neg c] at e
      cases e
  | (.want _ _, some _) :: r, a, a', l, e => by unfold backsF at e; cases e
theorem iter_low {g : LS → St → Option LS} (hg : ∀ S s S', s.lit → Low S.at_ → g S s = some S' → Low S'.at_) : ∀ {b : Sts} {S S' : LS}, b.lit → Low S.at_ → iter g b S = some S' → Low S'.at_
  | .nil, S, S', _, l, e => by unfold iter at e; cases e; exact l
  | .cons s r, S, S', lb, l, e => by
    unfold iter at e
    unfold Sts.lit at lb
    cases q : g S s with
    | none => rw [q] at e; cases e
    | some S1 =>
      rw [q] at e
      exact iter_low hg lb.2 (hg S s S1 lb.1 l q) (show iter g r S1 = some S' from e)
theorem low_rep {n : Nat} : Low (List.replicate n 0) := fun x hx => by
  have := (List.mem_replicate.mp hx).2
  omega
theorem stepF_low {P : List Wk} {W : List (List Str)} {N : Nat} (hP : ∀ wk ∈ P, wk.body.lit) : ∀ {n : Nat} {f : Fr} {S : LS} {st : St} {S' : LS}, f.lit → st.lit → Low S.at_ → stepF P W N n f S st = some S' → Low S'.at_
  | 0, f, S, st, S', _, _, _, e => by unfold stepF at e; cases e
  | n + 1, f, S, .say t, S', hf, hs, la, e => by
    unfold stepF at e
    cases q : numF S.at_ N f t with
    | none => rw [q] at e; cases e
    | some v => rw [q] at e; cases e; exact la
  | n + 1, f, S, .ite t a b, S', hf, hs, la, e => by
    unfold stepF at e
    unfold St.lit at hs
    cases q : numF S.at_ N f t with
    | none => rw [q] at e; cases e
    | some v =>
      rw [q] at e
      have e' : iter (stepF P W N n f) (if v = 0 then b else a) (S.mix (mixN S.at_ S.lent N f t)) = some S' := e
      refine iter_low (g := stepF P W N n f) (S := S.mix (mixN S.at_ S.lent N f t)) (fun S s S' hs la h => stepF_low hP hf hs la h) ?_ la e'
      split
      · exact hs.2.2
      · exact hs.2.1
  | n + 1, f, S, .set p t, S', hf, hs, la, e => by
    unfold stepF at e
    unfold St.lit at hs
    cases q : numF S.at_ N f t with
    | none => rw [q] at e; cases e
    | some v =>
      rw [q] at e
      cases q2 : roadF S.at_ N f p with
      | none => rw [q2] at e; cases e
      | some r =>
        rw [q2] at e
        cases r with
        | none => cases e; exact la
        | some pw =>
          obtain ⟨x, ws⟩ := pw
          have e' : (if x < S.at_.length then some { ((S.mix (mixN S.at_ S.lent N f t)).mix (mixR S.at_ S.lent N f p)).mix (meet S.lent x ws) with at_ := S.at_.set x v } else none) = some S' := e
          by_cases c : x < S.at_.length
          · rw [if_pos c] at e'; cases e'; exact la.set (numF_low la hf hs.2 q)
          · rw [if_neg c] at e'; cases e'
  | n + 1, f, S, .call w ts, S', hf, hs, la, e => by
    unfold stepF at e
    unfold St.lit at hs
    cases q : W[w]? with
    | none => rw [q] at e; cases e
    | some ws =>
    rw [q] at e
    have e1 : (if ws.length = ts.length then (handsF N f S ts ws).bind fun (hs, S1) => P[w]?.bind fun wk =>
      (iter (stepF P W N n (.mk (ownsOf S1 wk.owns) (Hds.of hs))) wk.body (S1.enter wk.owns)).bind fun S2 => (backsF S2.at_ hs).map fun a => { S2 with at_ := a, lent := S2.lent.take S.lent.length } else none) = some S' := e
    by_cases c : ws.length = ts.length
    · rw [if_pos c] at e1
      cases q2 : handsF N f S ts ws with
      | none => rw [q2] at e1; cases e1
      | some r =>
      obtain ⟨hs', S1⟩ := r
      rw [q2] at e1
      cases q3 : P[w]? with
      | none => rw [q3] at e1; cases e1
      | some wk =>
      rw [q3] at e1
      have e2 : ((iter (stepF P W N n (.mk (ownsOf S1 wk.owns) (Hds.of hs'))) wk.body (S1.enter wk.owns)).bind fun S2 => (backsF S2.at_ hs').map fun a => { S2 with at_ := a, lent := S2.lent.take S.lent.length }) = some S' := e1
      cases q4 : iter (stepF P W N n (.mk (ownsOf S1 wk.owns) (Hds.of hs'))) wk.body (S1.enter wk.owns) with
      | none => rw [q4] at e2; cases e2
      | some S2 =>
      rw [q4] at e2
      have e3 : ((backsF S2.at_ hs').map fun a => { S2 with at_ := a, lent := S2.lent.take S.lent.length }) = some S' := e2
      cases q5 : backsF S2.at_ hs' with
      | none => rw [q5] at e3; cases e3
      | some a =>
      rw [q5] at e3
      cases e3
      obtain ⟨l1, lh⟩ := handsF_low hf la hs q2
      have l2 : Low S2.at_ := iter_low (g := stepF P W N n (.mk (ownsOf S1 wk.owns) (Hds.of hs'))) (fun S s S' hs la h => stepF_low hP (by unfold Fr.lit; exact lh) hs la h) (hP wk (List.mem_of_getElem? q3)) (show Low (S1.at_ ++ List.replicate wk.owns 0) from l1.app low_rep) q4
      exact backsF_low l2 q5
    · rw [if_neg c] at e1
      cases e1
end Hw
/-! Runs in which no place is handed. -/
namespace Hw
open PySem PySem.Spec PyProof.Rows L2

mutual
/-- no call hands a place -/
def St.bare : St → Prop
  | .set _ _ => True
  | .say _ => True
  | .ite _ a b => a.bare ∧ b.bare
  | .call _ ts => ∀ t ∈ ts, t.isPlace = false
def Sts.bare : Sts → Prop
  | .nil => True
  | .cons s r => s.bare ∧ r.bare
end
def Cpb (ws : List Str) : Prop := ∀ w ∈ ws, w = "copy" ∨ w = "place" ∨ w = "back"
theorem handF_bare {N : Nat} {S : LS} {f : Fr} {t : Th} {w : Str} (ht : t.isPlace = false) (hw : w = "copy" ∨ w = "place" ∨ w = "back") : handF N S f t w = newF N S f t := by
  have road : (roadF S.at_ N f t).bind (fun r => match r with
      | none => newF N (S.mix (mixR S.at_ S.lent N f t)) f t
      | some (p, ws) => if w = "place" then some (.road p (ws ++ [S.many + 1]), none, (S.mix (mixR S.at_ S.lent N f t)).lend p ws)
        else S.at_[p]?.map fun v => (.road S.at_.length [], some p, { (S.mix (mixR S.at_ S.lent N f t)).lend p ws with at_ := S.at_ ++ [v] })) = newF N S f t := by
    cases N with
    | zero =>
      have e : newF 0 S f t = none := by unfold newF numF; rfl
      rw [e]
      unfold roadF
      rfl
    | succ n =>
      cases t with
      | num k =>
        unfold roadF
        show newF (n + 1) (S.mix (mixR S.at_ S.lent (n + 1) f (.num k))) f (.num k) = _
        unfold mixR
        rw [LS.mix_false]
      | sum a b =>
        unfold roadF
        show newF (n + 1) (S.mix (mixR S.at_ S.lent (n + 1) f (.sum a b))) f (.sum a b) = _
        unfold mixR
        rw [LS.mix_false]
      | cell t => cases ht
      | own k => cases ht
      | par k => cases ht
  unfold handF
  rcases hw with rfl | rfl | rfl
  · rw [if_neg (by decide +kernel), if_neg (by decide +kernel)]
  · rw [if_neg (by decide +kernel), if_pos (by decide +kernel)]
    exact road
  · rw [if_neg (by decide +kernel), if_pos (by decide +kernel)]
    exact road
theorem handsF_bare {N : Nat} {f : Fr} : ∀ {ts : List Th} {S : LS} {ws ws2 : List Str}, (∀ t ∈ ts, t.isPlace = false) → Cpb ws → Cpb ws2 → ws.length = ts.length → ws2.length = ts.length → handsF N f S ts ws = handsF N f S ts ws2
  | [], S, ws, ws2, _, _, _, _, _ => by unfold handsF; rfl
  | t :: ts, S, [], ws2, _, _, _, l, _ => by cases l
  | t :: ts, S, w :: ws, [], _, _, _, _, l => by cases l
  | t :: ts, S, w :: ws, w2 :: ws2, ht, h1, h2, l1, l2 => by
    unfold handsF
    rw [handF_bare (ht t List.mem_cons_self) (h1 w List.mem_cons_self), handF_bare (ht t List.mem_cons_self) (h2 w2 List.mem_cons_self)]
    cases newF N S f t with
    | none => rfl
    | some r =>
      obtain ⟨h, b, S1⟩ := r
      show ((handsF N f S1 ts ws).map _) = ((handsF N f S1 ts ws2).map _)
      rw [handsF_bare (fun u hu => ht u (List.mem_cons_of_mem _ hu)) (fun x hx => h1 x (List.mem_cons_of_mem _ hx)) (fun x hx => h2 x (List.mem_cons_of_mem _ hx)) (Nat.succ.inj l1) (Nat.succ.inj l2)]
theorem iter_eq {g g2 : LS → St → Option LS} (hg : ∀ S s, s.bare → g S s = g2 S s) : ∀ {b : Sts} {S : LS}, b.bare → iter g b S = iter g2 b S
  | .nil, S, _ => by unfold iter; rfl
  | .cons s r, S, h => by
    unfold Sts.bare at h
    unfold iter
    rw [hg S s h.1]
    cases g2 S s with
    | none => rfl
    | some S1 => exact iter_eq hg h.2
theorem stepF_bare {P : List Wk} {W W2 : List (List Str)} {N : Nat} (hP : ∀ wk ∈ P, wk.body.bare) (l1 : W.length = P.length) (l2 : W2.length = P.length)
    (hW : ∀ (i : Nat) (ws ws2 : List Str), W[i]? = some ws → W2[i]? = some ws2 → ws.length = ws2.length ∧ Cpb ws ∧ Cpb ws2) : ∀ {n : Nat} {f : Fr} {S : LS} {st : St}, st.bare → stepF P W N n f S st = stepF P W2 N n f S st
  | 0, f, S, st, _ => by unfold stepF; rfl
  | n + 1, f, S, .say t, _ => by unfold stepF; rfl
  | n + 1, f, S, .set p t, _ => by unfold stepF; rfl
  | n + 1, f, S, .ite t a b, h => by
    unfold St.bare at h
    unfold stepF
    cases numF S.at_ N f t with
    | none => rfl
    | some v =>
      show iter (stepF P W N n f) (if v = 0 then b else a) _ = iter (stepF P W2 N n f) (if v = 0 then b else a) _
      refine iter_eq (fun S s hs => stepF_bare hP l1 l2 hW hs) ?_
      split
      · exact h.2
      · exact h.1
  | n + 1, f, S, .call w ts, h => by
    unfold St.bare at h
    unfold stepF
    by_cases c : w < P.length
    · have e1 : W[w]? = some W[w] := List.getElem?_eq_getElem (by omega)
      have e2 : W2[w]? = some W2[w] := List.getElem?_eq_getElem (by omega)
      obtain ⟨hl, c1, c2⟩ := hW w _ _ e1 e2
      rw [e1, e2]
      show (if W[w].length = ts.length then _ else none) = (if W2[w].length = ts.length then _ else none)
      by_cases d : W[w].length = ts.length
      · rw [if_pos d, if_pos (by omega), handsF_bare (ws2 := W2[w]) h c1 c2 d (by omega)]
        cases handsF N f S ts W2[w] with
        | none => rfl
        | some r =>
          obtain ⟨hs, S1⟩ := r
          show (P[w]?.bind _) = (P[w]?.bind _)
          rw [List.getElem?_eq_getElem c]
          show ((iter (stepF P W N n _) P[w].body _).bind _) = ((iter (stepF P W2 N n _) P[w].body _).bind _)
          rw [iter_eq (fun S s hs => stepF_bare hP l1 l2 hW hs) (hP _ (List.getElem_mem c))]
      · rw [if_neg d, if_neg (by omega)]
    · rw [List.getElem?_eq_none (l := W) (i := w) (by omega), List.getElem?_eq_none (l := W2) (i := w) (by omega)]
      rfl
theorem ranF_bare {P : List Wk} {W W2 : List (List Str)} {N n : Nat} {cells : List Nat} (hP : ∀ wk ∈ P, wk.body.bare) (l1 : W.length = P.length) (l2 : W2.length = P.length)
    (hW : ∀ (i : Nat) (ws ws2 : List Str), W[i]? = some ws → W2[i]? = some ws2 → ws.length = ws2.length ∧ Cpb ws ∧ Cpb ws2) : ranF P W N n cells = ranF P W2 N n cells := by
  unfold ranF doesF
  cases e : P[0]? with
  | none => rfl
  | some wk =>
    show iter (stepF P W N n _) wk.body _ = iter (stepF P W2 N n _) wk.body _
    exact iter_eq (fun S s hs => stepF_bare hP l1 l2 hW hs) (hP _ (List.mem_of_getElem? e))
/-! ### nothing is lent: nothing is mixed -/
theorem mixN_nil {at_ : List Nat} : ∀ {n : Nat} {f : Fr} {t : Th}, mixN at_ [] n f t = false
  | 0, f, t => by unfold mixN; rfl
  | n + 1, f, .num _ => by unfold mixN; rfl
  | n + 1, f, .sum a b => by unfold mixN; rw [mixN_nil, mixN_nil]; rfl
  | n + 1, f, .cell t => by unfold mixN; rw [mixN_nil]; rfl
  | n + 1, .mk os _, .own k => by unfold mixN; rfl
  | n + 1, .mk _ hs, .par k => by
    unfold mixN
    cases hs.get k with
    | none => rfl
    | some d =>
      cases d with
      | road p ws => rfl
      | want t f => exact mixN_nil
theorem mixR_nil {at_ : List Nat} : ∀ {n : Nat} {f : Fr} {t : Th}, mixR at_ [] n f t = false
  | 0, f, t => by unfold mixR; rfl
  | n + 1, f, .num _ => by unfold mixR; rfl
  | n + 1, f, .sum a b => by unfold mixR; rfl
  | n + 1, f, .cell t => by unfold mixR; exact mixN_nil
  | n + 1, .mk os _, .own k => by unfold mixR; rfl
  | n + 1, .mk _ hs, .par k => by
    unfold mixR
    cases hs.get k with
    | none => rfl
    | some d =>
      cases d with
      | road p ws => rfl
      | want t f => exact mixR_nil
/-- nothing is lent -/
structure Unl (S : LS) : Prop where
  l : S.lent = []
  m : S.mixed = false
theorem Unl.mix {S : LS} {b : Bool} (u : Unl S) (h : b = false) : Unl (S.mix b) := by
  rw [h, LS.mix_false]
  exact u
theorem newF_unl {N : Nat} {S : LS} {f : Fr} {t : Th} {h : Hd} {b : Option Nat} {S' : LS} (u : Unl S) (e : newF N S f t = some (h, b, S')) : Unl S' := by
  unfold newF at e
  cases q : numF S.at_ N f t with
  | none => rw [q] at e; cases e
  | some v =>
    rw [q] at e
    cases e
    have := u.mix (b := mixN S.at_ S.lent N f t) (by rw [u.l]; exact mixN_nil)
    exact ⟨this.l, this.m⟩
theorem handsF_unl {N : Nat} {f : Fr} : ∀ {ts : List Th} {S : LS} {ws : List Str} {hs : List (Hd × Option Nat)} {S' : LS}, (∀ t ∈ ts, t.isPlace = false) → Cpb ws → Unl S → handsF N f S ts ws = some (hs, S') → Unl S'
  | [], S, ws, hs, S', _, _, u, e => by unfold handsF at e; cases e; exact u
  | t :: ts, S, [], hs, S', _, _, u, e => by unfold handsF at e; cases e
  | t :: ts, S, w :: ws, hs, S', ht, hw, u, e => by
    unfold handsF at e
    rw [handF_bare (ht t List.mem_cons_self) (hw w List.mem_cons_self)] at e
    cases q : newF N S f t with
    | none => rw [q] at e; cases e
    | some r =>
      obtain ⟨d, b, S1⟩ := r
      rw [q] at e
      have e2 : ((handsF N f S1 ts ws).map fun (r, S2) => ((d, b) :: r, S2)) = some (hs, S') := e
      cases q2 : handsF N f S1 ts ws with
      | none => rw [q2] at e2; cases e2
      | some r2 =>
        obtain ⟨hs2, S2⟩ := r2
        rw [q2] at e2
        cases e2
        exact handsF_unl (fun x hx => ht x (List.mem_cons_of_mem _ hx)) (fun x hx => hw x (List.mem_cons_of_mem _ hx)) (newF_unl u q) q2
theorem iter_unl {g : LS → St → Option LS} (hg : ∀ S s S', s.bare → Unl S → g S s = some S' → Unl S') : ∀ {b : Sts} {S S' : LS}, b.bare → Unl S → iter g b S = some S' → Unl S'
  | .nil, S, S', _, u, e => by unfold iter at e; cases e; exact u
  | .cons s r, S, S', h, u, e => by
    unfold iter at e
    unfold Sts.bare at h
    cases q : g S s with
    | none => rw [q] at e; cases e
    | some S1 =>
      rw [q] at e
      exact iter_unl hg h.2 (hg S s S1 h.1 u q) (show iter g r S1 = some S' from e)
theorem stepF_unl {P : List Wk} {W : List (List Str)} {N : Nat} (hP : ∀ wk ∈ P, wk.body.bare) (hW : ∀ ws ∈ W, Cpb ws) : ∀ {n : Nat} {f : Fr} {S : LS} {st : St} {S' : LS}, st.bare → Unl S → stepF P W N n f S st = some S' → Unl S'
  | 0, f, S, st, S', _, u, e => by unfold stepF at e; cases e
  | n + 1, f, S, .say t, S', _, u, e => by
    unfold stepF at e
    cases q : numF S.at_ N f t with
    | none => rw [q] at e; cases e
    | some v =>
      rw [q] at e
      cases e
      have := u.mix (b := mixN S.at_ S.lent N f t) (by rw [u.l]; exact mixN_nil)
      exact ⟨this.l, this.m⟩
  | n + 1, f, S, .ite t a b, S', h, u, e => by
    unfold stepF at e
    unfold St.bare at h
    cases q : numF S.at_ N f t with
    | none => rw [q] at e; cases e
    | some v =>
      rw [q] at e
      have e' : iter (stepF P W N n f) (if v = 0 then b else a) (S.mix (mixN S.at_ S.lent N f t)) = some S' := e
      refine iter_unl (g := stepF P W N n f) (fun S s S' hs u h => stepF_unl hP hW hs u h) ?_ (u.mix (by rw [u.l]; exact mixN_nil)) e'
      split
      · exact h.2
      · exact h.1
  | n + 1, f, S, .set p t, S', _, u, e => by
    unfold stepF at e
    cases q : numF S.at_ N f t with
    | none => rw [q] at e; cases e
    | some v =>
      rw [q] at e
      have u2 := (u.mix (b := mixN S.at_ S.lent N f t) (by rw [u.l]; exact mixN_nil)).mix (b := mixR S.at_ S.lent N f p) (by rw [u.l]; exact mixR_nil)
      cases q2 : roadF S.at_ N f p with
      | none => rw [q2] at e; cases e
      | some r =>
        rw [q2] at e
        cases r with
        | none => cases e; exact u2
        | some pw =>
          obtain ⟨x, ws⟩ := pw
          have e' : (if x < S.at_.length then some { ((S.mix (mixN S.at_ S.lent N f t)).mix (mixR S.at_ S.lent N f p)).mix (meet S.lent x ws) with at_ := S.at_.set x v } else none) = some S' := e
          by_cases c : x < S.at_.length
          · rw [if_pos c] at e'
            cases e'
            have u3 := u2.mix (b := meet S.lent x ws) (by rw [u.l]; rfl)
            exact ⟨u3.l, u3.m⟩
          · rw [if_neg c] at e'; cases e'
  | n + 1, f, S, .call w ts, S', h, u, e => by
    unfold stepF at e
    unfold St.bare at h
    cases q : W[w]? with
    | none => rw [q] at e; cases e
    | some ws =>
    rw [q] at e
    have e1 : (if ws.length = ts.length then (handsF N f S ts ws).bind fun (hs, S1) => P[w]?.bind fun wk =>
      (iter (stepF P W N n (.mk (ownsOf S1 wk.owns) (Hds.of hs))) wk.body (S1.enter wk.owns)).bind fun S2 => (backsF S2.at_ hs).map fun a => { S2 with at_ := a, lent := S2.lent.take S.lent.length } else none) = some S' := e
    by_cases c : ws.length = ts.length
    · rw [if_pos c] at e1
      cases q2 : handsF N f S ts ws with
      | none => rw [q2] at e1; cases e1
      | some r =>
      obtain ⟨hs', S1⟩ := r
      rw [q2] at e1
      cases q3 : P[w]? with
      | none => rw [q3] at e1; cases e1
      | some wk =>
      rw [q3] at e1
      have e2 : ((iter (stepF P W N n (.mk (ownsOf S1 wk.owns) (Hds.of hs'))) wk.body (S1.enter wk.owns)).bind fun S2 => (backsF S2.at_ hs').map fun a => { S2 with at_ := a, lent := S2.lent.take S.lent.length }) = some S' := e1
      cases q4 : iter (stepF P W N n (.mk (ownsOf S1 wk.owns) (Hds.of hs'))) wk.body (S1.enter wk.owns) with
      | none => rw [q4] at e2; cases e2
      | some S2 =>
      rw [q4] at e2
      have e3 : ((backsF S2.at_ hs').map fun a => { S2 with at_ := a, lent := S2.lent.take S.lent.length }) = some S' := e2
      cases q5 : backsF S2.at_ hs' with
      | none => rw [q5] at e3; cases e3
      | some a =>
      rw [q5] at e3
      cases e3
      have u1 := handsF_unl h (hW ws (List.mem_of_getElem? q)) u q2
      have u2 : Unl S2 := iter_unl (g := stepF P W N n (.mk (ownsOf S1 wk.owns) (Hds.of hs'))) (fun S s S' hs u h => stepF_unl hP hW hs u h) (hP wk (List.mem_of_getElem? q3)) (show Unl (S1.enter wk.owns) from ⟨u1.l, u1.m⟩) q4
      exact ⟨by show S2.lent.take _ = []; rw [u2.l, List.take_nil], u2.m⟩
    · rw [if_neg c] at e1
      cases e1
theorem ranF_unl {P : List Wk} {W : List (List Str)} {N n : Nat} {cells : List Nat} {S : LS} (hP : ∀ wk ∈ P, wk.body.bare) (hW : ∀ ws ∈ W, Cpb ws) (e : ranF P W N n cells = some S) : S.mixed = false := by
  unfold ranF doesF at e
  cases q : P[0]? with
  | none => rw [q] at e; cases e
  | some wk =>
    rw [q] at e
    exact (iter_unl (g := stepF P W N n (.mk (ownsOf ⟨cells, [], [], 0, false⟩ wk.owns) .nil)) (fun S s S' hs u h => stepF_unl hP hW hs u h) (hP _ (List.mem_of_getElem? q)) (show Unl ((⟨cells, [], [], 0, false⟩ : LS).enter wk.owns) from ⟨rfl, rfl⟩) e).m
/-! ### numbers alone are handed, no param is set: by want, too -/
mutual
def St.numsO : St → Prop
  | .set p _ => ∀ k, p ≠ .par k
  | .say _ => True
  | .ite _ a b => a.numsO ∧ b.numsO
  | .call _ ts => ∀ t ∈ ts, ∃ n, t = .num n
def Sts.numsO : Sts → Prop
  | .nil => True
  | .cons s r => s.numsO ∧ r.numsO
end
/-- the places of both runs that stand for one another (M); those of the first that keep a number (F) -/
structure Sim (M F : Nat → Nat → Prop) (a b : List Nat) : Prop where
  com : ∀ i, i < 3 → M i i
  inj : ∀ p q p' q', M p q → M p' q' → (p = p' ↔ q = q')
  val : ∀ p q, M p q → ∃ v, a[p]? = some v ∧ b[q]? = some v
  fro : ∀ p n, F p n → a[p]? = some n
  sep : ∀ p n q, F p n → ¬ M p q
section
variable (M F : Nat → Nat → Prop)
def HdR : Hd → Hd → Prop
  | .road p _, .road q _ => M p q
  | .road p _, .want (.num n) _ => F p n
  | _, _ => False
def HdsR : Hds → Hds → Prop
  | .nil, .nil => True
  | .cons h r, .cons h' r' => HdR M F h h' ∧ HdsR r r'
  | _, _ => False
def FrR : Fr → Fr → Prop
  | .mk os hs, .mk os' hs' => os.length = os'.length ∧ (∀ (k p q : Nat), os[k]? = some p → os'[k]? = some q → M p q) ∧ HdsR M F hs hs'
end
section
variable {M F M' F' : Nat → Nat → Prop} {a b : List Nat}
theorem HdR.mono (hM : ∀ p q, M p q → M' p q) (hF : ∀ p q, F p q → F' p q) : ∀ {h h' : Hd}, HdR M F h h' → HdR M' F' h h'
  | .road p _, .road q _, r => hM _ _ r
  | .road p _, .want (.num n) _, r => hF _ _ r
  | .road p _, .want (.sum _ _) _, r => r.elim
  | .road p _, .want (.cell _) _, r => r.elim
  | .road p _, .want (.own _) _, r => r.elim
  | .road p _, .want (.par _) _, r => r.elim
  | .want _ _, _, r => by unfold HdR at r; exact r.elim
theorem HdsR.mono (hM : ∀ p q, M p q → M' p q) (hF : ∀ p q, F p q → F' p q) : ∀ {h h' : Hds}, HdsR M F h h' → HdsR M' F' h h'
  | .nil, .nil, r => by unfold HdsR; trivial
  | .cons h r, .cons h' r', g => by
    unfold HdsR at g ⊢
    exact ⟨g.1.mono hM hF, HdsR.mono hM hF g.2⟩
  | .nil, .cons _ _, g => by unfold HdsR at g; exact g.elim
  | .cons _ _, .nil, g => by unfold HdsR at g; exact g.elim
theorem FrR.mono (hM : ∀ p q, M p q → M' p q) (hF : ∀ p q, F p q → F' p q) : ∀ {f f' : Fr}, FrR M F f f' → FrR M' F' f f'
  | .mk os hs, .mk os' hs', g => by
    unfold FrR at g ⊢
    exact ⟨g.1, fun k p q h h' => hM _ _ (g.2.1 k p q h h'), g.2.2.mono hM hF⟩
theorem HdsR.get : ∀ {h h' : Hds} {k : Nat} {d d' : Hd}, HdsR M F h h' → h.get k = some d → h'.get k = some d' → HdR M F d d'
  | .nil, .nil, k, d, d', r, e, e' => by unfold Hds.get at e; cases e
  | .cons h r, .cons h' r', 0, d, d', g, e, e' => by
    unfold HdsR at g
    unfold Hds.get at e e'
    cases e
    cases e'
    exact g.1
  | .cons h r, .cons h' r', k + 1, d, d', g, e, e' => by
    unfold HdsR at g
    unfold Hds.get at e e'
    exact HdsR.get g.2 e e'
  | .nil, .cons _ _, _, _, _, g, _, _ => by unfold HdsR at g; exact g.elim
  | .cons _ _, .nil, _, _, _, g, _, _ => by unfold HdsR at g; exact g.elim
theorem Sim.at_ (s : Sim M F a b) {p q x y : Nat} (m : M p q) (e : a[p]? = some x) (e' : b[q]? = some y) : x = y := by
  obtain ⟨v, h1, h2⟩ := s.val p q m
  rw [h1] at e
  rw [h2] at e'
  cases e
  cases e'
  rfl
theorem numF_sim (s : Sim M F a b) (la : Low a) : ∀ {t : Th} {n m : Nat} {f g : Fr} {x y : Nat}, FrR M F f g → f.lit → t.lit → numF a n f t = some x → numF b m g t = some y → x = y
  | t, 0, m, f, g, x, y, _, _, _, e, _ => by unfold numF at e; cases e
  | t, n + 1, 0, f, g, x, y, _, _, _, _, e => by unfold numF at e; cases e
  | .num k, n + 1, m + 1, f, g, x, y, _, _, _, e, e' => by
    unfold numF at e e'
    cases e
    cases e'
    rfl
  | .sum u v, n + 1, m + 1, f, g, x, y, r, fl, tl, e, e' => by
    unfold Th.lit at tl
    unfold numF at e e'
    cases q1 : numF a n f u with
    | none => rw [q1] at e; cases e
    | some x1 =>
    cases q2 : numF a n f v with
    | none => rw [q1, q2] at e; cases e
    | some x2 =>
    cases q3 : numF b m g u with
    | none => rw [q3] at e'; cases e'
    | some y1 =>
    cases q4 : numF b m g v with
    | none => rw [q3, q4] at e'; cases e'
    | some y2 =>
    rw [q1, q2] at e
    rw [q3, q4] at e'
    have h1 := numF_sim s la r fl tl.1 q1 q3
    have h2 := numF_sim s la r fl tl.2 q2 q4
    have e1 : some ((x1 + x2) % 3) = some x := e
    have e2 : some ((y1 + y2) % 3) = some y := e'
    rw [h1, h2] at e1
    rw [e1] at e2
    exact Option.some.inj e2
  | .cell t, n + 1, m + 1, f, g, x, y, r, fl, tl, e, e' => by
    unfold Th.lit at tl
    unfold numF at e e'
    cases q1 : numF a n f t with
    | none => rw [q1] at e; cases e
    | some x1 =>
    cases q2 : numF b m g t with
    | none => rw [q2] at e'; cases e'
    | some y1 =>
    rw [q1] at e
    rw [q2] at e'
    have h1 := numF_sim s la r fl tl q1 q2
    subst h1
    exact s.at_ (s.com x1 (numF_low la fl tl q1)) e e'
  | .own k, n + 1, m + 1, .mk os hs, .mk os' hs', x, y, r, fl, tl, e, e' => by
    unfold FrR at r
    unfold numF at e e'
    cases q1 : os[k]? with
    | none => rw [q1] at e; cases e
    | some p =>
    cases q2 : os'[k]? with
    | none => rw [q2] at e'; cases e'
    | some q =>
    rw [q1] at e
    rw [q2] at e'
    exact s.at_ (r.2.1 k p q q1 q2) e e'
  | .par k, n + 1, m + 1, .mk os hs, .mk os' hs', x, y, r, fl, tl, e, e' => by
    unfold FrR at r
    unfold numF at e e'
    cases q1 : hs.get k with
    | none => rw [q1] at e; cases e
    | some d =>
    cases q2 : hs'.get k with
    | none => rw [q2] at e'; cases e'
    | some d' =>
    rw [q1] at e
    rw [q2] at e'
    have h := r.2.2.get q1 q2
    cases d with
    | want u f => unfold HdR at h; exact h.elim
    | road p ws =>
      cases d' with
      | road q ws' => exact s.at_ h e e'
      | want u g =>
        cases u with
        | num j =>
          have h1 := s.fro p j h
          have e1 : a[p]? = some x := e
          rw [h1] at e1
          cases e1
          have e2 : numF b m g (.num x) = some y := e'
          cases m with
          | zero => unfold numF at e2; cases e2
          | succ m => unfold numF at e2; cases e2; rfl
        | sum _ _ => unfold HdR at h; exact h.elim
        | cell _ => unfold HdR at h; exact h.elim
        | own _ => unfold HdR at h; exact h.elim
        | par _ => unfold HdR at h; exact h.elim
theorem roadF_sim (s : Sim M F a b) (la : Low a) {t : Th} {n m : Nat} {f g : Fr} {r r' : Option (Nat × List Nat)} (h : FrR M F f g) (fl : f.lit) (tl : t.lit) (np : ∀ k, t ≠ .par k) (e : roadF a n f t = some r) (e' : roadF b m g t = some r') :
    (r = none ∧ r' = none) ∨ ∃ p ws q ws', r = some (p, ws) ∧ r' = some (q, ws') ∧ M p q := by
  cases n with
  | zero => unfold roadF at e; cases e
  | succ n =>
  cases m with
  | zero => unfold roadF at e'; cases e'
  | succ m =>
  cases t with
  | num k => unfold roadF at e e'; cases e; cases e'; exact .inl ⟨rfl, rfl⟩
  | sum u v => unfold roadF at e e'; cases e; cases e'; exact .inl ⟨rfl, rfl⟩
  | par k => exact absurd rfl (np k)
  | cell t =>
    unfold Th.lit at tl
    unfold roadF at e e'
    cases q1 : numF a n f t with
    | none => rw [q1] at e; cases e
    | some x1 =>
    cases q2 : numF b m g t with
    | none => rw [q2] at e'; cases e'
    | some y1 =>
    rw [q1] at e
    rw [q2] at e'
    have h1 := numF_sim s la h fl tl q1 q2
    subst h1
    cases e
    cases e'
    exact .inr ⟨_, _, _, _, rfl, rfl, s.com x1 (numF_low la fl tl q1)⟩
  | own k =>
    obtain ⟨os, hs⟩ := f
    obtain ⟨os', hs'⟩ := g
    unfold FrR at h
    unfold roadF at e e'
    cases q1 : os[k]? with
    | none => rw [q1] at e; cases e
    | some p =>
    cases q2 : os'[k]? with
    | none => rw [q2] at e'; cases e'
    | some q =>
    rw [q1] at e
    rw [q2] at e'
    cases e
    cases e'
    exact .inr ⟨_, _, _, _, rfl, rfl, h.2.1 k p q q1 q2⟩
theorem get_app {l r : List Nat} {i v : Nat} (h : l[i]? = some v) : (l ++ r)[i]? = some v := by
  rw [List.getElem?_append_left (List.getElem?_eq_some_iff.mp h).1]
  exact h
theorem get_new {l : List Nat} {v : Nat} : (l ++ [v])[l.length]? = some v := by
  rw [List.getElem?_append_right (Nat.le_refl _), Nat.sub_self]
  rfl
theorem get_lt {l : List Nat} {i v : Nat} (h : l[i]? = some v) : i < l.length := (List.getElem?_eq_some_iff.mp h).1
/-- a new place in both -/
theorem Sim.both (s : Sim M F a b) {v : Nat} : Sim (fun p q => M p q ∨ (p = a.length ∧ q = b.length)) F (a ++ [v]) (b ++ [v]) := by
  refine ⟨fun i hi => .inl (s.com i hi), fun p q p' q' h h' => ?_, fun p q h => ?_, fun p n h => get_app (s.fro p n h), fun p n q h h' => ?_⟩
  · rcases h with h | ⟨rfl, rfl⟩ <;> rcases h' with h' | ⟨rfl, rfl⟩
    · exact s.inj p q p' q' h h'
    · obtain ⟨v, e1, e2⟩ := s.val p q h
      have := get_lt e1
      have := get_lt e2
      omega
    · obtain ⟨v, e1, e2⟩ := s.val p' q' h'
      have := get_lt e1
      have := get_lt e2
      omega
    · simp
  · rcases h with h | ⟨rfl, rfl⟩
    · obtain ⟨v, e1, e2⟩ := s.val p q h
      exact ⟨v, get_app e1, get_app e2⟩
    · exact ⟨v, get_new, get_new⟩
  · rcases h' with h' | ⟨rfl, rfl⟩
    · exact s.sep p n q h h'
    · have := get_lt (s.fro _ n h)
      omega
/-- a place in the first that keeps its number -/
theorem Sim.fst (s : Sim M F a b) {v : Nat} : Sim M (fun p n => F p n ∨ (p = a.length ∧ n = v)) (a ++ [v]) b := by
  refine ⟨s.com, s.inj, fun p q h => ?_, fun p n h => ?_, fun p n q h h' => ?_⟩
  · obtain ⟨v, e1, e2⟩ := s.val p q h
    exact ⟨v, get_app e1, e2⟩
  · rcases h with h | ⟨rfl, rfl⟩
    · exact get_app (s.fro p n h)
    · exact get_new
  · rcases h with h | ⟨rfl, rfl⟩
    · exact s.sep p n q h h'
    · obtain ⟨v, e1, e2⟩ := s.val _ q h'
      have := get_lt e1
      omega
theorem Sim.set (s : Sim M F a b) {p q v : Nat} (m : M p q) : Sim M F (a.set p v) (b.set q v) := by
  have hp := get_lt (s.val p q m).choose_spec.1
  have hq := get_lt (s.val p q m).choose_spec.2
  refine ⟨s.com, s.inj, fun p' q' h => ?_, fun p' n h => ?_, s.sep⟩
  · have i := s.inj p q p' q' m h
    by_cases c : p = p'
    · have c2 := i.mp c
      subst c
      subst c2
      exact ⟨v, by rw [List.getElem?_set, if_pos rfl, if_pos hp], by rw [List.getElem?_set, if_pos rfl, if_pos hq]⟩
    · have c2 : q ≠ q' := fun z => c (i.mpr z)
      obtain ⟨w, e1, e2⟩ := s.val p' q' h
      exact ⟨w, by rw [List.getElem?_set, if_neg c]; exact e1, by rw [List.getElem?_set, if_neg c2]; exact e2⟩
  · have c : p ≠ p' := fun z => s.sep p' n q h (z ▸ m)
    rw [List.getElem?_set, if_neg c]
    exact s.fro p' n h
/-- own cells -/
theorem Sim.many (s : Sim M F a b) : ∀ k, ∃ M', (∀ p q, M p q → M' p q) ∧ Sim M' F (a ++ List.replicate k 0) (b ++ List.replicate k 0) ∧ ∀ i, i < k → M' (a.length + i) (b.length + i)
  | 0 => ⟨M, fun _ _ h => h, by rw [List.replicate_zero, List.append_nil, List.append_nil]; exact s, fun i hi => by omega⟩
  | k + 1 => by
    obtain ⟨M', h1, h2, h3⟩ := Sim.many s k
    have h4 := h2.both (v := 0)
    refine ⟨fun p q => M' p q ∨ (p = (a ++ List.replicate k 0).length ∧ q = (b ++ List.replicate k 0).length), fun p q h => Or.inl (h1 p q h), ?_, fun i hi => ?_⟩
    · rw [List.replicate_succ', ← List.append_assoc, ← List.append_assoc]
      exact h4
    · by_cases c : i < k
      · exact .inl (h3 i c)
      · have : i = k := by omega
        subst this
        refine .inr ⟨?_, ?_⟩
        · rw [List.length_append, List.length_replicate]
        · rw [List.length_append, List.length_replicate]
end
/-- states -/
structure LsR (M F : Nat → Nat → Prop) (S T : LS) : Prop where
  s : Sim M F S.at_ T.at_
  d : S.said = T.said
  la : Low S.at_
def Cpw (ws : List Str) : Prop := ∀ w ∈ ws, w = "copy" ∨ w = "want" ∨ w = "place"
theorem newF_at {N : Nat} {S : LS} {f : Fr} {j : Nat} {d : Hd} {b : Option Nat} {S1 : LS} (e : newF N S f (.num j) = some (d, b, S1)) : d = .road S.at_.length [] ∧ b = none ∧ S1.at_ = S.at_ ++ [j] ∧ S1.said = S.said := by
  unfold newF at e
  cases N with
  | zero => unfold numF at e; cases e
  | succ n =>
    unfold numF at e
    cases e
    exact ⟨rfl, rfl, rfl, rfl⟩
theorem hands_sim {N N' : Nat} {f g : Fr} : ∀ {ts : List Th} {S T : LS} {M F : Nat → Nat → Prop} {ws ws3 : List Str} {hs hs3 : List (Hd × Option Nat)} {S1 T1 : LS}, LsR M F S T → (∀ t ∈ ts, ∃ n, t = .num n ∧ n < 3) → Cpb ws → Cpw ws3 →
    handsF N f S ts ws = some (hs, S1) → handsF N' g T ts ws3 = some (hs3, T1) → ∃ M' F', (∀ p q, M p q → M' p q) ∧ (∀ p q, F p q → F' p q) ∧ LsR M' F' S1 T1 ∧ HdsR M' F' (Hds.of hs) (Hds.of hs3) ∧ (∀ h ∈ hs, h.2 = none) ∧ ∀ h ∈ hs3, h.2 = none
  | [], S, T, M, F, ws, ws3, hs, hs3, S1, T1, r, _, _, _, e, e' => by
    unfold handsF at e e'
    cases e
    cases e'
    exact ⟨M, F, fun _ _ h => h, fun _ _ h => h, r, by unfold Hds.of HdsR; trivial, fun _ h => (nomatch h), fun _ h => (nomatch h)⟩
  | t :: ts, S, T, M, F, [], ws3, hs, hs3, S1, T1, r, _, _, _, e, e' => by unfold handsF at e; cases e
  | t :: ts, S, T, M, F, w :: ws, [], hs, hs3, S1, T1, r, _, _, _, e, e' => by unfold handsF at e'; cases e'
  | t :: ts, S, T, M, F, w :: ws, w3 :: ws3, hs, hs3, S1, T1, r, ht, hw, hw3, e, e' => by
    obtain ⟨j, rfl, j3⟩ := ht t List.mem_cons_self
    unfold handsF at e e'
    rw [handF_bare rfl (hw w List.mem_cons_self)] at e
    cases q : newF N S f (.num j) with
    | none => rw [q] at e; cases e
    | some rr =>
    obtain ⟨d, b, S2⟩ := rr
    rw [q] at e
    have e2 : ((handsF N f S2 ts ws).map fun (r, S2) => ((d, b) :: r, S2)) = some (hs, S1) := e
    cases q2 : handsF N f S2 ts ws with
    | none => rw [q2] at e2; cases e2
    | some r2 =>
    obtain ⟨hs2, S3⟩ := r2
    rw [q2] at e2
    cases e2
    obtain ⟨ed, eb, ea, es⟩ := newF_at q
    subst ed eb
    cases p : handF N' T g (.num j) w3 with
    | none => rw [p] at e'; cases e'
    | some rr3 =>
    obtain ⟨d3, b3, T2⟩ := rr3
    rw [p] at e'
    have e3 : ((handsF N' g T2 ts ws3).map fun (r, S2) => ((d3, b3) :: r, S2)) = some (hs3, T1) := e'
    cases p2 : handsF N' g T2 ts ws3 with
    | none => rw [p2] at e3; cases e3
    | some r3 =>
    obtain ⟨hs4, T3⟩ := r3
    rw [p2] at e3
    cases e3
    have step : ∃ M1 F1, (∀ p q, M p q → M1 p q) ∧ (∀ p q, F p q → F1 p q) ∧ LsR M1 F1 S2 T2 ∧ HdR M1 F1 (.road S.at_.length []) d3 ∧ b3 = none := by
      have newR : newF N' T g (.num j) = some (d3, b3, T2) → ∃ M1 F1, (∀ p q, M p q → M1 p q) ∧ (∀ p q, F p q → F1 p q) ∧ LsR M1 F1 S2 T2 ∧ HdR M1 F1 (.road S.at_.length []) d3 ∧ b3 = none := fun p => by
        obtain ⟨ed, eb, ea3, es3⟩ := newF_at p
        subst ed eb
        refine ⟨fun p q => M p q ∨ (p = S.at_.length ∧ q = T.at_.length), F, fun p q h => Or.inl h, fun _ _ h => h, ⟨by rw [ea, ea3]; exact r.s.both, by rw [es, es3]; exact r.d, by rw [ea]; exact r.la.app (Low.one j3)⟩, ?_, rfl⟩
        exact .inr ⟨rfl, rfl⟩
      rcases hw3 w3 List.mem_cons_self with rfl | rfl | rfl
      · exact newR ((handF_bare rfl (.inl rfl)).symm.trans p)
      · unfold handF at p
        rw [if_pos rfl] at p
        cases p
        refine ⟨M, fun p n => F p n ∨ (p = S.at_.length ∧ n = j), fun _ _ h => h, fun p q h => Or.inl h, ⟨by rw [ea]; exact r.s.fst (v := j), es.trans r.d, by rw [ea]; exact r.la.app (Low.one j3)⟩, ?_, rfl⟩
        exact .inr ⟨rfl, rfl⟩
      · exact newR ((handF_bare rfl (.inr (.inl rfl))).symm.trans p)
    obtain ⟨M1, F1, m1, f1, r1, h1, rfl⟩ := step
    obtain ⟨M2, F2, m2, f2, r2, h2, n1, n2⟩ := hands_sim r1 (fun u hu => ht u (List.mem_cons_of_mem _ hu)) (fun x hx => hw x (List.mem_cons_of_mem _ hx)) (fun x hx => hw3 x (List.mem_cons_of_mem _ hx)) q2 p2
    refine ⟨M2, F2, fun p q h => m2 _ _ (m1 _ _ h), fun p q h => f2 _ _ (f1 _ _ h), r2, ?_, fun h hh => ?_, fun h hh => ?_⟩
    · unfold Hds.of HdsR
      exact ⟨h1.mono m2 f2, h2⟩
    · rcases List.mem_cons.mp hh with rfl | hh
      · rfl
      · exact n1 h hh
    · rcases List.mem_cons.mp hh with rfl | hh
      · rfl
      · exact n2 h hh
theorem backs_none : ∀ {hs : List (Hd × Option Nat)} {a : List Nat}, (∀ h ∈ hs, h.2 = none) → backsF a hs = some a
  | [], a, _ => by unfold backsF; rfl
  | (d, b) :: r, a, h => by
    have e : b = none := h (d, b) List.mem_cons_self
    subst e
    unfold backsF
    exact backs_none fun x hx => h x (List.mem_cons_of_mem _ hx)
theorem iter_sim {G H : LS → St → Option LS} {f g : Fr} (hG : ∀ M F S T s S1 T1, s.numsO → s.lit → FrR M F f g → LsR M F S T → G S s = some S1 → H T s = some T1 → ∃ M' F', (∀ p q, M p q → M' p q) ∧ (∀ p q, F p q → F' p q) ∧ LsR M' F' S1 T1) :
    ∀ {b : Sts} {M F : Nat → Nat → Prop} {S T S1 T1 : LS}, b.numsO → b.lit → FrR M F f g → LsR M F S T → iter G b S = some S1 → iter H b T = some T1 → ∃ M' F', (∀ p q, M p q → M' p q) ∧ (∀ p q, F p q → F' p q) ∧ LsR M' F' S1 T1
  | .nil, M, F, S, T, S1, T1, _, _, _, r, e, e' => by
    unfold iter at e e'
    cases e
    cases e'
    exact ⟨M, F, fun _ _ h => h, fun _ _ h => h, r⟩
  | .cons s b, M, F, S, T, S1, T1, n, l, fr, r, e, e' => by
    unfold Sts.numsO at n
    unfold Sts.lit at l
    unfold iter at e e'
    cases q : G S s with
    | none => rw [q] at e; cases e
    | some S2 =>
    cases q' : H T s with
    | none => rw [q'] at e'; cases e'
    | some T2 =>
    rw [q] at e
    rw [q'] at e'
    obtain ⟨M1, F1, m1, f1, r1⟩ := hG M F S T s S2 T2 n.1 l.1 fr r q q'
    obtain ⟨M2, F2, m2, f2, r2⟩ := iter_sim hG n.2 l.2 (fr.mono m1 f1) r1 (show iter G b S2 = some S1 from e) (show iter H b T2 = some T1 from e')
    exact ⟨M2, F2, fun p q h => m2 _ _ (m1 _ _ h), fun p q h => f2 _ _ (f1 _ _ h), r2⟩
theorem stepF_sim {P : List Wk} {W W3 : List (List Str)} {N N' : Nat} (hP : ∀ wk ∈ P, wk.body.numsO) (hL : ∀ wk ∈ P, wk.body.lit) (hW : ∀ ws ∈ W, Cpb ws) (hW3 : ∀ ws ∈ W3, Cpw ws) :
    ∀ {n n' : Nat} {f g : Fr} {M F : Nat → Nat → Prop} {S T : LS} {st : St} {S1 T1 : LS}, st.numsO → st.lit → f.lit → FrR M F f g → LsR M F S T → stepF P W N n f S st = some S1 → stepF P W3 N' n' g T st = some T1 →
      ∃ M' F', (∀ p q, M p q → M' p q) ∧ (∀ p q, F p q → F' p q) ∧ LsR M' F' S1 T1
  | 0, n', f, g, M, F, S, T, st, S1, T1, _, _, _, _, _, e, _ => by unfold stepF at e; cases e
  | n + 1, 0, f, g, M, F, S, T, st, S1, T1, _, _, _, _, _, _, e => by unfold stepF at e; cases e
  | n + 1, n' + 1, f, g, M, F, S, T, .say t, S1, T1, no, li, fl, fr, r, e, e' => by
    unfold St.lit at li
    unfold stepF at e e'
    cases q : numF S.at_ N f t with
    | none => rw [q] at e; cases e
    | some v =>
    cases q' : numF T.at_ N' g t with
    | none => rw [q'] at e'; cases e'
    | some v' =>
    rw [q] at e
    rw [q'] at e'
    have ev := numF_sim r.s r.la fr fl li q q'
    cases e
    cases e'
    exact ⟨M, F, fun _ _ h => h, fun _ _ h => h, r.s, by show S.said ++ [v] = T.said ++ [v']; rw [ev, r.d], r.la⟩
  | n + 1, n' + 1, f, g, M, F, S, T, .ite t a b, S1, T1, no, li, fl, fr, r, e, e' => by
    unfold St.lit at li
    unfold St.numsO at no
    unfold stepF at e e'
    cases q : numF S.at_ N f t with
    | none => rw [q] at e; cases e
    | some v =>
    cases q' : numF T.at_ N' g t with
    | none => rw [q'] at e'; cases e'
    | some v' =>
    rw [q] at e
    rw [q'] at e'
    have ev := numF_sim r.s r.la fr fl li.1 q q'
    subst ev
    have e1 : iter (stepF P W N n f) (if v = 0 then b else a) (S.mix (mixN S.at_ S.lent N f t)) = some S1 := e
    have e2 : iter (stepF P W3 N' n' g) (if v = 0 then b else a) (T.mix (mixN T.at_ T.lent N' g t)) = some T1 := e'
    refine iter_sim (fun M F S T s S1 T1 hn hl hf hr h h' => stepF_sim hP hL hW hW3 hn hl fl hf hr h h') ?_ ?_ fr (show LsR M F (S.mix (mixN S.at_ S.lent N f t)) (T.mix (mixN T.at_ T.lent N' g t)) from ⟨r.s, r.d, r.la⟩) e1 e2
    · split
      · exact no.2
      · exact no.1
    · split
      · exact li.2.2
      · exact li.2.1
  | n + 1, n' + 1, f, g, M, F, S, T, .set p t, S1, T1, no, li, fl, fr, r, e, e' => by
    unfold St.lit at li
    unfold St.numsO at no
    unfold stepF at e e'
    cases q : numF S.at_ N f t with
    | none => rw [q] at e; cases e
    | some v =>
    cases q' : numF T.at_ N' g t with
    | none => rw [q'] at e'; cases e'
    | some v' =>
    rw [q] at e
    rw [q'] at e'
    have ev := numF_sim r.s r.la fr fl li.2 q q'
    subst ev
    cases q2 : roadF S.at_ N f p with
    | none => rw [q2] at e; cases e
    | some r1 =>
    cases q2' : roadF T.at_ N' g p with
    | none => rw [q2'] at e'; cases e'
    | some r2 =>
    rw [q2] at e
    rw [q2'] at e'
    rcases roadF_sim r.s r.la fr fl li.1 no q2 q2' with ⟨rfl, rfl⟩ | ⟨x, ws, y, ws', rfl, rfl, m⟩
    · cases e
      cases e'
      exact ⟨M, F, fun _ _ h => h, fun _ _ h => h, r.s, r.d, r.la⟩
    · have e1 : (if x < S.at_.length then some { ((S.mix (mixN S.at_ S.lent N f t)).mix (mixR S.at_ S.lent N f p)).mix (meet S.lent x ws) with at_ := S.at_.set x v } else none) = some S1 := e
      have e2 : (if y < T.at_.length then some { ((T.mix (mixN T.at_ T.lent N' g t)).mix (mixR T.at_ T.lent N' g p)).mix (meet T.lent y ws') with at_ := T.at_.set y v } else none) = some T1 := e'
      obtain ⟨vv, g1, g2⟩ := r.s.val x y m
      rw [if_pos (get_lt g1)] at e1
      rw [if_pos (get_lt g2)] at e2
      cases e1
      cases e2
      exact ⟨M, F, fun _ _ h => h, fun _ _ h => h, r.s.set m, r.d, r.la.set (numF_low r.la fl li.2 q)⟩
  | n + 1, n' + 1, f, g, M, F, S, T, .call w ts, S1, T1, no, li, fl, fr, r, e, e' => by
    unfold St.lit at li
    unfold St.numsO at no
    unfold stepF at e e'
    cases q : W[w]? with
    | none => rw [q] at e; cases e
    | some ws =>
    cases q' : W3[w]? with
    | none => rw [q'] at e'; cases e'
    | some ws3 =>
    rw [q] at e
    rw [q'] at e'
    have e1 : (if ws.length = ts.length then (handsF N f S ts ws).bind fun (hs, S1) => P[w]?.bind fun wk =>
      (iter (stepF P W N n (.mk (ownsOf S1 wk.owns) (Hds.of hs))) wk.body (S1.enter wk.owns)).bind fun S2 => (backsF S2.at_ hs).map fun a => { S2 with at_ := a, lent := S2.lent.take S.lent.length } else none) = some S1 := e
    have e1' : (if ws3.length = ts.length then (handsF N' g T ts ws3).bind fun (hs, S1) => P[w]?.bind fun wk =>
      (iter (stepF P W3 N' n' (.mk (ownsOf S1 wk.owns) (Hds.of hs))) wk.body (S1.enter wk.owns)).bind fun S2 => (backsF S2.at_ hs).map fun a => { S2 with at_ := a, lent := S2.lent.take T.lent.length } else none) = some T1 := e'
    by_cases c : ws.length = ts.length
    case neg => rw [if_neg c] at e1; cases e1
    by_cases c' : ws3.length = ts.length
    case neg => rw [if_neg c'] at e1'; cases e1'
    rw [if_pos c] at e1
    rw [if_pos c'] at e1'
    cases q2 : handsF N f S ts ws with
    | none => rw [q2] at e1; cases e1
    | some rr =>
    obtain ⟨hs, S2⟩ := rr
    cases q2' : handsF N' g T ts ws3 with
    | none => rw [q2'] at e1'; cases e1'
    | some rr =>
    obtain ⟨hs3, T2⟩ := rr
    rw [q2] at e1
    rw [q2'] at e1'
    cases q3 : P[w]? with
    | none => rw [q3] at e1; cases e1
    | some wk =>
    rw [q3] at e1 e1'
    have e2 : ((iter (stepF P W N n (.mk (ownsOf S2 wk.owns) (Hds.of hs))) wk.body (S2.enter wk.owns)).bind fun S3 => (backsF S3.at_ hs).map fun a => { S3 with at_ := a, lent := S3.lent.take S.lent.length }) = some S1 := e1
    have e2' : ((iter (stepF P W3 N' n' (.mk (ownsOf T2 wk.owns) (Hds.of hs3))) wk.body (T2.enter wk.owns)).bind fun S3 => (backsF S3.at_ hs3).map fun a => { S3 with at_ := a, lent := S3.lent.take T.lent.length }) = some T1 := e1'
    cases q4 : iter (stepF P W N n (.mk (ownsOf S2 wk.owns) (Hds.of hs))) wk.body (S2.enter wk.owns) with
    | none => rw [q4] at e2; cases e2
    | some S3 =>
    cases q4' : iter (stepF P W3 N' n' (.mk (ownsOf T2 wk.owns) (Hds.of hs3))) wk.body (T2.enter wk.owns) with
    | none => rw [q4'] at e2'; cases e2'
    | some T3 =>
    rw [q4] at e2
    rw [q4'] at e2'
    obtain ⟨M1, F1, m1, f1, r1, h1, n1, n2⟩ := hands_sim r (fun t ht => by
      obtain ⟨j, rfl⟩ := no t ht
      have := li _ ht
      unfold Th.lit at this
      exact ⟨j, rfl, this⟩) (hW ws (List.mem_of_getElem? q)) (hW3 ws3 (List.mem_of_getElem? q')) q2 q2'
    obtain ⟨M2, m2, s2, o2⟩ := r1.s.many wk.owns
    have fr2 : FrR M2 F1 (.mk (ownsOf S2 wk.owns) (Hds.of hs)) (.mk (ownsOf T2 wk.owns) (Hds.of hs3)) := by
      unfold FrR
      refine ⟨by unfold ownsOf; rw [List.length_range', List.length_range'], fun k p q hp hq => ?_, h1.mono m2 fun _ _ h => h⟩
      unfold ownsOf at hp hq
      have l1 := get_lt hp
      rw [List.length_range'] at l1
      rw [List.getElem?_range' l1] at hp hq
      cases hp
      cases hq
      have := o2 k l1
      simpa using this
    have fl2 : (Fr.mk (ownsOf S2 wk.owns) (Hds.of hs)).lit := by
      unfold Fr.lit
      exact (handsF_low fl r.la li q2).2
    have lr2 : LsR M2 F1 (S2.enter wk.owns) (T2.enter wk.owns) := ⟨s2, r1.d, r1.la.app low_rep⟩
    obtain ⟨M3, F3, m3, f3, r3⟩ := iter_sim (fun M F S T s S1 T1 hn hl hf hr h h' => stepF_sim hP hL hW hW3 hn hl fl2 hf hr h h') (hP wk (List.mem_of_getElem? q3)) (hL wk (List.mem_of_getElem? q3)) fr2 lr2 q4 q4'
    have e3 : ((backsF S3.at_ hs).map fun a => { S3 with at_ := a, lent := S3.lent.take S.lent.length }) = some S1 := e2
    have e3' : ((backsF T3.at_ hs3).map fun a => { T3 with at_ := a, lent := T3.lent.take T.lent.length }) = some T1 := e2'
    rw [backs_none n1] at e3
    rw [backs_none n2] at e3'
    cases e3
    cases e3'
    exact ⟨M3, F3, fun p q h => m3 _ _ (m2 _ _ (m1 _ _ h)), fun p q h => f3 _ _ (f1 _ _ h), r3.s, r3.d, r3.la⟩
theorem ranF_sim {P : List Wk} {W W3 : List (List Str)} {N N' n n' : Nat} {cells : List Nat} {S T : LS} (hP : ∀ wk ∈ P, wk.body.numsO) (hL : ∀ wk ∈ P, wk.body.lit) (hW : ∀ ws ∈ W, Cpb ws) (hW3 : ∀ ws ∈ W3, Cpw ws) (l3 : cells.length = 3) (lc : Low cells)
    (e : ranF P W N n cells = some S) (e' : ranF P W3 N' n' cells = some T) : S.said = T.said ∧ S.at_.take 3 = T.at_.take 3 := by
  unfold ranF doesF at e e'
  cases q : P[0]? with
  | none => rw [q] at e; cases e
  | some wk =>
  rw [q] at e e'
  have s0 : Sim (fun p q => p = q ∧ p < 3) (fun _ _ => False) cells cells := ⟨fun i hi => ⟨rfl, hi⟩, fun p q p' q' h h' => by omega, fun p q h => by
    obtain ⟨rfl, h⟩ := h
    exact ⟨cells[p], List.getElem?_eq_getElem (by omega), List.getElem?_eq_getElem (by omega)⟩, fun p n h => h.elim, fun p n q h _ => h.elim⟩
  obtain ⟨M2, m2, s2, o2⟩ := s0.many wk.owns
  have fr2 : FrR M2 (fun _ _ => False) (.mk (ownsOf ⟨cells, [], [], 0, false⟩ wk.owns) .nil) (.mk (ownsOf ⟨cells, [], [], 0, false⟩ wk.owns) .nil) := by
    unfold FrR
    refine ⟨rfl, fun k p q hp hq => ?_, by unfold HdsR; trivial⟩
    unfold ownsOf at hp hq
    have l1 := get_lt hp
    rw [List.length_range'] at l1
    rw [List.getElem?_range' l1] at hp hq
    cases hp
    cases hq
    have := o2 k l1
    simpa using this
  have fl2 : (Fr.mk (ownsOf ⟨cells, [], [], 0, false⟩ wk.owns) .nil).lit := by unfold Fr.lit Hds.lit; trivial
  have lr2 : LsR M2 (fun _ _ => False) ((⟨cells, [], [], 0, false⟩ : LS).enter wk.owns) ((⟨cells, [], [], 0, false⟩ : LS).enter wk.owns) := ⟨s2, rfl, lc.app low_rep⟩
  obtain ⟨M3, F3, m3, f3, r3⟩ := iter_sim (G := stepF P W N n (.mk (ownsOf ⟨cells, [], [], 0, false⟩ wk.owns) .nil)) (H := stepF P W3 N' n' (.mk (ownsOf ⟨cells, [], [], 0, false⟩ wk.owns) .nil)) (fun M F S T s S1 T1 hn hl hf hr h h' => stepF_sim hP hL hW hW3 hn hl fl2 hf hr h h') (hP wk (List.mem_of_getElem? q)) (hL wk (List.mem_of_getElem? q)) fr2 lr2 e e'
  refine ⟨r3.d, List.ext_getElem? fun i => ?_⟩
  by_cases c : i < 3
  · rw [List.getElem?_take_of_lt c, List.getElem?_take_of_lt c]
    obtain ⟨v, h1, h2⟩ := r3.s.val i i (r3.s.com i c)
    rw [h1, h2]
  · rw [List.getElem?_take, List.getElem?_take, if_neg c, if_neg c]
end Hw
/-! Who may set what, in Lean: as the program tells it, as the law tells it; they are the same. -/
namespace Hw
open PySem PySem.Spec PyProof.Rows L2

def markT : Th → List Bool → List Bool
  | .par k, ms => ms.set k true
  | .num _, ms => ms
  | .sum _ _, ms => ms
  | .cell _, ms => ms
  | .own _, ms => ms
def markH : List Th → List Str → List Bool → List Bool → List Bool
  | t :: ts, w :: ws, b :: bs, ms => markH ts ws bs (if b = true ∧ w ≠ "copy" then markT t ms else ms)
  | _, _, _, ms => ms
mutual
def markS (W : List (List Str)) (told : List (List Bool)) : St → List Bool → List Bool
  | .set p _, ms => markT p ms
  | .say _, ms => ms
  | .ite _ a b, ms => markB W told b (markB W told a ms)
  | .call w ts, ms => markH ts (W.getD w []) (told.getD w []) ms
def markB (W : List (List Str)) (told : List (List Bool)) : Sts → List Bool → List Bool
  | .nil, ms => ms
  | .cons s r, ms => markB W told r (markS W told s ms)
end
theorem markT_len : ∀ {t : Th} {ms : List Bool}, (markT t ms).length = ms.length
  | .par k, ms => List.length_set ..
  | .num _, _ => rfl
  | .sum _ _, _ => rfl
  | .cell _, _ => rfl
  | .own _, _ => rfl
theorem markH_len : ∀ {ts : List Th} {ws : List Str} {bs ms : List Bool}, (markH ts ws bs ms).length = ms.length
  | [], _, _, _ => by unfold markH; rfl
  | _ :: _, [], _, _ => by unfold markH; rfl
  | _ :: _, _ :: _, [], _ => by unfold markH; rfl
  | t :: ts, w :: ws, b :: bs, ms => by
    unfold markH
    rw [markH_len]
    split
    · exact markT_len
    · rfl
mutual
theorem markS_len {W : List (List Str)} {told : List (List Bool)} : ∀ {s : St} {ms : List Bool}, (markS W told s ms).length = ms.length
  | .set p _, ms => by unfold markS; exact markT_len
  | .say _, ms => by unfold markS; rfl
  | .ite _ a b, ms => by unfold markS; rw [markB_len, markB_len]
  | .call w ts, ms => by unfold markS; exact markH_len
theorem markB_len {W : List (List Str)} {told : List (List Bool)} : ∀ {b : Sts} {ms : List Bool}, (markB W told b ms).length = ms.length
  | .nil, ms => by unfold markB; rfl
  | .cons s r, ms => by unfold markB; rw [markB_len, markS_len]
end
/-- how a body hands its params on, and sets them -/
abbrev Hn := Nat × Option (Nat × Nat)
def hndT (w k : Nat) : List Th → List Hn
  | [] => []
  | .par q :: r => (q, some (w, k)) :: hndT w (k + 1) r
  | .num _ :: r => hndT w (k + 1) r
  | .sum _ _ :: r => hndT w (k + 1) r
  | .cell _ :: r => hndT w (k + 1) r
  | .own _ :: r => hndT w (k + 1) r
theorem hndT_par {w k q : Nat} {r : List Th} : hndT w k (.par q :: r) = (q, some (w, k)) :: hndT w (k + 1) r := rfl
theorem hndT_num {w k n : Nat} {r : List Th} : hndT w k (.num n :: r) = hndT w (k + 1) r := rfl
theorem hndT_sum {w k : Nat} {a b : Th} {r : List Th} : hndT w k (.sum a b :: r) = hndT w (k + 1) r := rfl
theorem hndT_cell {w k : Nat} {a : Th} {r : List Th} : hndT w k (.cell a :: r) = hndT w (k + 1) r := rfl
theorem hndT_own {w k n : Nat} {r : List Th} : hndT w k (.own n :: r) = hndT w (k + 1) r := rfl
mutual
def hndS : St → List Hn
  | .set (.par k) _ => [(k, none)]
  | .set (.num _) _ => []
  | .set (.sum _ _) _ => []
  | .set (.cell _) _ => []
  | .set (.own _) _ => []
  | .say _ => []
  | .ite _ a b => hndB a ++ hndB b
  | .call w ts => hndT w 0 ts
def hndB : Sts → List Hn
  | .nil => []
  | .cons s r => hndS s ++ hndB r
end
/-- a handing does so, by what is told of others -/
def Hits (W : List (List Str)) (g : Nat → Nat → Prop) (p : Nat) (h : Hn) : Prop := h.1 = p ∧ (h.2 = none ∨ ∃ w k way, h.2 = some (w, k) ∧ (W.getD w [])[k]? = some way ∧ way ≠ "copy" ∧ g w k)
theorem set_true {ms : List Bool} {k p : Nat} : (ms.set k true)[p]? = some true ↔ ms[p]? = some true ∨ (p < ms.length ∧ k = p) := by
  rw [List.getElem?_set]
  by_cases c : k = p
  · subst c
    by_cases d : k < ms.length
    · rw [if_pos rfl, if_pos d]
      exact ⟨fun _ => .inr ⟨d, rfl⟩, fun _ => rfl⟩
    · rw [if_pos rfl, if_neg d]
      constructor
      · intro h; cases h
      · rintro (h | h)
        · have := (List.getElem?_eq_some_iff.mp h).1; omega
        · exact absurd h.1 d
  · rw [if_neg c]
    exact ⟨.inl, fun h => h.elim id fun h => absurd h.2 c⟩
theorem markH_iff {W : List (List Str)} {told : List (List Bool)} {w p : Nat} : ∀ {ts : List Th} {k : Nat} {ms : List Bool}, (markH ts ((W.getD w []).drop k) ((told.getD w []).drop k) ms)[p]? = some true ↔
    ms[p]? = some true ∨ (p < ms.length ∧ ∃ h ∈ hndT w k ts, Hits W (fun w k => (told.getD w [])[k]? = some true) p h)
  | [], k, ms => by
    unfold markH hndT
    exact ⟨.inl, fun h => h.elim id fun ⟨_, h, q, _⟩ => nomatch q⟩
  | t :: ts, k, ms => by
    have none_of : ((W.getD w []).length ≤ k ∨ (told.getD w []).length ≤ k) → ∀ (ts : List Th) (j : Nat), k ≤ j → ¬ ∃ h ∈ hndT w j ts, Hits W (fun w k => (told.getD w [])[k]? = some true) p h := fun hl ts => by
      induction ts with
      | nil => intro j _ ⟨h, q, _⟩; unfold hndT at q; cases q
      | cons t ts ih =>
        intro j hj ⟨h, q, hh⟩
        cases t with
        | par x =>
          rw [hndT_par] at q
          rcases List.mem_cons.mp q with rfl | q
          · obtain ⟨_, hh | ⟨w', k', way, e, h1, h2, h3⟩⟩ := hh
            · cases hh
            · cases e
              have a1 := (List.getElem?_eq_some_iff.mp h1).1
              have a2 := (List.getElem?_eq_some_iff.mp h3).1
              omega
          · exact ih (j + 1) (by omega) ⟨h, q, hh⟩
        | num _ => rw [hndT_num] at q; exact ih (j + 1) (by omega) ⟨h, q, hh⟩
        | sum _ _ => rw [hndT_sum] at q; exact ih (j + 1) (by omega) ⟨h, q, hh⟩
        | cell _ => rw [hndT_cell] at q; exact ih (j + 1) (by omega) ⟨h, q, hh⟩
        | own _ => rw [hndT_own] at q; exact ih (j + 1) (by omega) ⟨h, q, hh⟩
    by_cases c1 : k < (W.getD w []).length
    · by_cases c2 : k < (told.getD w []).length
      · rw [List.drop_eq_getElem_cons c1, List.drop_eq_getElem_cons c2]
        unfold markH
        rw [markH_iff (ts := ts) (k := k + 1)]
        have e1 : (W.getD w [])[k]? = some (W.getD w [])[k] := List.getElem?_eq_getElem c1
        have e2 : (told.getD w [])[k]? = some (told.getD w [])[k] := List.getElem?_eq_getElem c2
        have same : ∀ ms' : List Bool, ms'.length = ms.length → (t.isPlace = true → True) → ((∀ q, t ≠ .par q) → ms' = ms) → (∀ q, t = .par q → (ms'[p]? = some true ↔ ms[p]? = some true ∨ (p < ms.length ∧ Hits W (fun w k => (told.getD w [])[k]? = some true) p (q, some (w, k))))) →
            ((ms'[p]? = some true ∨ (p < ms'.length ∧ ∃ h ∈ hndT w (k + 1) ts, Hits W (fun w k => (told.getD w [])[k]? = some true) p h)) ↔ (ms[p]? = some true ∨ (p < ms.length ∧ ∃ h ∈ hndT w k (t :: ts), Hits W (fun w k => (told.getD w [])[k]? = some true) p h))) := fun ms' hl _ hn hp => by
          rw [hl]
          cases t with
          | par q =>
            rw [hp q rfl, hndT_par]
            constructor
            · rintro ((h | ⟨l, h⟩) | ⟨l, h, m, hh⟩)
              · exact .inl h
              · exact .inr ⟨l, _, List.mem_cons_self, h⟩
              · exact .inr ⟨l, h, List.mem_cons_of_mem _ m, hh⟩
            · rintro (h | ⟨l, h, m, hh⟩)
              · exact .inl (.inl h)
              · rcases List.mem_cons.mp m with rfl | m
                · exact .inl (.inr ⟨l, hh⟩)
                · exact .inr ⟨l, h, m, hh⟩
          | num _ => rw [hn fun _ z => (by cases z), hndT_num]
          | sum _ _ => rw [hn fun _ z => (by cases z), hndT_sum]
          | cell _ => rw [hn fun _ z => (by cases z), hndT_cell]
          | own _ => rw [hn fun _ z => (by cases z), hndT_own]
        refine same _ (by split; exact markT_len; rfl) (fun _ => trivial) (fun hn => ?_) fun q hq => ?_
        · split
          · cases t with
            | par q => exact absurd rfl (hn q)
            | _ => rfl
          · rfl
        · subst hq
          by_cases c : (told.getD w [])[k] = true ∧ (W.getD w [])[k] ≠ "copy"
          · rw [if_pos c]
            show (ms.set q true)[p]? = some true ↔ _
            rw [set_true]
            constructor
            · rintro (h | ⟨h, rfl⟩)
              · exact .inl h
              · exact .inr ⟨h, rfl, .inr ⟨w, k, _, rfl, e1, c.2, by show (told.getD w [])[k]? = some true; rw [e2, c.1]⟩⟩
            · rintro (h | ⟨h, e, _⟩)
              · exact .inl h
              · exact .inr ⟨h, e⟩
          · rw [if_neg c]
            constructor
            · exact .inl
            · rintro (h | ⟨h, e, z | ⟨w', k', way, ez, h1, h2, h3⟩⟩)
              · exact h
              · cases z
              · cases ez
                refine absurd ⟨?_, ?_⟩ c
                · rw [e2] at h3; exact Option.some.inj h3
                · rw [e1] at h1; rw [Option.some.inj h1]; exact h2
      · rw [List.drop_eq_getElem_cons c1, List.drop_of_length_le (Nat.not_lt.mp c2)]
        unfold markH
        exact ⟨.inl, fun h => h.elim id fun ⟨_, h⟩ => absurd h (none_of (.inr (Nat.not_lt.mp c2)) _ k (Nat.le_refl _))⟩
    · rw [List.drop_of_length_le (Nat.not_lt.mp c1)]
      unfold markH
      exact ⟨.inl, fun h => h.elim id fun ⟨_, h⟩ => absurd h (none_of (.inl (Nat.not_lt.mp c1)) _ k (Nat.le_refl _))⟩
mutual
theorem markS_iff {W : List (List Str)} {told : List (List Bool)} {p : Nat} : ∀ {s : St} {ms : List Bool}, (markS W told s ms)[p]? = some true ↔ ms[p]? = some true ∨ (p < ms.length ∧ ∃ h ∈ hndS s, Hits W (fun w k => (told.getD w [])[k]? = some true) p h)
  | .set (.par q) t, ms => by
    unfold markS markT hndS
    rw [set_true]
    constructor
    · rintro (h | ⟨h, rfl⟩)
      · exact .inl h
      · exact .inr ⟨h, _, List.mem_singleton.mpr rfl, rfl, .inl rfl⟩
    · rintro (h | ⟨h, x, m, e, _⟩)
      · exact .inl h
      · cases List.mem_singleton.mp m
        exact .inr ⟨h, e⟩
  | .set (.num _) t, ms => by unfold markS markT hndS; exact ⟨.inl, fun h => h.elim id fun ⟨_, h, q, _⟩ => nomatch q⟩
  | .set (.sum _ _) t, ms => by unfold markS markT hndS; exact ⟨.inl, fun h => h.elim id fun ⟨_, h, q, _⟩ => nomatch q⟩
  | .set (.cell _) t, ms => by unfold markS markT hndS; exact ⟨.inl, fun h => h.elim id fun ⟨_, h, q, _⟩ => nomatch q⟩
  | .set (.own _) t, ms => by unfold markS markT hndS; exact ⟨.inl, fun h => h.elim id fun ⟨_, h, q, _⟩ => nomatch q⟩
  | .say _, ms => by unfold markS hndS; exact ⟨.inl, fun h => h.elim id fun ⟨_, h, q, _⟩ => nomatch q⟩
  | .ite _ a b, ms => by
    unfold markS hndS
    rw [markB_iff, markB_iff, markB_len]
    constructor
    · rintro ((h | ⟨l, h, m, q⟩) | ⟨l, h, m, q⟩)
      · exact .inl h
      · exact .inr ⟨l, h, List.mem_append_left _ m, q⟩
      · exact .inr ⟨l, h, List.mem_append_right _ m, q⟩
    · rintro (h | ⟨l, h, m, q⟩)
      · exact .inl (.inl h)
      · rcases List.mem_append.mp m with m | m
        · exact .inl (.inr ⟨l, h, m, q⟩)
        · exact .inr ⟨l, h, m, q⟩
  | .call w ts, ms => by
    unfold markS hndS
    exact markH_iff (k := 0)
theorem markB_iff {W : List (List Str)} {told : List (List Bool)} {p : Nat} : ∀ {b : Sts} {ms : List Bool}, (markB W told b ms)[p]? = some true ↔ ms[p]? = some true ∨ (p < ms.length ∧ ∃ h ∈ hndB b, Hits W (fun w k => (told.getD w [])[k]? = some true) p h)
  | .nil, ms => by unfold markB hndB; exact ⟨.inl, fun h => h.elim id fun ⟨_, h, q, _⟩ => nomatch q⟩
  | .cons s r, ms => by
    unfold markB hndB
    rw [markB_iff, markS_iff, markS_len]
    constructor
    · rintro ((h | ⟨l, h, m, q⟩) | ⟨l, h, m, q⟩)
      · exact .inl h
      · exact .inr ⟨l, h, List.mem_append_left _ m, q⟩
      · exact .inr ⟨l, h, List.mem_append_right _ m, q⟩
    · rintro (h | ⟨l, h, m, q⟩)
      · exact .inl (.inl h)
      · rcases List.mem_append.mp m with m | m
        · exact .inl (.inr ⟨l, h, m, q⟩)
        · exact .inr ⟨l, h, m, q⟩
end
/-- what may be set -/
inductive MS (P : List Wk) (W : List (List Str)) : Nat → Nat → Prop
  | set {i p : Nat} {wk : Wk} : P[i]? = some wk → (p, none) ∈ hndB wk.body → MS P W i p
  | call {i p w k : Nat} {wk : Wk} {way : Str} : P[i]? = some wk → (p, some (w, k)) ∈ hndB wk.body → (W.getD w [])[k]? = some way → way ≠ "copy" → MS P W w k → MS P W i p
theorem MS.of {P : List Wk} {W : List (List Str)} {g : Nat → Nat → Prop} {i p : Nat} {wk : Wk} {h : Hn} (e : P[i]? = some wk) (m : h ∈ hndB wk.body) (hg : ∀ w k, g w k → MS P W w k) (q : Hits W g p h) : MS P W i p := by
  obtain ⟨a, b⟩ := h
  obtain ⟨rfl, rfl | ⟨w, k, way, rfl, h1, h2, h3⟩⟩ := q
  · exact .set e m
  · exact .call e m h1 h2 (hg w k h3)
/-- as the program goes: so many works, from the last -/
def toldF (P : List Wk) (W : List (List Str)) : Nat → List (List Bool)
  | 0 => List.replicate P.length []
  | j + 1 => match P[P.length - 1 - j]? with
    | some wk => (toldF P W j).set (P.length - 1 - j) (markB W (toldF P W j) wk.body (List.replicate wk.params false))
    | none => toldF P W j
def maySet (P : List Wk) (W : List (List Str)) : List (List Bool) := toldF P W P.length
theorem toldF_len {P : List Wk} {W : List (List Str)} : ∀ j, (toldF P W j).length = P.length
  | 0 => List.length_replicate
  | j + 1 => by
    unfold toldF
    cases P[P.length - 1 - j]? with
    | none => exact toldF_len j
    | some wk => exact (List.length_set ..).trans (toldF_len j)
/-- calls go to later works alone -/
def Later (P : List Wk) : Prop := ∀ (i : Nat) (wk : Wk) (h : Hn), P[i]? = some wk → h ∈ hndB wk.body → h.1 < wk.params ∧ ∀ w k, h.2 = some (w, k) → i < w ∧ w < P.length
theorem MS.lt {P : List Wk} {W : List (List Str)} (L : Later P) {i p : Nat} (m : MS P W i p) : ∃ wk, P[i]? = some wk ∧ p < wk.params := by
  cases m with
  | set e m => exact ⟨_, e, (L _ _ _ e m).1⟩
  | call e m _ _ _ => exact ⟨_, e, (L _ _ _ e m).1⟩
theorem toldF_iff {P : List Wk} {W : List (List Str)} (L : Later P) : ∀ j, j ≤ P.length → ∀ i, P.length - j ≤ i → ∀ p, ((toldF P W j).getD i [])[p]? = some true ↔ MS P W i p
  | 0, _, i, hi, p => by
    unfold toldF
    have e : (List.replicate P.length ([] : List Bool)).getD i [] = [] := by
      rw [List.getD_eq_getElem?_getD]
      cases q : (List.replicate P.length ([] : List Bool))[i]? with
      | none => rfl
      | some x => exact (List.mem_replicate.mp (List.mem_of_getElem? q)).2
    rw [e]
    constructor
    · intro h; simp at h
    · intro h
      obtain ⟨wk, e, _⟩ := h.lt L
      have := (List.getElem?_eq_some_iff.mp e).1
      omega
  | j + 1, hj, i, hi, p => by
    have ih := toldF_iff (W := W) L j (by omega)
    have hl := toldF_len (P := P) (W := W) j
    have hw : P.length - 1 - j < P.length := by omega
    have ew : P[P.length - 1 - j]? = some P[P.length - 1 - j] := List.getElem?_eq_getElem hw
    unfold toldF
    rw [ew]
    show (((toldF P W j).set (P.length - 1 - j) (markB W (toldF P W j) P[P.length - 1 - j].body (List.replicate P[P.length - 1 - j].params false))).getD i [])[p]? = some true ↔ _
    by_cases c : P.length - 1 - j = i
    · subst c
      rw [List.getD_eq_getElem?_getD, List.getElem?_set, if_pos rfl, if_pos (by rw [hl]; exact hw)]
      show (markB W (toldF P W j) P[P.length - 1 - j].body (List.replicate P[P.length - 1 - j].params false))[p]? = some true ↔ _
      rw [markB_iff]
      constructor
      · rintro (h | ⟨l, h, m, q⟩)
        · exact absurd (List.mem_replicate.mp (List.mem_of_getElem? h)).2 (by decide)
        · obtain ⟨a, b⟩ := h
          obtain ⟨rfl, rfl | ⟨w, k, way, rfl, h1, h2, h3⟩⟩ := q
          · exact .set ew m
          · exact .call ew m h1 h2 ((ih w (by have := ((L _ _ _ ew m).2 w k rfl).1; omega) k).mp h3)
      · intro h
        right
        have lt := h.lt L
        obtain ⟨wk, e, lp⟩ := lt
        rw [ew] at e
        cases e
        refine ⟨by rw [List.length_replicate]; exact lp, ?_⟩
        cases h with
        | set e m =>
          rw [ew] at e
          cases e
          exact ⟨_, m, rfl, .inl rfl⟩
        | call e m h1 h2 h3 =>
          rw [ew] at e
          cases e
          exact ⟨_, m, rfl, .inr ⟨_, _, _, rfl, h1, h2, (ih _ (by have := ((L _ _ _ ew m).2 _ _ rfl).1; omega) _).mpr h3⟩⟩
    · rw [List.getD_eq_getElem?_getD, List.getElem?_set, if_neg c, ← List.getD_eq_getElem?_getD]
      exact ih i (by omega) p
/-- as the law goes -/
def hitB (W : List (List Str)) (good : List (Nat × Nat)) (h : Hn) : Bool := match h.2 with
  | none => true
  | some (w, k) => decide ((w, k) ∈ good) && !decide ((W.getD w []).getD k "" = "copy")
def goH (W : List (List Str)) (i : Nat) : List Hn → List (Nat × Nat) → List (Nat × Nat)
  | [], g => g
  | h :: r, g => goH W i r (if hitB W g h = true then g ++ [(i, h.1)] else g)
def goW (W : List (List Str)) : Nat → List Wk → List (Nat × Nat) → List (Nat × Nat)
  | _, [], g => g
  | i, wk :: r, g => goW W (i + 1) r (goH W i (hndB wk.body) g)
def goT (P : List Wk) (W : List (List Str)) : Nat → List (Nat × Nat)
  | 0 => []
  | t + 1 => goW W 0 P (goT P W t)
theorem hitB_sound {P : List Wk} {W : List (List Str)} (hW : ∀ (i : Nat) (wk : Wk) (h : Hn) (w k : Nat), P[i]? = some wk → h ∈ hndB wk.body → h.2 = some (w, k) → k < (W.getD w []).length) {i : Nat} {wk : Wk} {h : Hn} {g : List (Nat × Nat)} (e : P[i]? = some wk) (m : h ∈ hndB wk.body) :
    hitB W g h = true ↔ Hits W (fun w k => (w, k) ∈ g) h.1 h := by
  obtain ⟨a, b⟩ := h
  unfold hitB Hits
  cases b with
  | none => exact ⟨fun _ => ⟨rfl, .inl rfl⟩, fun _ => rfl⟩
  | some wk2 =>
    obtain ⟨w, k⟩ := wk2
    have hk := hW i wk _ w k e m rfl
    have e1 : (W.getD w [])[k]? = some (W.getD w [])[k] := List.getElem?_eq_getElem hk
    show (decide ((w, k) ∈ g) && !decide ((W.getD w []).getD k "" = "copy")) = true ↔ _
    rw [Bool.and_eq_true, decide_eq_true_eq, Bool.not_eq_true', decide_eq_false_iff_not]
    have e2 : (W.getD w []).getD k "" = (W.getD w [])[k] := by rw [List.getD_eq_getElem?_getD, e1]; rfl
    rw [e2]
    constructor
    · rintro ⟨h1, h2⟩
      exact ⟨rfl, .inr ⟨w, k, _, rfl, e1, h2, h1⟩⟩
    · rintro ⟨_, z | ⟨w', k', way, z, h1, h2, h3⟩⟩
      · cases z
      · cases z
        rw [e1] at h1
        exact ⟨h3, by rw [Option.some.inj h1]; exact h2⟩
theorem goH_sub {W : List (List Str)} {i : Nat} : ∀ {hs : List Hn} {g : List (Nat × Nat)} {x : Nat × Nat}, x ∈ g → x ∈ goH W i hs g
  | [], g, x, h => by unfold goH; exact h
  | y :: r, g, x, h => by
    unfold goH
    refine goH_sub ?_
    split
    · exact List.mem_append_left _ h
    · exact h
theorem goH_mem {W : List (List Str)} {i : Nat} : ∀ {hs : List Hn} {g : List (Nat × Nat)} {h : Hn}, h ∈ hs → hitB W g h = true → (i, h.1) ∈ goH W i hs g
  | [], g, h, m, _ => nomatch m
  | y :: r, g, h, m, q => by
    unfold goH
    rcases List.mem_cons.mp m with rfl | m
    · rw [if_pos q]
      exact goH_sub (List.mem_append_right _ (List.mem_singleton.mpr rfl))
    · refine goH_mem m ?_
      split
      · unfold hitB at q ⊢
        cases e : h.2 with
        | none => rfl
        | some wk =>
          rw [e] at q
          have q' : (decide (wk ∈ g) && !decide ((W.getD wk.1 []).getD wk.2 "" = "copy")) = true := q
          show (decide (wk ∈ g ++ [(i, y.1)]) && !decide ((W.getD wk.1 []).getD wk.2 "" = "copy")) = true
          rw [Bool.and_eq_true] at q' ⊢
          exact ⟨decide_eq_true (List.mem_append_left _ (of_decide_eq_true q'.1)), q'.2⟩
      · exact q
theorem goH_inv {P : List Wk} {W : List (List Str)} (hW : ∀ (i : Nat) (wk : Wk) (h : Hn) (w k : Nat), P[i]? = some wk → h ∈ hndB wk.body → h.2 = some (w, k) → k < (W.getD w []).length) {i : Nat} {wk : Wk} (e : P[i]? = some wk) :
    ∀ {hs : List Hn} {g : List (Nat × Nat)}, (∀ h ∈ hs, h ∈ hndB wk.body) → (∀ x ∈ g, MS P W x.1 x.2) → ∀ x ∈ goH W i hs g, MS P W x.1 x.2
  | [], g, _, hg, x, hx => by unfold goH at hx; exact hg x hx
  | y :: r, g, hs, hg, x, hx => by
    unfold goH at hx
    refine goH_inv hW e (fun h hh => hs h (List.mem_cons_of_mem _ hh)) (fun z hz => ?_) x hx
    split at hz
    · next c =>
      rcases List.mem_append.mp hz with hz | hz
      · exact hg z hz
      · cases List.mem_singleton.mp hz
        have m := hs y List.mem_cons_self
        exact MS.of e m (fun w k q => hg (w, k) q) ((hitB_sound hW e m).mp c)
    · exact hg z hz
theorem goW_sub {W : List (List Str)} : ∀ {ps : List Wk} {i : Nat} {g : List (Nat × Nat)} {x : Nat × Nat}, x ∈ g → x ∈ goW W i ps g
  | [], i, g, x, h => by unfold goW; exact h
  | y :: r, i, g, x, h => by unfold goW; exact goW_sub (goH_sub h)
theorem goW_inv {P : List Wk} {W : List (List Str)} (hW : ∀ (i : Nat) (wk : Wk) (h : Hn) (w k : Nat), P[i]? = some wk → h ∈ hndB wk.body → h.2 = some (w, k) → k < (W.getD w []).length) :
    ∀ {ps : List Wk} {i : Nat} {g : List (Nat × Nat)}, P.drop i = ps → (∀ x ∈ g, MS P W x.1 x.2) → ∀ x ∈ goW W i ps g, MS P W x.1 x.2
  | [], i, g, _, hg, x, hx => by unfold goW at hx; exact hg x hx
  | y :: r, i, g, e, hg, x, hx => by
    unfold goW at hx
    have hy : P[i]? = some y := by have h := List.getElem?_drop (xs := P) (i := i) (j := 0); rw [e, Nat.add_zero] at h; exact h.symm
    have hr : P.drop (i + 1) = r := by rw [← List.drop_drop, e]; rfl
    exact goW_inv hW hr (goH_inv hW hy (fun h hh => hh) hg) x hx
theorem goW_mem {P : List Wk} {W : List (List Str)} (hW : ∀ (i : Nat) (wk : Wk) (h : Hn) (w k : Nat), P[i]? = some wk → h ∈ hndB wk.body → h.2 = some (w, k) → k < (W.getD w []).length) :
    ∀ {ps : List Wk} {i : Nat} {g : List (Nat × Nat)} {j : Nat} {wk : Wk} {h : Hn}, P.drop i = ps → i ≤ j → P[j]? = some wk → h ∈ hndB wk.body → hitB W g h = true → (j, h.1) ∈ goW W i ps g
  | [], i, g, j, wk, h, e, l, ej, m, q => by
    have := (List.getElem?_eq_some_iff.mp ej).1
    have := congrArg List.length e
    rw [List.length_drop] at this
    simp at this
    omega
  | y :: r, i, g, j, wk, h, e, l, ej, m, q => by
    unfold goW
    have hy : P[i]? = some y := by have h := List.getElem?_drop (xs := P) (i := i) (j := 0); rw [e, Nat.add_zero] at h; exact h.symm
    have hr : P.drop (i + 1) = r := by rw [← List.drop_drop, e]; rfl
    by_cases c : i = j
    · subst c
      rw [hy] at ej
      cases ej
      exact goW_sub (goH_mem m q)
    · refine goW_mem hW hr (by omega) ej m ?_
      unfold hitB at q ⊢
      cases e2 : h.2 with
      | none => rfl
      | some wk2 =>
        rw [e2] at q
        have q' : (decide (wk2 ∈ g) && !decide ((W.getD wk2.1 []).getD wk2.2 "" = "copy")) = true := q
        show (decide (wk2 ∈ goH W i (hndB y.body) g) && !decide ((W.getD wk2.1 []).getD wk2.2 "" = "copy")) = true
        rw [Bool.and_eq_true] at q' ⊢
        exact ⟨decide_eq_true (goH_sub (of_decide_eq_true q'.1)), q'.2⟩
theorem goT_inv {P : List Wk} {W : List (List Str)} (hW : ∀ (i : Nat) (wk : Wk) (h : Hn) (w k : Nat), P[i]? = some wk → h ∈ hndB wk.body → h.2 = some (w, k) → k < (W.getD w []).length) : ∀ t, ∀ x ∈ goT P W t, MS P W x.1 x.2
  | 0, x, hx => by unfold goT at hx; cases hx
  | t + 1, x, hx => by
    unfold goT at hx
    exact goW_inv hW (i := 0) rfl (goT_inv hW t) x hx
theorem goT_mem {P : List Wk} {W : List (List Str)} (L : Later P) (hW : ∀ (i : Nat) (wk : Wk) (h : Hn) (w k : Nat), P[i]? = some wk → h ∈ hndB wk.body → h.2 = some (w, k) → k < (W.getD w []).length) :
    ∀ t i p, P.length - t ≤ i → MS P W i p → (i, p) ∈ goT P W t
  | 0, i, p, hi, m => by
    obtain ⟨wk, e, _⟩ := m.lt L
    have := (List.getElem?_eq_some_iff.mp e).1
    omega
  | t + 1, i, p, hi, m => by
    unfold goT
    cases m with
    | set e m => exact goW_mem hW (i := 0) (h := (p, none)) rfl (Nat.zero_le _) e m rfl
    | call e m h1 h2 h3 =>
      refine goW_mem hW (i := 0) (h := (p, some _)) rfl (Nat.zero_le _) e m ?_
      have l := ((L _ _ _ e m).2 _ _ rfl)
      exact (hitB_sound hW e m).mpr ⟨rfl, .inr ⟨_, _, _, rfl, h1, h2, goT_mem L hW t _ _ (by omega) h3⟩⟩
/-- the law's answer: of each work and param -/
def lawSet (P : List Wk) (W : List (List Str)) (t : Nat) : List (List Bool) := (List.range P.length).map fun i => (List.range (P.getD i ⟨0, 0, .nil⟩).params).map fun p => decide ((i, p) ∈ goT P W t)
theorem toldF_row {P : List Wk} {W : List (List Str)} : ∀ j i, j ≤ P.length → P.length - j ≤ i → i < P.length → ((toldF P W j).getD i []).length = (P.getD i ⟨0, 0, .nil⟩).params
  | 0, i, _, h1, h2 => by omega
  | j + 1, i, hj, h1, h2 => by
    have hl := toldF_len (P := P) (W := W) j
    have hw : P.length - 1 - j < P.length := by omega
    have ew : P[P.length - 1 - j]? = some P[P.length - 1 - j] := List.getElem?_eq_getElem hw
    unfold toldF
    rw [ew]
    show (((toldF P W j).set (P.length - 1 - j) (markB W (toldF P W j) P[P.length - 1 - j].body (List.replicate P[P.length - 1 - j].params false))).getD i []).length = _
    by_cases c : P.length - 1 - j = i
    · subst c
      rw [List.getD_eq_getElem?_getD, List.getElem?_set, if_pos rfl, if_pos (by rw [hl]; exact hw), List.getD_eq_getElem?_getD, ew]
      show (markB W (toldF P W j) P[P.length - 1 - j].body (List.replicate P[P.length - 1 - j].params false)).length = P[P.length - 1 - j].params
      rw [markB_len, List.length_replicate]
    · rw [List.getD_eq_getElem?_getD, List.getElem?_set, if_neg c, ← List.getD_eq_getElem?_getD]
      exact toldF_row j i (by omega) (by omega) h2
theorem bool_ext {a b : List Bool} (l : a.length = b.length) (h : ∀ p : Nat, a[p]? = some true ↔ b[p]? = some true) : a = b := by
  refine List.ext_getElem l fun i h1 h2 => ?_
  have := h i
  rw [List.getElem?_eq_getElem h1, List.getElem?_eq_getElem h2] at this
  have h3 : a[i] = true ↔ b[i] = true := ⟨fun e => Option.some.inj (this.mp (congrArg some e)), fun e => Option.some.inj (this.mpr (congrArg some e))⟩
  exact Bool.eq_iff_iff.mpr h3
theorem lawSet_eq {P : List Wk} {W : List (List Str)} (L : Later P) (hW : ∀ (i : Nat) (wk : Wk) (h : Hn) (w k : Nat), P[i]? = some wk → h ∈ hndB wk.body → h.2 = some (w, k) → k < (W.getD w []).length) {t : Nat} (ht : P.length ≤ t) : lawSet P W t = maySet P W := by
  refine List.ext_getElem? fun i => ?_
  have hl2 := toldF_len (P := P) (W := W) P.length
  by_cases hi : i < P.length
  case neg =>
    rw [List.getElem?_eq_none (l := maySet P W) (by unfold maySet; omega)]
    unfold lawSet
    rw [List.getElem?_map, List.getElem?_eq_none (by rw [List.length_range]; omega)]
    rfl
  have e1 : (lawSet P W t)[i]? = some ((List.range (P.getD i ⟨0, 0, .nil⟩).params).map fun p => decide ((i, p) ∈ goT P W t)) := by
    unfold lawSet
    rw [List.getElem?_map, List.getElem?_range hi]
    rfl
  have e2 : (maySet P W)[i]? = some ((toldF P W P.length).getD i []) := by
    unfold maySet
    rw [List.getD_eq_getElem?_getD, List.getElem?_eq_getElem (by omega)]
    rfl
  rw [e1, e2]
  refine congrArg some ?_
  have e3 := toldF_row (P := P) (W := W) P.length i (Nat.le_refl _) (by omega) hi
  refine bool_ext (by rw [List.length_map, List.length_range, e3]) fun p => ?_
  rw [toldF_iff L P.length (Nat.le_refl _) i (by omega) p, List.getElem?_map]
  constructor
  · intro h
    obtain ⟨q, hq, e⟩ := Option.map_eq_some_iff.mp h
    have := (List.getElem?_eq_some_iff.mp hq)
    obtain ⟨l, eq⟩ := this
    rw [List.getElem_range] at eq
    subst eq
    exact goT_inv hW t _ (of_decide_eq_true e)
  · intro m
    obtain ⟨wk, e, lp⟩ := m.lt L
    have : (P.getD i ⟨0, 0, .nil⟩).params = wk.params := by rw [List.getD_eq_getElem?_getD, e]; rfl
    rw [this, List.getElem?_range lp]
    exact congrArg some (decide_eq_true (goT_mem L hW t i p (by omega) m))
end Hw
/-! enumerate over a tuple. -/
namespace Hw
open PySem PySem.Spec PyProof.Rows L2
theorem meets_enum1 {v : Value} {o : Obj} {H : Heap → Prop} (B : Begins v o H) :
    Meets (Builtin.«enumerate.__new__» ⟨[.type "enumerate", v], []⟩) (fun _ R s => H s.heap ∧
      R (.ok (.ret (.ref (s.heap.push o).objs.size))) { s with heap := (s.heap.push o).push { cls := .type "enumerate", data := .fields #[.none, .bool false, .ref s.heap.objs.size, rawInt 0, .none, .none] } }) :=
  .of_wp fun prog w A R s h => by
    obtain ⟨hp, g, d, tk, os⟩ := s; obtain ⟨h1, h⟩ := h
    have hsub := sub_enumerate
    have q1 : ∀ {A' : Around} {E : Value → Shared → Prop} {Q : Value → Shared → Prop}, Q (.ref hp.objs.size) ⟨hp.push o, g, d, tk, os⟩ → wpAny (model prog w) A' (pyIter v) Q E ⟨hp, g, d, tk, os⟩ :=
      fun q => B.iter prog w _ _ ⟨hp, g, d, tk, os⟩ _ h1 q
    wp_walk using q1
    refine wpAny_stack_any fun st => wpAny_pure ?_
    split
    · rename_i c _ _ _ _ _
      cases (c == Value.type "enumerate")
      · wp_walk using q1
        exact ⟨_, rfl, h⟩
      · wp_walk using q1
        exact ⟨_, rfl, h⟩
    · wp_walk using q1
      exact ⟨_, rfl, h⟩
section
variable {prog : Program} {w : World} {A : Around} {E : Value → Shared → Prop} {s : Shared}
theorem enum_tuple {t : Addr} {items : Array Value} {Q : Value → Shared → Prop} (h1 : s.heap.IsTuple t items)
    (h : ∀ h', IsEnum h' (s.heap.objs.size + 1) s.heap.objs.size 0 .none → h'.IsTupleIter s.heap.objs.size t 0 → h'.objs.size = s.heap.objs.size + 2 →
      (∀ b o, s.heap.get? b = some o → h'.get? b = some o) → Q (.ref (s.heap.objs.size + 1)) { s with heap := h' }) :
    wpAny (model prog w) A (call (.type "enumerate") [.ref t]) Q E s := by
  have B := begins_tuple t items
  refine callType_new F.called_enumerate (by decide) (F.typeCall_enumerate_1 _) (F.newCall_enumerate_1 _) (fun obj => F.args_object_init_2 obj _) F.entry_enumerate_new (meets_enum1 B) ⟨h1, ?_⟩
  have hz : (s.heap.push { cls := .type "tuple_iterator", data := .fields #[.ref t, .int 0 0] }).objs.size = s.heap.objs.size + 1 := Heap.size_push ..
  show _ ∧ _
  rw [hz]
  have he : IsEnum ((s.heap.push { cls := .type "tuple_iterator", data := .fields #[.ref t, .int 0 0] }).push { cls := .type "enumerate", data := .fields #[.none, .bool false, .ref s.heap.objs.size, rawInt 0, .none, .none] }) (s.heap.objs.size + 1) s.heap.objs.size 0 .none := by
    have := Heap.get?_push_size (s.heap.push { cls := .type "tuple_iterator", data := .fields #[.ref t, .int 0 0] }) (o := { cls := .type "enumerate", data := .fields #[.none, .bool false, .ref s.heap.objs.size, rawInt 0, .none, .none] }) rfl
    rw [hz] at this; exact this
  refine ⟨⟨_, he, rfl⟩, h _ he ⟨_, Heap.get?_push_of_some _ (Heap.get?_push_size _ rfl), rfl, rfl⟩ (by rw [Heap.size_push, hz]) fun b o x => Heap.get?_push_of_some _ (Heap.get?_push_of_some _ x)⟩
end
/-- the tuple at a as it stands at each turn, each item in a new pair -/
def IteT (K : PySem.W.Frag) (a : Addr) : It :=
  ⟨fun i H => ∃ (xs : List V) (x : V), SqT K H a xs ∧ xs[i]? = some x, fun i H v H' => ∃ T x, v = .ref T ∧ H T = none ∧ H' = upd H T (.tup [.int (i : Nat), x]) ∧ ∀ xs, SqT K H a xs → xs[i]? = some x, fun i H => ∃ xs : List V, SqT K H a xs ∧ xs.length = i⟩
theorem turn_enumT {P : Program} {w : World} {K : PySem.W.Frag} {elts : List Expr} {kk : Nat} {tpos : Pos} (a e it : Addr) :
    Turn P w K (.Tuple elts kk tpos) (IteT K a) [e, it] e (fun i h => (∃ old, IsEnum h e it ((i : Nat) : Int) old) ∧ h.IsTupleIter it a i ∧ e ≠ it ∧ e ≠ a ∧ a ≠ it) where
  mem := by simp
  obj := fun i h st b hb => by
    obtain ⟨⟨old, he⟩, ⟨o, ho, hc, hd⟩, _⟩ := st
    have e' : b = e ∨ b = it := by simpa using hb
    rcases e' with z | z
    · rw [z]; exact ⟨_, he, fun v q => nomatch q⟩
    · rw [z]; exact ⟨o, ho, fun v q => by rw [hd] at q; cases q⟩
  keep := fun i h h' st k => let ⟨⟨old, he⟩, hi, hne⟩ := st; ⟨⟨old, k e (by simp) _ he⟩, hi.at fun o q => k it (by simp) o q, hne⟩
  item := by
    intro X hP hw hK hc i pins s σ H E I hf st hg
    subst hP hw hK
    obtain ⟨⟨old, he⟩, hit, hne, hea, hai⟩ := st
    obtain ⟨xs, x, hq, hx⟩ := hg
    obtain ⟨its, rv, p, hz⟩ := I.tuple hq
    obtain ⟨u, hu, ru⟩ := rv.get hx
    have hel : e < s.heap.objs.size := Heap.lt_size he
    have hil : it < s.heap.objs.size := by obtain ⟨_, q, _⟩ := hit; exact Heap.lt_size q
    have hlt : i < its.length := (List.getElem?_eq_some_iff.mp hu).1
    have D := Draws.tuple (prog := X.prog) (w := X.w) (A := X.A.in1) (show X.A.in1.handled = none from I.ok.hd hc) it a hai its.toArray
    refine wpAny_pyNext_enum_itemD D he ⟨hit, p⟩ (by simpa using hlt) hne (by simp [hne, hea]) fun u' h' tk hu' ho hst hT hsz hk => ?_
    have eu : u' = u := by
      have q : its[i]? = some u' := by simpa using hu'
      rw [hu] at q
      exact (Option.some.inj q).symm
    subst eu
    refine ⟨_, rfl, wpAny_letOwnedTupleGo_enum (s := { s with heap := h', toks := tk + 1 }) ho fun h'' he' sb => ?_⟩
    have hT2 : h''.get? s.heap.objs.size = some { cls := .type "tuple", data := .seq #[.int i tk, u'] } := (sb.2 _ (Nat.ne_of_gt hel)).trans hT
    have new : ObjOk X.prog X.w (upd H s.heap.objs.size (.tup [.int (i : Nat), x])) h'' s.heap.objs.size (.tup [.int (i : Nat), x]) :=
      ⟨by show 2 ≤ sizeLine; decide, [.int i tk, u'], .cons ⟨_, rfl⟩ (.cons ru .nil), ⟨_, hT2, rfl, _, rfl⟩⟩
    have I1 : Inv X pins σ (upd H s.heap.objs.size (.tup [.int (i : Nat), x])) { s with heap := h'', toks := tk + 1 } :=
      I.turnedNew (ch := [e, it]) (fun b ob hb q => (sb.2 b (fun z => hb (by simp [z]))).trans (hk b ob (fun z => hb (by simp [z])) (fun z => hb (by simp [z])) q)) hf (Nat.le_refl _) new
    refine ⟨.ref s.heap.objs.size, _, I1, rfl, ⟨_, x, rfl, I.hok.fresh (Nat.le_refl _), rfl, fun ys hy => by rw [I.tuple_inj hy hq]; exact hx⟩, ⟨⟨u', ?_⟩, hst.1.at fun o q => (sb.2 it (Ne.symm hne)).trans q, hne, hea, hai⟩, fun b hb => ?_⟩
    · have e1 : ((i + 1 : Nat) : Int) = (i : Int) + 1 := by omega
      rw [e1]; exact he'
    · have hb' : b < s.heap.objs.size := by
        have e' : b = e ∨ b = it := by simpa using hb
        rcases e' with z | z
        · rw [z]; exact hel
        · rw [z]; exact hil
      rw [upd_ne (Nat.ne_of_lt hb')]
      exact (hf b hb).1
  done := by
    intro X hP hw hK hc i pins s σ H E I hf st hg
    subst hP hw hK
    obtain ⟨⟨old, he⟩, hit, hne, hea, hai⟩ := st
    obtain ⟨xs, hq, hx⟩ := hg
    obtain ⟨its, rv, p, hz⟩ := I.tuple hq
    obtain ⟨f0, f1, f2, f3, f4, f5⟩ := hf it (by simp)
    have hl := rv.length
    have D := Draws.tuple (prog := X.prog) (w := X.w) (A := X.A.in1) (show X.A.in1.handled = none from I.ok.hd hc) it a hai its.toArray
    have ei : i = its.toArray.size := by simp; omega
    exact wpAny_pyNext_enum_endD D he ⟨by rw [← ei]; exact hit, p⟩ fun h' eb => ⟨rfl, I.turned (t' := s.toks) (fun b o hb q => eb b o hb q) f0 f1 f3 f4 f5⟩
  self := fun A i s Q E st h => let ⟨⟨_, he⟩, _⟩ := st; wpAny_pyIter_enum he h
def iEnumT (K : PySem.W.Frag) (ta : TA) : TI := fun σ H R => ta σ H fun vs H1 => ∃ a xs, vs = [.ref a] ∧ SqT K H1 a xs ∧ R (IteT K a) H1
theorem pi_enumT0 {X : Cx} {e : Expr} {ta : TA} {p pos tpos : Pos} {elts : List Expr} {kk : Nat} (hg : Gl X "enumerate") (hm : X.mg "enumerate" = none) (ha : PA X [e] ta) (hs : starEach [e] X.env = [(false, eval e X.env)] := by rfl) :
    PI X (.Tuple elts kk tpos) (.Call (.Name "enumerate" p) [e] [] pos) (iEnumT X.K ta) := by
  refine ⟨fun pins s σ H R I h => ?_⟩
  refine Call_ (ld_blt I hg hm boot_enumerate (PyProof.Rows.callWith_type1 (thn (ha.run pos pins s σ H _ I h) fun us s1 ⟨vs, H1, I1, r1, q1⟩ => ?_) hs rfl))
  obtain ⟨a, xs, ex, hq, q⟩ := q1
  subst ex
  cases r1 with
  | cons r rr =>
    cases rr
    cases r
    obtain ⟨its, rv, p', hz⟩ := I1.tuple hq
    refine enum_tuple p' fun h' he hit hsz hk => wpAny_pyIter_enum he ?_
    have I2 : Inv X pins σ H1 { s1 with heap := h' } := I1.kept (t' := s1.toks) hk
    have hal : a < s1.heap.objs.size := by obtain ⟨o, ho, _⟩ := p'; exact Heap.lt_size ho
    refine ⟨s1.heap.objs.size + 1, [s1.heap.objs.size + 1, s1.heap.objs.size], _, _, H1, rfl, I2, turn_enumT a (s1.heap.objs.size + 1) s1.heap.objs.size, ⟨⟨.none, he⟩, hit, Nat.succ_ne_self _, Nat.ne_of_gt (Nat.lt_succ_of_lt hal), Nat.ne_of_lt hal⟩, fun b hb => ?_, q⟩
    have e' : b = s1.heap.objs.size + 1 ∨ b = s1.heap.objs.size := by simpa using hb
    have hle : s1.heap.objs.size ≤ b := by
      rcases e' with z | z
      · rw [z]; exact Nat.le_add_right _ _
      · rw [z]; exact Nat.le_refl _
    exact I1.fpOk hle (I1.hok.fresh hle)
theorem pi_enumT {X : Cx} {K : PySem.W.Frag} {e : Expr} {ta : TA} {p pos tpos : Pos} {elts : List Expr} {kk : Nat} (hg : Gl X "enumerate") (hm : X.mg "enumerate" = none) (ha : PA X [e] ta) (h : X.K = K := by rfl) (hs : starEach [e] X.env = [(false, eval e X.env)] := by rfl) :
    PI X (.Tuple elts kk tpos) (.Call (.Name "enumerate" p) [e] [] pos) (iEnumT K ta) := h ▸ pi_enumT0 hg hm ha hs
end Hw
/-! zip over a list, a tuple and a list. -/
namespace Hw
open PySem PySem.Spec PyProof.Rows L2
/-- the list at a, the tuple at b, the list at c as they stand at each turn, the items in new triples -/
def Itz3 (K : PySem.W.Frag) (a b c : Addr) : It :=
  ⟨fun i H => ∃ (xs ys zs : List V) (x y z : V), SqL K H a xs ∧ SqT K H b ys ∧ SqL K H c zs ∧ xs[i]? = some x ∧ ys[i]? = some y ∧ zs[i]? = some z,
    fun i H v H' => ∃ T x y z, v = .ref T ∧ H T = none ∧ H' = upd H T (.tup [x, y, z]) ∧ (∀ xs, SqL K H a xs → xs[i]? = some x) ∧ (∀ ys, SqT K H b ys → ys[i]? = some y) ∧ ∀ zs, SqL K H c zs → zs[i]? = some z,
    fun i H => ∃ xs ys zs : List V, SqL K H a xs ∧ SqT K H b ys ∧ SqL K H c zs ∧ xs.length = i ∧ ys.length = i ∧ zs.length = i⟩
theorem turn_zip3 {P : Program} {w : World} {K : PySem.W.Frag} {elts : List Expr} {kk : Nat} {tpos : Pos} {a b c z TI TO i1 i2 i3 : Addr} (S : ZipSep3 z TI TO i1 i2 i3 [i1, a] [i2, b] [i3, c]) (n1 : a ≠ i1) (n2 : b ≠ i2) (n3 : c ≠ i3) :
    Turn P w K (.Tuple elts kk tpos) (Itz3 K a b c) [z, TI, TO, i1, i2, i3] z (fun i h => IsZip h z TI TO .none ∧ IsTupOf3 h TI (.ref i1) (.ref i2) (.ref i3) ∧ (∃ x y u, IsTupOf3 h TO x y u) ∧ h.IsListIter i1 a i ∧ h.IsTupleIter i2 b i ∧ h.IsListIter i3 c i) where
  mem := by simp
  obj := fun i h st d hd => by
    obtain ⟨hz, hTI, ⟨x, y, u, hTO⟩, ⟨o1, e1, _, d1⟩, ⟨o2, e2, _, d2⟩, ⟨o3, e3, _, d3⟩⟩ := st
    have e' : d = z ∨ d = TI ∨ d = TO ∨ d = i1 ∨ d = i2 ∨ d = i3 := by simpa using hd
    rcases e' with q | q | q | q | q | q
    · rw [q]; exact ⟨_, hz, fun v q => nomatch q⟩
    · rw [q]; exact ⟨_, hTI, fun v q => nomatch q⟩
    · rw [q]; exact ⟨_, hTO, fun v q => nomatch q⟩
    · rw [q]; exact ⟨o1, e1, fun v q => by rw [d1] at q; cases q⟩
    · rw [q]; exact ⟨o2, e2, fun v q => by rw [d2] at q; cases q⟩
    · rw [q]; exact ⟨o3, e3, fun v q => by rw [d3] at q; cases q⟩
  keep := fun i h h' st k => by
    obtain ⟨hz, hTI, ⟨x, y, u, hTO⟩, h1, h2, h3⟩ := st
    exact ⟨k z (by simp) _ hz, k TI (by simp) _ hTI, ⟨x, y, u, k TO (by simp) _ hTO⟩, h1.at fun o q => k i1 (by simp) o q, h2.at fun o q => k i2 (by simp) o q, h3.at fun o q => k i3 (by simp) o q⟩
  item := by
    intro X hP hw hK hc i pins s σ H E I hf st hg
    subst hP hw hK
    obtain ⟨hz, hTI, ⟨x0, y0, u0, hTO⟩, h1, h2, h3⟩ := st
    obtain ⟨xs, ys, zs, x, y, zz, hqx, hqy, hqz, hx, hy, hzz⟩ := hg
    obtain ⟨its, rv, p, _⟩ := I.list hqx
    obtain ⟨its2, rv2, p2, _⟩ := I.tuple hqy
    obtain ⟨its3, rv3, p3, _⟩ := I.list hqz
    obtain ⟨u, hu, ru⟩ := rv.get hx
    obtain ⟨u2, hu2, ru2⟩ := rv2.get hy
    obtain ⟨u3, hu3, ru3⟩ := rv3.get hzz
    have hzl : z < s.heap.objs.size := Heap.lt_size hz
    have hh : X.A.in1.handled = none := I.ok.hd hc
    have D1 := Draws.list (prog := X.prog) (w := X.w) (A := X.A.in1) hh i1 a n1 its.toArray
    have D2 := Draws.tuple (prog := X.prog) (w := X.w) (A := X.A.in1) hh i2 b n2 its2.toArray
    have D3 := Draws.list (prog := X.prog) (w := X.w) (A := X.A.in1) hh i3 c n3 its3.toArray
    have l1 : i < its.toArray.size := by simpa using (List.getElem?_eq_some_iff.mp hu).1
    have l2 : i < its2.toArray.size := by simpa using (List.getElem?_eq_some_iff.mp hu2).1
    have l3 : i < its3.toArray.size := by simpa using (List.getElem?_eq_some_iff.mp hu3).1
    refine wpAny_pyNext_zipD3_item S D1 D2 D3 hz hTI hTO ⟨h1, p.isList⟩ ⟨h2, p2⟩ ⟨h3, p3.isList⟩ l1 l2 l3 fun v1 v2 v3 h' tk q1 q2 q3 z' TO' st1 st2 st3 hT hsz hk => ?_
    have e1 : v1 = u := by
      have q : its[i]? = some v1 := by simpa using q1
      rw [hu] at q
      exact (Option.some.inj q).symm
    have e2 : v2 = u2 := by
      have q : its2[i]? = some v2 := by simpa using q2
      rw [hu2] at q
      exact (Option.some.inj q).symm
    have e3 : v3 = u3 := by
      have q : its3[i]? = some v3 := by simpa using q3
      rw [hu3] at q
      exact (Option.some.inj q).symm
    subst e1 e2 e3
    refine ⟨_, rfl, wpAny_letOwnedTupleGo_zip (s := { s with heap := h', toks := tk }) z' fun h'' z'' sb => ?_⟩
    have hT2 : h''.get? s.heap.objs.size = some { cls := .type "tuple", data := .seq #[v1, v2, v3] } := (sb.2 _ (Nat.ne_of_gt hzl)).trans hT
    have new : ObjOk X.prog X.w (upd H s.heap.objs.size (.tup [x, y, zz])) h'' s.heap.objs.size (.tup [x, y, zz]) :=
      ⟨by show 3 ≤ sizeLine; decide, [v1, v2, v3], .cons ru (.cons ru2 (.cons ru3 .nil)), ⟨_, hT2, rfl, _, rfl⟩⟩
    have I1 : Inv X pins σ (upd H s.heap.objs.size (.tup [x, y, zz])) { s with heap := h'', toks := tk } :=
      I.turnedNew (t' := tk) (ch := [z, TI, TO, i1, i2, i3]) (fun d o hb q => (sb.2 d (fun q' => hb (by simp [q']))).trans (hk d o (fun q' => hb (by simp [q'])) (fun q' => hb (by simp [q'])) (fun q' => hb (by simp [q'])) (fun q' => hb (by simp [q'])) (fun q' => hb (by simp [q'])) q)) hf (Nat.le_refl _) new
    refine ⟨.ref s.heap.objs.size, _, I1, rfl, ⟨_, x, y, zz, rfl, I.hok.fresh (Nat.le_refl _), rfl, fun l hl => by rw [I.list_inj hl hqx]; exact hx, fun l hl => by rw [I.tuple_inj hl hqy]; exact hy, fun l hl => by rw [I.list_inj hl hqz]; exact hzz⟩, ⟨z'', ?_, ⟨v1, v2, v3, ?_⟩, ?_, ?_, ?_⟩, fun d hdm => ?_⟩
    · exact (sb.2 _ S.TIz).trans (hk _ _ S.TIz S.TITO S.TIi1 S.TIi2 S.TIi3 hTI)
    · exact (sb.2 _ S.TOz).trans TO'
    · exact st1.1.at fun o q => (sb.2 _ S.zi1.symm).trans q
    · exact st2.1.at fun o q => (sb.2 _ S.zi2.symm).trans q
    · exact st3.1.at fun o q => (sb.2 _ S.zi3.symm).trans q
    · have hlt : d < s.heap.objs.size := by
        have e' : d = z ∨ d = TI ∨ d = TO ∨ d = i1 ∨ d = i2 ∨ d = i3 := by simpa using hdm
        rcases e' with q | q | q | q | q | q
        · rw [q]; exact hzl
        · rw [q]; exact Heap.lt_size hTI
        · rw [q]; exact Heap.lt_size hTO
        · rw [q]; obtain ⟨_, e1, _⟩ := h1; exact Heap.lt_size e1
        · rw [q]; obtain ⟨_, e2, _⟩ := h2; exact Heap.lt_size e2
        · rw [q]; obtain ⟨_, e3, _⟩ := h3; exact Heap.lt_size e3
      rw [upd_ne (Nat.ne_of_lt hlt)]
      exact (hf d hdm).1
  done := by
    intro X hP hw hK hc i pins s σ H E I hf st hg
    subst hP hw hK
    obtain ⟨hz, hTI, ⟨x0, y0, u0, hTO⟩, h1, h2, h3⟩ := st
    obtain ⟨xs, ys, zs, hqx, hqy, hqz, l1, l2, l3⟩ := hg
    obtain ⟨its, rv, p, _⟩ := I.list hqx
    obtain ⟨its2, rv2, p2, _⟩ := I.tuple hqy
    obtain ⟨its3, rv3, p3, _⟩ := I.list hqz
    have hh : X.A.in1.handled = none := I.ok.hd hc
    have D1 := Draws.list (prog := X.prog) (w := X.w) (A := X.A.in1) hh i1 a n1 its.toArray
    have D2 := Draws.tuple (prog := X.prog) (w := X.w) (A := X.A.in1) hh i2 b n2 its2.toArray
    have D3 := Draws.list (prog := X.prog) (w := X.w) (A := X.A.in1) hh i3 c n3 its3.toArray
    have m1 := rv.length
    have m2 := rv2.length
    have m3 := rv3.length
    exact wpAny_pyNext_zipD3_end S D1 D2 D3 hz hTI hTO ⟨h1, p.isList⟩ ⟨h2, p2⟩ ⟨h3, p3.isList⟩ (by simp; omega) (by simp; omega) (by simp; omega) (.inl (by simp; omega)) fun h' tk hk => ⟨rfl, I.turnedL (t' := tk) (ch := [z, TI, TO, i1, i2, i3]) (fun d o hb q =>
      hk d o (fun q' => hb (by simp [q'])) (fun q' => hb (by simp [q'])) (fun q' => hb (by simp [q'])) (fun q' => hb (by simp [q'])) (fun q' => hb (by simp [q'])) q) hf⟩
  self := fun A i s Q E st h => wpAny_pyIter_zip st.1 h
def iZip3 (K : PySem.W.Frag) (ta : TA) : TI := fun σ H R => ta σ H fun vs H1 => ∃ a b c xs ys zs, vs = [.ref a, .ref b, .ref c] ∧ SqL K H1 a xs ∧ SqT K H1 b ys ∧ SqL K H1 c zs ∧ R (Itz3 K a b c) H1
theorem pi_zip30 {X : Cx} {e e2 e3 : Expr} {ta : TA} {p pos tpos : Pos} {elts : List Expr} {kk : Nat} (hg : Gl X "zip") (hm : X.mg "zip" = none) (ha : PA X [e, e2, e3] ta)
    (hs : starEach [e, e2, e3] X.env = (false, eval e X.env) :: starEach [e2, e3] X.env := by rfl) (hpl : (backTo pos (starEach [e2, e3] X.env)).any (·.1) = false := by rfl) :
    PI X (.Tuple elts kk tpos) (.Call (.Name "zip" p) [e, e2, e3] [] pos) (iZip3 X.K ta) := by
  refine ⟨fun pins s σ H R I h => ?_⟩
  refine Call_ (ld_blt I hg hm PyProof.Rows.boot_zip (PyProof.Rows.callWith_type1 (thn (ha.run pos pins s σ H _ I h) fun us s1 ⟨vs, H1, I1, r1, q1⟩ => ?_) hs hpl))
  obtain ⟨a, b, c, xs, ys, zs, ex, hqx, hqy, hqz, q⟩ := q1
  subst ex
  cases r1 with
  | cons r rr =>
    cases rr with
    | cons r' rr =>
      cases rr with
      | cons r'' rr =>
        cases rr
        cases r
        cases r'
        cases r''
        have fresh6 : ∀ d, d ∈ [s1.heap.objs.size + 5, s1.heap.objs.size + 3, s1.heap.objs.size + 4, s1.heap.objs.size, s1.heap.objs.size + 1, s1.heap.objs.size + 2] → FpOk X pins H1 d := fun d hdm => by
          have e' : d = s1.heap.objs.size + 5 ∨ d = s1.heap.objs.size + 3 ∨ d = s1.heap.objs.size + 4 ∨ d = s1.heap.objs.size ∨ d = s1.heap.objs.size + 1 ∨ d = s1.heap.objs.size + 2 := by simpa using hdm
          have hle : s1.heap.objs.size ≤ d := by
            rcases e' with z | z | z | z | z | z
            · rw [z]; exact Nat.le_add_right _ _
            · rw [z]; exact Nat.le_add_right _ _
            · rw [z]; exact Nat.le_add_right _ _
            · rw [z]; exact Nat.le_refl _
            · rw [z]; exact Nat.le_add_right _ _
            · rw [z]; exact Nat.le_add_right _ _
          exact I1.fpOk hle (I1.hok.fresh hle)
        obtain ⟨its, rv, p1, _⟩ := I1.list hqx
        obtain ⟨its2, rv2, p2, _⟩ := I1.tuple hqy
        obtain ⟨its3, rv3, p3, _⟩ := I1.list hqz
        have la : a < s1.heap.objs.size := p1.lt
        have lb : b < s1.heap.objs.size := by obtain ⟨o2, ho2, _⟩ := id p2; exact Heap.lt_size ho2
        have lc : c < s1.heap.objs.size := p3.lt
        refine zip_begins3 (begins_list a its.toArray) (begins_tuple b its2.toArray) (begins_list c its3.toArray) p1.isList p2 p3.isList fun h' hz hTI hTO h1 h2 h3 hsz hk => wpAny_pyIter_zip hz ?_
        have I2 : Inv X pins σ H1 { s1 with heap := h' } := I1.kept (t' := s1.toks) hk
        have S := zip_sep3 (N := s1.heap.objs.size) (fp1 := [a]) (fp2 := [b]) (fp3 := [c]) (fun d hd => by cases List.mem_singleton.mp hd; exact la) (fun d hd => by cases List.mem_singleton.mp hd; exact lb) (fun d hd => by cases List.mem_singleton.mp hd; exact lc)
        exact ⟨s1.heap.objs.size + 5, [s1.heap.objs.size + 5, s1.heap.objs.size + 3, s1.heap.objs.size + 4, s1.heap.objs.size, s1.heap.objs.size + 1, s1.heap.objs.size + 2], _, _, H1, rfl, I2, turn_zip3 S (Nat.ne_of_lt la) (Nat.ne_of_lt (Nat.lt_succ_of_lt lb)) (Nat.ne_of_lt (Nat.lt_succ_of_lt (Nat.lt_succ_of_lt lc))), ⟨hz, hTI, ⟨_, _, _, hTO⟩, ⟨_, h1, rfl, rfl⟩, ⟨_, h2, rfl, rfl⟩, ⟨_, h3, rfl, rfl⟩⟩, fresh6, q⟩
theorem pi_zip3 {X : Cx} {K : PySem.W.Frag} {e e2 e3 : Expr} {ta : TA} {p pos tpos : Pos} {elts : List Expr} {kk : Nat} (hg : Gl X "zip") (hm : X.mg "zip" = none) (ha : PA X [e, e2, e3] ta) (h : X.K = K := by rfl)
    (hs : starEach [e, e2, e3] X.env = (false, eval e X.env) :: starEach [e2, e3] X.env := by rfl) (hpl : (backTo pos (starEach [e2, e3] X.env)).any (·.1) = false := by rfl) :
    PI X (.Tuple elts kk tpos) (.Call (.Name "zip" p) [e, e2, e3] [] pos) (iZip3 K ta) := h ▸ pi_zip30 hg hm ha hs hpl
end Hw
/-! More readings: pairs in loops, instances that are made, own classes, pop, truth of a list. -/
namespace Hw
open PySem PySem.Spec PyProof.Rows L2
section
variable {K : PySem.W.Frag} {σ : L2.St} {H : Hp} {Q : VK} {QT : Bool → Hp → Prop} {ta tb tc te : TE} {t u : TT} {x y z v : V} {D : Ends} {ts tu : TS} {tl : TA}
/-! loops over pairs -/
def OverE (K : PySem.W.Frag) (vs : List V) (H : Hp) (R : Addr → Prop) : Prop := ∃ a xs, vs = [.ref a] ∧ SqT K H a xs ∧ R a
theorem r_enumT {R : It → Hp → Prop} (h : tl σ H fun vs H1 => OverE K vs H1 fun a => R (IteT K a) H1) : iEnumT K tl σ H R := h
theorem r_overE {a : Addr} {xs : List V} {R : Addr → Prop} (h : SqT K H a xs) (q : R a) : OverE K [.ref a] H R := ⟨a, xs, rfl, h, q⟩
def ZipA (K : PySem.W.Frag) (R : It → Hp → Prop) (vs : List V) (H1 : Hp) : Prop := ∃ a b xs ys, vs = [.ref a, .ref b] ∧ ((SqL K H1 a xs ∧ SqL K H1 b ys ∧ R (Itz K a b) H1) ∨ (SqT K H1 a xs ∧ SqT K H1 b ys ∧ R (RZ.ItzT K a b) H1))
theorem r_zipA {R : It → Hp → Prop} (h : tl σ H fun vs H1 => ZipA K R vs H1) : RZ.iZipA K tl σ H R := h
theorem r_zipT {R : It → Hp → Prop} {a b : Addr} {xs ys : List V} (h : SqT K H a xs) (h2 : SqT K H b ys) (q : R (RZ.ItzT K a b) H) : ZipA K R [.ref a, .ref b] H := ⟨a, b, xs, ys, rfl, .inr ⟨h, h2, q⟩⟩
def OverZ3 (K : PySem.W.Frag) (vs : List V) (H : Hp) (R : Addr → Addr → Addr → Prop) : Prop := ∃ a b c xs ys zs, vs = [.ref a, .ref b, .ref c] ∧ SqL K H a xs ∧ SqT K H b ys ∧ SqL K H c zs ∧ R a b c
theorem r_zip3 {R : It → Hp → Prop} (h : tl σ H fun vs H1 => OverZ3 K vs H1 fun a b c => R (Itz3 K a b c) H1) : iZip3 K tl σ H R := h
theorem r_overZ3 {a b c : Addr} {xs ys zs : List V} {R : Addr → Addr → Addr → Prop} (h : SqL K H a xs) (h2 : SqT K H b ys) (h3 : SqL K H c zs) (q : R a b c) : OverZ3 K [.ref a, .ref b, .ref c] H R := ⟨a, b, c, xs, ys, zs, rfl, h, h2, h3, q⟩
theorem forE {a : Addr} {xs : List V} {g : TG} (Pv : Nat → L2.St → Hp → Prop) (h0 : Pv 0 σ H) (hG : ∀ i σ H, i ≤ xs.length → Pv i σ H → SqT K H a xs)
    (hs : ∀ i x T σ H H1, xs[i]? = some x → Pv i σ H → H T = none → H1 T = some (.tup [.int (i : Int), x]) → Keep [] H H1 → g (.ref T) σ H1 fun σ2 H2 => ts { D with nx := Pv (i + 1), ct := Pv (i + 1), bk := D.nx } σ2 H2)
    (hd : ∀ σ H, Pv xs.length σ H → D.nx σ H) : ForIt (IteT K a) g ts D σ H := by
  refine ⟨fun i m σ H => m = xs.length - i ∧ i ≤ xs.length ∧ Pv i σ H, ⟨xs.length, rfl, Nat.zero_le _, h0⟩, ?_⟩
  rintro i m σ H ⟨rfl, hi, p⟩
  have qx := hG i σ H hi p
  by_cases hlt : i < xs.length
  · have hx : xs[i]? = some xs[i] := List.getElem?_eq_getElem hlt
    refine .inr ⟨⟨xs, _, qx, hx⟩, Pv (i + 1), fun σ' H' p' => ⟨xs.length - (i + 1), by omega, rfl, hlt, p'⟩, fun v H' y => ?_⟩
    obtain ⟨T, x', rfl, hT, rfl, f1⟩ := y
    exact hs i x' T σ H _ (f1 xs qx) p hT upd_same (Keep.new hT)
  · have e : i = xs.length := by omega
    subst e
    exact .inl ⟨⟨xs, qx, rfl⟩, hd σ H p⟩
theorem forZT {a b : Addr} {xs ys : List V} {g : TG} (hl : xs.length = ys.length) (Pv : Nat → L2.St → Hp → Prop) (h0 : Pv 0 σ H) (hG : ∀ i σ H, Pv i σ H → SqT K H a xs ∧ SqT K H b ys)
    (hs : ∀ i x y T σ H H1, xs[i]? = some x → ys[i]? = some y → Pv i σ H → H T = none → H1 T = some (.tup [x, y]) → Keep [] H H1 → g (.ref T) σ H1 fun σ2 H2 => ts { D with nx := Pv (i + 1), ct := Pv (i + 1), bk := D.nx } σ2 H2)
    (hd : ∀ σ H, Pv xs.length σ H → D.nx σ H) : ForIt (RZ.ItzT K a b) g ts D σ H :=
  RZ.for_zipT hl Pv h0 hG (fun i x y T σ H hx hy p hT => hs i x y T σ H _ hx hy p hT upd_same (Keep.new hT)) hd
theorem forZ3 {a b c : Addr} {xs ys zs : List V} {g : TG} (hl : xs.length = ys.length) (hl2 : xs.length = zs.length) (Pv : Nat → L2.St → Hp → Prop) (h0 : Pv 0 σ H) (hG : ∀ i σ H, Pv i σ H → SqL K H a xs ∧ SqT K H b ys ∧ SqL K H c zs)
    (hs : ∀ i x y z T σ H H1, xs[i]? = some x → ys[i]? = some y → zs[i]? = some z → Pv i σ H → H T = none → H1 T = some (.tup [x, y, z]) → Keep [] H H1 → g (.ref T) σ H1 fun σ2 H2 => ts { D with nx := Pv (i + 1), ct := Pv (i + 1), bk := D.nx } σ2 H2)
    (hd : ∀ σ H, Pv xs.length σ H → D.nx σ H) : ForIt (Itz3 K a b c) g ts D σ H := by
  refine ⟨fun i m σ H => m = xs.length - i ∧ i ≤ xs.length ∧ Pv i σ H, ⟨xs.length, rfl, Nat.zero_le _, h0⟩, ?_⟩
  rintro i m σ H ⟨rfl, hi, p⟩
  obtain ⟨qx, qy, qz⟩ := hG i σ H p
  by_cases hlt : i < xs.length
  · have hx : xs[i]? = some xs[i] := List.getElem?_eq_getElem hlt
    have hlt2 : i < ys.length := by omega
    have hlt3 : i < zs.length := by omega
    refine .inr ⟨⟨xs, ys, zs, _, _, _, qx, qy, qz, hx, List.getElem?_eq_getElem hlt2, List.getElem?_eq_getElem hlt3⟩, Pv (i + 1), fun σ' H' p' => ⟨xs.length - (i + 1), by omega, rfl, hlt, p'⟩, fun v H' y => ?_⟩
    obtain ⟨T, x', y', z', rfl, hT, rfl, f1, f2, f3⟩ := y
    exact hs i x' y' z' T σ H _ (f1 xs qx) (f2 ys qy) (f3 zs qz) p hT upd_same (Keep.new hT)
  · have e : i = xs.length := by omega
    subst e
    exact .inl ⟨⟨xs, ys, zs, qx, qy, qz, rfl, hl.symm, hl2.symm⟩, hd σ H p⟩
/-! instances -/
/-- an own class that is made: what its __init__ promises of the new object -/
structure Maker (P : Program) (w : World) (K : PySem.W.Frag) (mg : Str → Option Value) (base : Heap) (x : Str) (C : Addr) (k : Nat) (ps : List Str) (sp : Sp) : Prop where
  ex : ∃ (f : Addr) (fd : FuncData), Mk K C f ∧ FnOk P w K mg base CX0 k f fd ps sp ∧ mg x = some (.ref C) ∧ Binds K fd ps []
/-- a class, as it stands -/
structure ClassAt (K : PySem.W.Frag) (mg : Str → Option Value) (x qual : Str) (C : Addr) (st : Stmt) (ps : List Str) : Prop where
  ex : ∃ (f : Addr) (fd : FuncData), Mk K C f ∧ Fun K "__init__" qual st f fd ∧ mg x = some (.ref C) ∧ Binds K fd ps []
theorem ClassAt.ok {P : Program} {w : World} {mg : Str → Option Value} {base : Heap} {x qual : Str} {C : Addr} {st : Stmt} {N ps : List Str} {k : Nat} {sp : Sp} (D : ClassAt K mg x qual C st ps) (S : FnScope N ps (defScope st)) (len : ∀ vs H Q E, sp vs H Q E → vs.length = ps.length)
    (hbody : ∀ (f : Addr) (cdv : Value) (A : Around) (outer : List Env) (s : Shared) (H : Hp) (vs : List V) (Q : VK) (E : XK), Room k (A.deeper (envOfC qual (defScope st) s.heap.objs.size f cdv)) → sp vs H Q E →
      ∃ t, PSs (cxOf CX0 P w K mg base N qual (defScope st) f cdv A outer s H E).nox (defBody st) t ∧ t { nx := fun _ H' => Q .non H', rt := Q } (start N vs) H) : Maker P w K mg base x C (k + 1) ps sp := by
  obtain ⟨f, fd, M, F, m, b⟩ := D.ex
  exact ⟨f, fd, M, F.ok S len fun cdv A outer s H vs Q E hr h => hbody f cdv A outer s H vs Q E hr h, m, b⟩
theorem pmake {X : Cx} {k : Nat} {ps : List Str} {sp : Sp} {x : Str} {C : Addr} {p pos : Pos} {e : Expr} {es : List Expr} {t : TA} (M : Maker X.prog X.w X.K X.mg X.base x C k ps sp) (hr : Room (k + 1) X.A) (hg : Gl X x) (ha : PA X (e :: es) t)
    (hd : (x == ("__debug__" : Str)) = false := by decide) (h1 : starEach (e :: es) X.env = (false, eval e X.env) :: starEach es X.env := by rfl)
    (h2 : ((backTo pos (starEach es X.env)).any fun x => x.1) = false := by rfl) : PE X (.Call (.Name x p) (e :: es) [] pos) (tMake C sp [] E0 t) := by
  obtain ⟨f, fd, M, F, m, b⟩ := M.ex
  exact pe_make M F hr hg m b .nil pass0 ha hd h1 h2
/-- the new object is handed to its __init__ -/
def Made (C : Addr) (sp : Sp) (vs : List V) (H : Hp) (Q : VK) : Prop := ∀ x dx, H x = none → H dx = none → dx ≠ x → sp (.ref x :: (vs ++ [])) (upd (upd H dx (.own x)) x (.ins C dx [])) (fun v H2 => v = .non ∧ Q (.ref x) H2) E0
theorem r_make {C : Addr} {sp : Sp} (h : tl σ H fun vs H1 => Made C sp vs H1 Q) : tMake C sp [] E0 tl σ H Q := h
theorem made {C : Addr} {sp : Sp} {vs : List V} (h : ∀ x dx H1, H x = none → H dx = none → dx ≠ x → H1 x = some (.ins C dx []) → (∃ o, H1 dx = some (.own o)) → Keep [] H H1 → sp (.ref x :: vs) H1 (fun v H2 => v = .non ∧ Q (.ref x) H2) E0) : Made C sp vs H Q := fun x dx hx hd n => by
  rw [List.append_nil]
  refine h x dx _ hx hd n upd_same ⟨x, by rw [upd_ne n]; exact upd_same⟩ fun a o e _ => ?_
  rw [upd_ne (ne_of_none e hx), upd_ne (ne_of_none e hd)]
  exact e
/-- what isinstance asks of the class of the instance -/
structure TyC (K : PySem.W.Frag) (C : Addr) : Prop where
  cl : Cls K C
  ha : PySem.W.findIn K (.ref C) "__class__" = some (some (.builtin "object.__class__"))
  hn : PySem.W.specialIn K (.builtin "object.__class__") "__get__" = some (some (.builtin "getset_descriptor.__get__"))
  htk : PySem.W.takesIn K (.builtin "object.__class__") = some true
  hm : PySem.W.mroIn K C (.type "object") = some true
theorem r_isiC {a C dx C2 : Addr} {fs : List (Str × V)} {b : Bool} (h : H a = some (.ins C dx fs)) (c : TyC K C) (e : PySem.W.kitOne K (.ref C) (.ref C2) = some b) (q : Q (.bl b) H) : rIsi K [.ref a, .ref C2] H Q :=
  ⟨.ref a, .ref C2, .ref C, .ref C2, b, rfl, .own C2, .base (.ins h c.cl c.ha c.hn c.htk c.hm), e, q⟩
/-! pop -/
theorem pePop {X : Cx} {o : Expr} {to : TE} {apos cpos : Pos} (ho : PE X o to) (h : X.K = K := by rfl)
    (h1 : attributeBase o "pop" X.env (eval o X.env) = eval o X.env := by rfl) (h3 : (apos.endLine == cpos.line) = true := by rfl) :
    PE X (.Call (.Attribute o "pop" apos) [] [] cpos) (tBM0 K "list" rPop to) := h ▸ pe_bm0 PySem.F.plainAttrs_list PySem.F.slot_list_pop PySem.F.type_list_pop mt_pop ho h1 h3
theorem r_popM {r : V → List V → Hp → VK → Prop} (h : ta σ H fun x H1 => IsL K x H1 (r x [] H1 Q)) : tBM0 K "list" r ta σ H Q := h
theorem r_pop {l : Addr} {xs : List V} (h : H l = some (.lst (xs ++ [y]))) (q : ∀ H1, H1 l = some (.lst xs) → Keep [l] H H1 → Q y H1) : rPop (.ref l) [] H Q :=
  ⟨l, xs ++ [y], y, rfl, rfl, h, by simp, by rw [List.dropLast_concat]; exact q _ upd_same (Keep.put (List.mem_singleton.mpr rfl))⟩
/-! truth of a list -/
def TruL (K : PySem.W.Frag) (x : V) (H : Hp) (R : Bool → Prop) : Prop := ∃ k, TruV K x H k ∧ R k
theorem ptTru {X : Cx} {a : Expr} {ta : TE} (ha : PE X a ta) (h : X.K = K := by rfl) (he : ∀ whole, isTrue a X.env whole = (do let v ← whole; standAt a.pos; holding [v] (truthy v)) := by exact fun _ => rfl) :
    PT X a (fun σ H Q => ta σ H fun x H' => ∃ k, TruV K x H' k ∧ Q k H') := h ▸ pt_truth ha he
def tTru (K : PySem.W.Frag) (ta : TE) : TT := fun σ H QT => ta σ H fun x H' => TruL K x H' fun k => QT k H'
theorem ptTruL {X : Cx} {a : Expr} {ta : TE} (ha : PE X a ta) (h : X.K = K := by rfl) (he : ∀ whole, isTrue a X.env whole = (do let v ← whole; standAt a.pos; holding [v] (truthy v)) := by exact fun _ => rfl) :
    PT X a (tTru K ta) := ptTru ha h he
theorem r_tru (h : ta σ H fun x H' => TruL K x H' fun k => QT k H') : tTru K ta σ H QT := h
theorem r_truL {a : Addr} {xs : List V} {R : Bool → Prop} (h : SqL K H a xs) (q : R (!xs.isEmpty)) : TruL K (.ref a) H R := ⟨_, .inl ⟨xs, h, rfl⟩, q⟩
/-! a field, made greater -/
theorem psAug {X : Cx} {o value : Expr} {f : Str} {pos tpos : Pos} {ta tv : TE} (ha : PE X o ta) (hv : PE X value tv) (h : X.K = K := by rfl) : PS X (.AugAssign (.Attribute o f tpos) .Add value pos) (sFldAug K ta tv rAdd f) := h ▸ ps_fldaug ha hv in_add
theorem r_aug {f : Str} {a C dx : Addr} {fs : List (Str × V)} {i j : Int} {tv : TE} (hx : ∀ R : V → Hp → Prop, R (.ref a) H → ta σ H R) (hv : ∀ R : V → Hp → Prop, R (.int j) H → tv σ H R) (h : H a = some (.ins C dx fs)) (c : Cls K C) (n : NoAttr K C f) (e : fs.lookup f = some (.int i)) (z : fs.length < 1000)
    (q : ∀ H1, H1 a = some (.ins C dx (putF f (.int (i + j)) fs)) → Keep [a] H H1 → D.nx σ H1) : sFldAug K ta tv rAdd f D σ H :=
  hx _ ⟨a, C, dx, fs, .int i, rfl, h, c, n, e, hv _ ⟨i, j, rfl, rfl, dx, fs, h, z, q _ upd_same (Keep.put (List.mem_singleton.mpr rfl))⟩⟩
end
end Hw
/-! zip over three tuples. -/
namespace Hw
open PySem PySem.Spec PyProof.Rows L2
/-- the tuples at a, b, c as they stand at each turn, the items in new triples -/
def ItzT3 (K : PySem.W.Frag) (a b c : Addr) : It :=
  ⟨fun i H => ∃ (xs ys zs : List V) (x y z : V), SqT K H a xs ∧ SqT K H b ys ∧ SqT K H c zs ∧ xs[i]? = some x ∧ ys[i]? = some y ∧ zs[i]? = some z,
    fun i H v H' => ∃ T x y z, v = .ref T ∧ H T = none ∧ H' = upd H T (.tup [x, y, z]) ∧ (∀ xs, SqT K H a xs → xs[i]? = some x) ∧ (∀ ys, SqT K H b ys → ys[i]? = some y) ∧ ∀ zs, SqT K H c zs → zs[i]? = some z,
    fun i H => ∃ xs ys zs : List V, SqT K H a xs ∧ SqT K H b ys ∧ SqT K H c zs ∧ xs.length = i ∧ ys.length = i ∧ zs.length = i⟩
theorem turn_zipT3 {P : Program} {w : World} {K : PySem.W.Frag} {elts : List Expr} {kk : Nat} {tpos : Pos} {a b c z TI TO i1 i2 i3 : Addr} (S : ZipSep3 z TI TO i1 i2 i3 [i1, a] [i2, b] [i3, c]) (n1 : a ≠ i1) (n2 : b ≠ i2) (n3 : c ≠ i3) :
    Turn P w K (.Tuple elts kk tpos) (ItzT3 K a b c) [z, TI, TO, i1, i2, i3] z (fun i h => IsZip h z TI TO .none ∧ IsTupOf3 h TI (.ref i1) (.ref i2) (.ref i3) ∧ (∃ x y u, IsTupOf3 h TO x y u) ∧ h.IsTupleIter i1 a i ∧ h.IsTupleIter i2 b i ∧ h.IsTupleIter i3 c i) where
  mem := by simp
  obj := fun i h st d hd => by
    obtain ⟨hz, hTI, ⟨x, y, u, hTO⟩, ⟨o1, e1, _, d1⟩, ⟨o2, e2, _, d2⟩, ⟨o3, e3, _, d3⟩⟩ := st
    have e' : d = z ∨ d = TI ∨ d = TO ∨ d = i1 ∨ d = i2 ∨ d = i3 := by simpa using hd
    rcases e' with q | q | q | q | q | q
    · rw [q]; exact ⟨_, hz, fun v q => nomatch q⟩
    · rw [q]; exact ⟨_, hTI, fun v q => nomatch q⟩
    · rw [q]; exact ⟨_, hTO, fun v q => nomatch q⟩
    · rw [q]; exact ⟨o1, e1, fun v q => by rw [d1] at q; cases q⟩
    · rw [q]; exact ⟨o2, e2, fun v q => by rw [d2] at q; cases q⟩
    · rw [q]; exact ⟨o3, e3, fun v q => by rw [d3] at q; cases q⟩
  keep := fun i h h' st k => by
    obtain ⟨hz, hTI, ⟨x, y, u, hTO⟩, h1, h2, h3⟩ := st
    exact ⟨k z (by simp) _ hz, k TI (by simp) _ hTI, ⟨x, y, u, k TO (by simp) _ hTO⟩, h1.at fun o q => k i1 (by simp) o q, h2.at fun o q => k i2 (by simp) o q, h3.at fun o q => k i3 (by simp) o q⟩
  item := by
    intro X hP hw hK hc i pins s σ H E I hf st hg
    subst hP hw hK
    obtain ⟨hz, hTI, ⟨x0, y0, u0, hTO⟩, h1, h2, h3⟩ := st
    obtain ⟨xs, ys, zs, x, y, zz, hqx, hqy, hqz, hx, hy, hzz⟩ := hg
    obtain ⟨its, rv, p, _⟩ := I.tuple hqx
    obtain ⟨its2, rv2, p2, _⟩ := I.tuple hqy
    obtain ⟨its3, rv3, p3, _⟩ := I.tuple hqz
    obtain ⟨u, hu, ru⟩ := rv.get hx
    obtain ⟨u2, hu2, ru2⟩ := rv2.get hy
    obtain ⟨u3, hu3, ru3⟩ := rv3.get hzz
    have hzl : z < s.heap.objs.size := Heap.lt_size hz
    have hh : X.A.in1.handled = none := I.ok.hd hc
    have D1 := Draws.tuple (prog := X.prog) (w := X.w) (A := X.A.in1) hh i1 a n1 its.toArray
    have D2 := Draws.tuple (prog := X.prog) (w := X.w) (A := X.A.in1) hh i2 b n2 its2.toArray
    have D3 := Draws.tuple (prog := X.prog) (w := X.w) (A := X.A.in1) hh i3 c n3 its3.toArray
    have l1 : i < its.toArray.size := by simpa using (List.getElem?_eq_some_iff.mp hu).1
    have l2 : i < its2.toArray.size := by simpa using (List.getElem?_eq_some_iff.mp hu2).1
    have l3 : i < its3.toArray.size := by simpa using (List.getElem?_eq_some_iff.mp hu3).1
    refine wpAny_pyNext_zipD3_item S D1 D2 D3 hz hTI hTO ⟨h1, p⟩ ⟨h2, p2⟩ ⟨h3, p3⟩ l1 l2 l3 fun v1 v2 v3 h' tk q1 q2 q3 z' TO' st1 st2 st3 hT hsz hk => ?_
    have e1 : v1 = u := by
      have q : its[i]? = some v1 := by simpa using q1
      rw [hu] at q
      exact (Option.some.inj q).symm
    have e2 : v2 = u2 := by
      have q : its2[i]? = some v2 := by simpa using q2
      rw [hu2] at q
      exact (Option.some.inj q).symm
    have e3 : v3 = u3 := by
      have q : its3[i]? = some v3 := by simpa using q3
      rw [hu3] at q
      exact (Option.some.inj q).symm
    subst e1 e2 e3
    refine ⟨_, rfl, wpAny_letOwnedTupleGo_zip (s := { s with heap := h', toks := tk }) z' fun h'' z'' sb => ?_⟩
    have hT2 : h''.get? s.heap.objs.size = some { cls := .type "tuple", data := .seq #[v1, v2, v3] } := (sb.2 _ (Nat.ne_of_gt hzl)).trans hT
    have new : ObjOk X.prog X.w (upd H s.heap.objs.size (.tup [x, y, zz])) h'' s.heap.objs.size (.tup [x, y, zz]) :=
      ⟨by show 3 ≤ sizeLine; decide, [v1, v2, v3], .cons ru (.cons ru2 (.cons ru3 .nil)), ⟨_, hT2, rfl, _, rfl⟩⟩
    have I1 : Inv X pins σ (upd H s.heap.objs.size (.tup [x, y, zz])) { s with heap := h'', toks := tk } :=
      I.turnedNew (t' := tk) (ch := [z, TI, TO, i1, i2, i3]) (fun d o hb q => (sb.2 d (fun q' => hb (by simp [q']))).trans (hk d o (fun q' => hb (by simp [q'])) (fun q' => hb (by simp [q'])) (fun q' => hb (by simp [q'])) (fun q' => hb (by simp [q'])) (fun q' => hb (by simp [q'])) q)) hf (Nat.le_refl _) new
    refine ⟨.ref s.heap.objs.size, _, I1, rfl, ⟨_, x, y, zz, rfl, I.hok.fresh (Nat.le_refl _), rfl, fun l hl => by rw [I.tuple_inj hl hqx]; exact hx, fun l hl => by rw [I.tuple_inj hl hqy]; exact hy, fun l hl => by rw [I.tuple_inj hl hqz]; exact hzz⟩, ⟨z'', ?_, ⟨v1, v2, v3, ?_⟩, ?_, ?_, ?_⟩, fun d hdm => ?_⟩
    · exact (sb.2 _ S.TIz).trans (hk _ _ S.TIz S.TITO S.TIi1 S.TIi2 S.TIi3 hTI)
    · exact (sb.2 _ S.TOz).trans TO'
    · exact st1.1.at fun o q => (sb.2 _ S.zi1.symm).trans q
    · exact st2.1.at fun o q => (sb.2 _ S.zi2.symm).trans q
    · exact st3.1.at fun o q => (sb.2 _ S.zi3.symm).trans q
    · have hlt : d < s.heap.objs.size := by
        have e' : d = z ∨ d = TI ∨ d = TO ∨ d = i1 ∨ d = i2 ∨ d = i3 := by simpa using hdm
        rcases e' with q | q | q | q | q | q
        · rw [q]; exact hzl
        · rw [q]; exact Heap.lt_size hTI
        · rw [q]; exact Heap.lt_size hTO
        · rw [q]; obtain ⟨_, e1, _⟩ := h1; exact Heap.lt_size e1
        · rw [q]; obtain ⟨_, e2, _⟩ := h2; exact Heap.lt_size e2
        · rw [q]; obtain ⟨_, e3, _⟩ := h3; exact Heap.lt_size e3
      rw [upd_ne (Nat.ne_of_lt hlt)]
      exact (hf d hdm).1
  done := by
    intro X hP hw hK hc i pins s σ H E I hf st hg
    subst hP hw hK
    obtain ⟨hz, hTI, ⟨x0, y0, u0, hTO⟩, h1, h2, h3⟩ := st
    obtain ⟨xs, ys, zs, hqx, hqy, hqz, l1, l2, l3⟩ := hg
    obtain ⟨its, rv, p, _⟩ := I.tuple hqx
    obtain ⟨its2, rv2, p2, _⟩ := I.tuple hqy
    obtain ⟨its3, rv3, p3, _⟩ := I.tuple hqz
    have hh : X.A.in1.handled = none := I.ok.hd hc
    have D1 := Draws.tuple (prog := X.prog) (w := X.w) (A := X.A.in1) hh i1 a n1 its.toArray
    have D2 := Draws.tuple (prog := X.prog) (w := X.w) (A := X.A.in1) hh i2 b n2 its2.toArray
    have D3 := Draws.tuple (prog := X.prog) (w := X.w) (A := X.A.in1) hh i3 c n3 its3.toArray
    have m1 := rv.length
    have m2 := rv2.length
    have m3 := rv3.length
    exact wpAny_pyNext_zipD3_end S D1 D2 D3 hz hTI hTO ⟨h1, p⟩ ⟨h2, p2⟩ ⟨h3, p3⟩ (by simp; omega) (by simp; omega) (by simp; omega) (.inl (by simp; omega)) fun h' tk hk => ⟨rfl, I.turnedL (t' := tk) (ch := [z, TI, TO, i1, i2, i3]) (fun d o hb q =>
      hk d o (fun q' => hb (by simp [q'])) (fun q' => hb (by simp [q'])) (fun q' => hb (by simp [q'])) (fun q' => hb (by simp [q'])) (fun q' => hb (by simp [q'])) q) hf⟩
  self := fun A i s Q E st h => wpAny_pyIter_zip st.1 h
def iZipT3 (K : PySem.W.Frag) (ta : TA) : TI := fun σ H R => ta σ H fun vs H1 => ∃ a b c xs ys zs, vs = [.ref a, .ref b, .ref c] ∧ SqT K H1 a xs ∧ SqT K H1 b ys ∧ SqT K H1 c zs ∧ R (ItzT3 K a b c) H1
theorem pi_zipT30 {X : Cx} {e e2 e3 : Expr} {ta : TA} {p pos tpos : Pos} {elts : List Expr} {kk : Nat} (hg : Gl X "zip") (hm : X.mg "zip" = none) (ha : PA X [e, e2, e3] ta)
    (hs : starEach [e, e2, e3] X.env = (false, eval e X.env) :: starEach [e2, e3] X.env := by rfl) (hpl : (backTo pos (starEach [e2, e3] X.env)).any (·.1) = false := by rfl) :
    PI X (.Tuple elts kk tpos) (.Call (.Name "zip" p) [e, e2, e3] [] pos) (iZipT3 X.K ta) := by
  refine ⟨fun pins s σ H R I h => ?_⟩
  refine Call_ (ld_blt I hg hm PyProof.Rows.boot_zip (PyProof.Rows.callWith_type1 (thn (ha.run pos pins s σ H _ I h) fun us s1 ⟨vs, H1, I1, r1, q1⟩ => ?_) hs hpl))
  obtain ⟨a, b, c, xs, ys, zs, ex, hqx, hqy, hqz, q⟩ := q1
  subst ex
  cases r1 with
  | cons r rr =>
    cases rr with
    | cons r' rr =>
      cases rr with
      | cons r'' rr =>
        cases rr
        cases r
        cases r'
        cases r''
        have fresh6 : ∀ d, d ∈ [s1.heap.objs.size + 5, s1.heap.objs.size + 3, s1.heap.objs.size + 4, s1.heap.objs.size, s1.heap.objs.size + 1, s1.heap.objs.size + 2] → FpOk X pins H1 d := fun d hdm => by
          have e' : d = s1.heap.objs.size + 5 ∨ d = s1.heap.objs.size + 3 ∨ d = s1.heap.objs.size + 4 ∨ d = s1.heap.objs.size ∨ d = s1.heap.objs.size + 1 ∨ d = s1.heap.objs.size + 2 := by simpa using hdm
          have hle : s1.heap.objs.size ≤ d := by
            rcases e' with z | z | z | z | z | z
            · rw [z]; exact Nat.le_add_right _ _
            · rw [z]; exact Nat.le_add_right _ _
            · rw [z]; exact Nat.le_add_right _ _
            · rw [z]; exact Nat.le_refl _
            · rw [z]; exact Nat.le_add_right _ _
            · rw [z]; exact Nat.le_add_right _ _
          exact I1.fpOk hle (I1.hok.fresh hle)
        obtain ⟨its, rv, p1, _⟩ := I1.tuple hqx
        obtain ⟨its2, rv2, p2, _⟩ := I1.tuple hqy
        obtain ⟨its3, rv3, p3, _⟩ := I1.tuple hqz
        have la : a < s1.heap.objs.size := by obtain ⟨o2, ho2, _⟩ := id p1; exact Heap.lt_size ho2
        have lb : b < s1.heap.objs.size := by obtain ⟨o2, ho2, _⟩ := id p2; exact Heap.lt_size ho2
        have lc : c < s1.heap.objs.size := by obtain ⟨o2, ho2, _⟩ := id p3; exact Heap.lt_size ho2
        refine zip_begins3 (begins_tuple a its.toArray) (begins_tuple b its2.toArray) (begins_tuple c its3.toArray) p1 p2 p3 fun h' hz hTI hTO h1 h2 h3 hsz hk => wpAny_pyIter_zip hz ?_
        have I2 : Inv X pins σ H1 { s1 with heap := h' } := I1.kept (t' := s1.toks) hk
        have S := zip_sep3 (N := s1.heap.objs.size) (fp1 := [a]) (fp2 := [b]) (fp3 := [c]) (fun d hd => by cases List.mem_singleton.mp hd; exact la) (fun d hd => by cases List.mem_singleton.mp hd; exact lb) (fun d hd => by cases List.mem_singleton.mp hd; exact lc)
        exact ⟨s1.heap.objs.size + 5, [s1.heap.objs.size + 5, s1.heap.objs.size + 3, s1.heap.objs.size + 4, s1.heap.objs.size, s1.heap.objs.size + 1, s1.heap.objs.size + 2], _, _, H1, rfl, I2, turn_zipT3 S (Nat.ne_of_lt la) (Nat.ne_of_lt (Nat.lt_succ_of_lt lb)) (Nat.ne_of_lt (Nat.lt_succ_of_lt (Nat.lt_succ_of_lt lc))), ⟨hz, hTI, ⟨_, _, _, hTO⟩, ⟨_, h1, rfl, rfl⟩, ⟨_, h2, rfl, rfl⟩, ⟨_, h3, rfl, rfl⟩⟩, fresh6, q⟩
theorem pi_zipT3 {X : Cx} {K : PySem.W.Frag} {e e2 e3 : Expr} {ta : TA} {p pos tpos : Pos} {elts : List Expr} {kk : Nat} (hg : Gl X "zip") (hm : X.mg "zip" = none) (ha : PA X [e, e2, e3] ta) (h : X.K = K := by rfl)
    (hs : starEach [e, e2, e3] X.env = (false, eval e X.env) :: starEach [e2, e3] X.env := by rfl) (hpl : (backTo pos (starEach [e2, e3] X.env)).any (·.1) = false := by rfl) :
    PI X (.Tuple elts kk tpos) (.Call (.Name "zip" p) [e, e2, e3] [] pos) (iZipT3 K ta) := h ▸ pi_zipT30 hg hm ha hs hpl
end Hw
/-! More readings: in lists of data, lists repeated, ranges from the end, zip of three tuples. -/
namespace Hw
open PySem PySem.Spec PyProof.Rows L2
/-- more of the built-in names -/
structure Blt2 (mg : Str → Option Value) : Prop where
  reversed : mg "reversed" = none
theorem units65 {k : Nat} {A : Around} (r : Room k A) : A.units + 65 < cLine := by have := r.un; omega
theorem opInD {X : Cx} {K : PySem.W.Frag} (hu : X.A.units + 65 < cLine) (h : X.K = K := by rfl) : OpR X (compareOp .In) (rInD K) := h ▸ op_inD hu
theorem opRepT2 {X : Cx} {K : PySem.W.Frag} (h : X.K = K := by rfl) : OpR X (binaryOp .Mult) (rRepT K) := h ▸ op_repT
section
variable {K : PySem.W.Frag} {σ : L2.St} {H : Hp} {Q : VK} {QT : Bool → Hp → Prop} {ta tb tc te : TE} {t u : TT} {x y z v : V} {D : Ends} {ts tu : TS} {tl : TA}
theorem r_inD {d : PyData} {ds : List PyData} (h1 : Dp K H x d) (h2 : Dp K H y (.list ds)) (s1 : SeqAt.shaped d = true) (s2 : SeqAt.shaped (.list ds) = true) (q : Q (.bl (ds.any fun z => PyData.eqv z d)) H) : rInD K x y H Q := ⟨d, ds, h1, h2, s1, s2, q⟩
theorem flat_one {n : Nat} {v : V} : (List.replicate n [v]).flatten = List.replicate n v := by
  induction n with
  | zero => rfl
  | succ n ih => rw [List.replicate_succ, List.flatten_cons, ih]; rfl
/-- a list of one item, repeated -/
theorem r_rep1 {l : Addr} {n : Nat} {v : V} (h : H l = some (.lst [v])) (z : n ≤ 100000) (q : New (.lst (List.replicate n v)) 0 H Q) : rRep (.ref l) (.int (n : Int)) H Q := by
  refine ⟨l, n, [v], rfl, rfl, h, by omega, by omega, by rw [Int.toNat_natCast]; exact small (by show 1 * n ≤ _; omega), fun p hp => ?_⟩
  rw [Int.toNat_natCast, flat_one]
  exact q.2 p hp
def RevOf (x : V) (S : Int → Prop) : Prop := ∃ n : Int, x = .int n ∧ (-(2 ^ 62) ≤ (0 : Int) ∧ (0 : Int) < 2 ^ 62 ∧ -(2 ^ 62) ≤ n ∧ n < 2 ^ 62 ∧ S n)
theorem r_revR {R : It → Hp → Prop} (h : ta σ H fun x H1 => RevOf x fun n => R (Itc (0 + (((n - 0).toNat : Nat) : Int) - 1) (-1) (n - 0).toNat) H1) : iRevR (tRg1 ta) σ H R := h
theorem r_revOf {m : Nat} {S : Int → Prop} (h : m ≤ 100000) (q : S m) : RevOf (.int (m : Int)) S := ⟨m, rfl, by omega, by omega, by omega, by omega, q⟩
theorem forRev {m : Nat} {g : TG} (Pv : Nat → L2.St → Hp → Prop) (h0 : Pv 0 σ H) (hs : ∀ i σ H, i < m → Pv i σ H → g (.int ((m - 1 - i : Nat) : Int)) σ H fun σ2 H2 => ts { D with nx := Pv (i + 1), ct := Pv (i + 1), bk := D.nx } σ2 H2)
    (hd : ∀ σ H, Pv m σ H → D.nx σ H) : ForIt (Itc (0 + ((((m : Int) - 0).toNat : Nat) : Int) - 1) (-1) ((m : Int) - 0).toNat) g ts D σ H := by
  have e2 : ((m : Int) - 0).toNat = m := by omega
  rw [e2]
  exact for_it (walk_rangeC (lo := 0 + ((m : Nat) : Int) - 1) (c := -1) (n := m)) Pv h0 (fun _ _ _ _ _ => trivial) (fun i x σ H H' hi p y => by
    obtain ⟨rfl, rfl⟩ := y
    have e : (0 + ((m : Nat) : Int) - 1 + (i : Nat) * (-1)) = ((m - 1 - i : Nat) : Int) := by omega
    show g (.int (0 + ((m : Nat) : Int) - 1 + (i : Nat) * (-1))) σ H' _
    rw [e]
    exact hs i σ H' hi p) hd
def OverZT3 (K : PySem.W.Frag) (vs : List V) (H : Hp) (R : Addr → Addr → Addr → Prop) : Prop := ∃ a b c xs ys zs, vs = [.ref a, .ref b, .ref c] ∧ SqT K H a xs ∧ SqT K H b ys ∧ SqT K H c zs ∧ R a b c
theorem r_zipT3 {R : It → Hp → Prop} (h : tl σ H fun vs H1 => OverZT3 K vs H1 fun a b c => R (ItzT3 K a b c) H1) : iZipT3 K tl σ H R := h
theorem r_overZT3 {a b c : Addr} {xs ys zs : List V} {R : Addr → Addr → Addr → Prop} (h : SqT K H a xs) (h2 : SqT K H b ys) (h3 : SqT K H c zs) (q : R a b c) : OverZT3 K [.ref a, .ref b, .ref c] H R := ⟨a, b, c, xs, ys, zs, rfl, h, h2, h3, q⟩
theorem forZT3 {a b c : Addr} {xs ys zs : List V} {g : TG} (hl : xs.length = ys.length) (hl2 : xs.length = zs.length) (Pv : Nat → L2.St → Hp → Prop) (h0 : Pv 0 σ H) (hG : ∀ i σ H, Pv i σ H → SqT K H a xs ∧ SqT K H b ys ∧ SqT K H c zs)
    (hs : ∀ i x y z T σ H H1, xs[i]? = some x → ys[i]? = some y → zs[i]? = some z → Pv i σ H → H T = none → H1 T = some (.tup [x, y, z]) → Keep [] H H1 → g (.ref T) σ H1 fun σ2 H2 => ts { D with nx := Pv (i + 1), ct := Pv (i + 1), bk := D.nx } σ2 H2)
    (hd : ∀ σ H, Pv xs.length σ H → D.nx σ H) : ForIt (ItzT3 K a b c) g ts D σ H := by
  refine ⟨fun i m σ H => m = xs.length - i ∧ i ≤ xs.length ∧ Pv i σ H, ⟨xs.length, rfl, Nat.zero_le _, h0⟩, ?_⟩
  rintro i m σ H ⟨rfl, hi, p⟩
  obtain ⟨qx, qy, qz⟩ := hG i σ H p
  by_cases hlt : i < xs.length
  · have hx : xs[i]? = some xs[i] := List.getElem?_eq_getElem hlt
    have hlt2 : i < ys.length := by omega
    have hlt3 : i < zs.length := by omega
    refine .inr ⟨⟨xs, ys, zs, _, _, _, qx, qy, qz, hx, List.getElem?_eq_getElem hlt2, List.getElem?_eq_getElem hlt3⟩, Pv (i + 1), fun σ' H' p' => ⟨xs.length - (i + 1), by omega, rfl, hlt, p'⟩, fun v H' y => ?_⟩
    obtain ⟨T, x', y', z', rfl, hT, rfl, f1, f2, f3⟩ := y
    exact hs i x' y' z' T σ H _ (f1 xs qx) (f2 ys qy) (f3 zs qz) p hT upd_same (Keep.new hT)
  · have e : i = xs.length := by omega
    subst e
    exact .inl ⟨⟨xs, ys, zs, qx, qy, qz, rfl, hl.symm, hl2.symm⟩, hd σ H p⟩
/-! words -/
theorem rps_strs {H : Hp} : ∀ {ws : List Str} {vs : List V}, Rps K H vs (ws.map PyData.str) → vs = ws.map V.str
  | [], _, h => by cases h; rfl
  | x :: ws, _, h => by
    cases h with
    | cons h1 h2 =>
      cases h1
      rw [rps_strs h2]
      rfl
end
end Hw
/-! Comprehensions with two for. -/
namespace Hw
open PySem PySem.Spec PyProof.Rows L2
section
variable {K : PySem.W.Frag} {σ σ2 : L2.St} {H : Hp} {Q : VK} {te : TE}
/-- the inner for -/
def InIt (E : Addr) (J1 : It) (g1 : TG) (tt1 : TT) (te : TE) (vs1 : List Nat) (σ2 : L2.St) (H4 : Hp) (Nx : Hp → Prop) : Prop := ∃ W1 : Nat → Nat → Hp → Prop, (∃ m, W1 0 m H4) ∧ ∀ j k H, W1 j k H →
  (J1.stop j H ∧ Nx H) ∨ (J1.go j H ∧ ∃ Nx1 : Hp → Prop, (∀ H', Nx1 H' → ∃ k', k' < k ∧ W1 (j + 1) k' H') ∧ ∀ x H', J1.yld j H x H' → g1 x (wipe σ2 vs1) H' fun σ3 H5 => wipe σ3 vs1 = wipe σ2 vs1 ∧ tt1 σ3 H5 fun b H6 =>
    if b = true then te σ3 H6 fun y H7 => ∃ acc, H7 E = some (.lst acc) ∧ acc.length < sizeLine ∧ Nx1 (upd H7 E (.lst (acc ++ [y]))) else Nx1 H6)
def Lc2It (J : It) (g : TG) (tt : TT) (wi1 : TI) (g1 : TG) (tt1 : TT) (te : TE) (vs vs1 : List Nat) (σ : L2.St) (H1 : Hp) (Q : VK) : Prop := ∀ D, H1 D = none → ∃ W : Nat → Nat → Hp → Prop, (∃ m, W 0 m (upd H1 D (.lst []))) ∧ ∀ i m H, W i m H →
  (J.stop i H ∧ Q (.ref D) H) ∨ (J.go i H ∧ ∃ Nx : Hp → Prop, (∀ H', Nx H' → ∃ m', m' < m ∧ W (i + 1) m' H') ∧ ∀ x H', J.yld i H x H' → g x (wipe σ vs) H' fun σ2 H2 => wipe σ2 vs = wipe σ vs ∧ tt σ2 H2 fun b H3 =>
    if b = true then wi1 σ2 H3 fun J1 H4 => InIt D J1 g1 tt1 te vs1 σ2 H4 Nx else Nx H3)
theorem r_lc2 {wi wi1 : TI} {g g1 : TG} {tt tt1 : TT} {vs vs1 : List Nat} (h : wi σ H fun J H1 => Lc2It J g tt wi1 g1 tt1 te vs vs1 σ H1 Q) : tLc2 wi g tt wi1 g1 tt1 te vs vs1 σ H Q := h
theorem lc2L {a : Addr} {xs : List V} {wi1 : TI} {g g1 : TG} {tt1 : TT} {vs vs1 : List Nat} (Pv : Addr → Nat → Hp → Prop) (h0 : ∀ E H1, H E = none → H1 E = some (.lst []) → Keep [] H H1 → Pv E 0 H1) (hG : ∀ E i H, i ≤ xs.length → Pv E i H → SqL K H a xs)
    (hs : ∀ E i x H, xs[i]? = some x → Pv E i H → g x (wipe σ vs) H fun σ2 H2 => wipe σ2 vs = wipe σ vs ∧ wi1 σ2 H2 fun J1 H4 => InIt E J1 g1 tt1 te vs1 σ2 H4 (Pv E (i + 1))) (hd : ∀ E H, Pv E xs.length H → Q (.ref E) H) : Lc2It (Itl K a) g tYes wi1 g1 tt1 te vs vs1 σ H Q := by
  intro E hE
  refine ⟨fun i m H' => m = xs.length - i ∧ i ≤ xs.length ∧ Pv E i H', ⟨xs.length, rfl, Nat.zero_le _, h0 E _ hE upd_same (Keep.new hE)⟩, ?_⟩
  rintro i m H' ⟨rfl, hi, p⟩
  have w := walk_list (K := K) (a := a) (xs := xs)
  by_cases hlt : i < xs.length
  · refine .inr ⟨w.goes i H' hlt (hG E i H' hi p), Pv E (i + 1), fun H2 p' => ⟨xs.length - (i + 1), by omega, rfl, hlt, p'⟩, fun x H2 y => ?_⟩
    obtain ⟨e1, e2⟩ := w.yields i H' x H2 hlt (hG E i H' hi p) y
    subst e1
    exact hs E i x H2 e2 p
  · have e : i = xs.length := by omega
    subst e
    exact .inl ⟨w.stops H' (hG E _ H' hi p), hd E H' p⟩
theorem inR {E : Addr} {n : Nat} {g1 : TG} {vs1 : List Nat} {Nx : Hp → Prop} (Pi : Nat → Hp → Prop) (h0 : Pi 0 H) (hs : ∀ j H, j < n → Pi j H → g1 (.int (j : Int)) (wipe σ2 vs1) H fun σ3 H5 => wipe σ3 vs1 = wipe σ2 vs1 ∧ te σ3 H5 fun y H7 => Acc E y H7 (Pi (j + 1)))
    (hd : ∀ H, Pi n H → Nx H) : InIt E (Itr 0 n) g1 tYes te vs1 σ2 H Nx := by
  refine ⟨fun j m H' => m = n - j ∧ j ≤ n ∧ Pi j H', ⟨n, rfl, Nat.zero_le _, h0⟩, ?_⟩
  rintro j m H' ⟨rfl, hj, p⟩
  have w := walk_range (lo := 0) (n := n)
  by_cases hlt : j < n
  · refine .inr ⟨w.goes j H' hlt trivial, Pi (j + 1), fun H2 p' => ⟨n - (j + 1), by omega, rfl, hlt, p'⟩, fun x H2 y => ?_⟩
    obtain ⟨rfl, rfl⟩ := w.yields j H' x H2 hlt trivial y
    show g1 (.int (0 + (j : Int))) (wipe σ2 vs1) _ _
    rw [Int.zero_add]
    exact hs j _ hlt p
  · have e : j = n := by omega
    subst e
    exact .inl ⟨w.stops H' trivial, hd H' p⟩
end
end Hw
/-! Fields of instances. -/
namespace Hw
open PySem PySem.Spec PyProof.Rows L2
theorem putF_nil {f : Str} {v : V} : putF f v [] = [(f, v)] := rfl
theorem putF_hit {f : Str} {v x : V} {r : List (Str × V)} : putF f v ((f, x) :: r) = (f, v) :: r := by
  show (if f = f then (f, v) :: r else _) = _
  rw [if_pos rfl]
theorem putF_skip {f g : Str} {v x : V} {r : List (Str × V)} (h : ¬ g = f) : putF f v ((g, x) :: r) = (g, x) :: putF f v r := by
  show (if g = f then (g, v) :: r else (g, x) :: putF f v r) = _
  rw [if_neg h]
theorem lk_hit {f : Str} {v : V} {r : List (Str × V)} : ((f, v) :: r).lookup f = some v := by
  unfold List.lookup
  rw [show (f == f) = true from beq_self_eq_true f]
theorem lk_skip {f g : Str} {x : V} {r : List (Str × V)} (h : ¬ g = f) : ((f, x) :: r).lookup g = r.lookup g := by
  show (match g == f with | true => some x | false => r.lookup g) = _
  rw [show (g == f) = false from beq_eq_false_iff_ne.mpr h]
/-- a cell, a frame, a want, a run -/
def cellF (n : Int) (l : Addr) : List (Str × V) := [("number", .int n), ("loans", .ref l)]
def frameF (o h r : Addr) : List (Str × V) := [("owns", .ref o), ("handed", .ref h), ("roads", .ref r)]
def wantF (t f : V) : List (Str × V) := [("thing", t), ("frame", f)]
def runF (vp vw : V) (c s : Addr) (m : Int) (x : Bool) : List (Str × V) := [("program", vp), ("ways", vw), ("commons", .ref c), ("said", .ref s), ("lent", .int m), ("mixed", .bl x)]
section
variable {n m : Int} {l o h r c s : Addr} {t f vp vw : V} {x : Bool}
theorem cell_number : (cellF n l).lookup ("number" : Str) = some (.int n) := lk_hit
theorem cell_loans : (cellF n l).lookup ("loans" : Str) = some (.ref l) := (lk_skip (by decide +kernel)).trans lk_hit
theorem cell_put {k : Int} : putF "number" (.int k) (cellF n l) = cellF k l := putF_hit
theorem frame_owns : (frameF o h r).lookup ("owns" : Str) = some (.ref o) := lk_hit
theorem frame_handed : (frameF o h r).lookup ("handed" : Str) = some (.ref h) := (lk_skip (by decide +kernel)).trans lk_hit
theorem frame_roads : (frameF o h r).lookup ("roads" : Str) = some (.ref r) := (lk_skip (by decide +kernel)).trans ((lk_skip (by decide +kernel)).trans lk_hit)
theorem want_thing : (wantF t f).lookup ("thing" : Str) = some t := lk_hit
theorem want_frame : (wantF t f).lookup ("frame" : Str) = some f := (lk_skip (by decide +kernel)).trans lk_hit
theorem run_program : (runF vp vw c s m x).lookup ("program" : Str) = some vp := lk_hit
theorem run_ways : (runF vp vw c s m x).lookup ("ways" : Str) = some vw := (lk_skip (by decide +kernel)).trans lk_hit
theorem run_commons : (runF vp vw c s m x).lookup ("commons" : Str) = some (.ref c) := (lk_skip (by decide +kernel)).trans ((lk_skip (by decide +kernel)).trans lk_hit)
theorem run_said : (runF vp vw c s m x).lookup ("said" : Str) = some (.ref s) := (lk_skip (by decide +kernel)).trans ((lk_skip (by decide +kernel)).trans ((lk_skip (by decide +kernel)).trans lk_hit))
theorem run_lent : (runF vp vw c s m x).lookup ("lent" : Str) = some (.int m) := (lk_skip (by decide +kernel)).trans ((lk_skip (by decide +kernel)).trans ((lk_skip (by decide +kernel)).trans ((lk_skip (by decide +kernel)).trans lk_hit)))
theorem run_mixed : (runF vp vw c s m x).lookup ("mixed" : Str) = some (.bl x) := (lk_skip (by decide +kernel)).trans ((lk_skip (by decide +kernel)).trans ((lk_skip (by decide +kernel)).trans ((lk_skip (by decide +kernel)).trans ((lk_skip (by decide +kernel)).trans lk_hit))))
theorem run_put_lent {k : Int} : putF "lent" (.int k) (runF vp vw c s m x) = runF vp vw c s k x := by
  unfold runF
  rw [putF_skip (by decide +kernel), putF_skip (by decide +kernel), putF_skip (by decide +kernel), putF_skip (by decide +kernel), putF_hit]
theorem run_put_mixed {k : Bool} : putF "mixed" (.bl k) (runF vp vw c s m x) = runF vp vw c s m k := by
  unfold runF
  rw [putF_skip (by decide +kernel), putF_skip (by decide +kernel), putF_skip (by decide +kernel), putF_skip (by decide +kernel), putF_skip (by decide +kernel), putF_hit]
end
/-- the program's own classes -/
structure Own (K : PySem.W.Frag) (mg : Str → Option Value) (cC cF cW cR : Addr) : Prop where
  tC : TyC K cC
  tW : TyC K cW
  clF : Cls K cF
  clR : Cls K cR
  notW : PySem.W.kitOne K (.ref cC) (.ref cW) = some false
  isW : PySem.W.kitOne K (.ref cW) (.ref cW) = some true
  Want : mg "Want" = some (.ref cW)
  number : NoAttr K cC "number"
  loans : NoAttr K cC "loans"
  owns : NoAttr K cF "owns"
  handed : NoAttr K cF "handed"
  roads : NoAttr K cF "roads"
  thing : NoAttr K cW "thing"
  frame : NoAttr K cW "frame"
  program : NoAttr K cR "program"
  ways : NoAttr K cR "ways"
  commons : NoAttr K cR "commons"
  said : NoAttr K cR "said"
  lent : NoAttr K cR "lent"
  mixed : NoAttr K cR "mixed"
end Hw
/-! How the program's run lies in the heap. -/
namespace Hw
open PySem PySem.Spec PyProof.Rows L2
structure Kl where
  C : Addr
  F : Addr
  W : Addr
  R : Addr
structure Rn where
  r : Addr
  lc : Addr
  ls : Addr
  vp : V
  vw : V
def flat (cs : List (Addr × Addr)) : List Addr := cs.flatMap fun c => [c.1, c.2]
theorem flat_app {a b : List (Addr × Addr)} : flat (a ++ b) = flat a ++ flat b := List.flatMap_append
theorem mem_flat1 {cs : List (Addr × Addr)} {i : Nat} {c : Addr × Addr} (h : cs[i]? = some c) : c.1 ∈ flat cs := List.mem_flatMap.mpr ⟨c, List.mem_of_getElem? h, by simp⟩
theorem mem_flat2 {cs : List (Addr × Addr)} {i : Nat} {c : Addr × Addr} (h : cs[i]? = some c) : c.2 ∈ flat cs := List.mem_flatMap.mpr ⟨c, List.mem_of_getElem? h, by simp⟩
theorem mem_flat {cs : List (Addr × Addr)} {x : Addr} (h : x ∈ flat cs) : ∃ (i : Nat) (c : Addr × Addr), cs[i]? = some c ∧ (x = c.1 ∨ x = c.2) := by
  obtain ⟨c, hc, hx⟩ := List.mem_flatMap.mp h
  obtain ⟨i, hi⟩ := List.mem_iff_getElem?.mp hc
  exact ⟨i, c, hi, by simpa using hx⟩
/-- the addresses of different cells are different -/
theorem flat_ne : ∀ {cs : List (Addr × Addr)} {i j : Nat} {c d : Addr × Addr}, (flat cs).Nodup → cs[i]? = some c → cs[j]? = some d → i ≠ j → c.1 ≠ d.1 ∧ c.2 ≠ d.2 ∧ c.1 ≠ d.2 ∧ c.2 ≠ d.1
  | [], i, j, c, d, _, e, _, _ => by simp at e
  | x :: r, i, j, c, d, nd, e1, e2, n => by
    have nd' : (x.1 :: x.2 :: flat r).Nodup := nd
    obtain ⟨n1, nd2⟩ := List.nodup_cons.mp nd'
    obtain ⟨n2, nd3⟩ := List.nodup_cons.mp nd2
    cases i with
    | zero =>
      cases j with
      | zero => exact absurd rfl n
      | succ j =>
        have e1' : x = c := by simpa using e1
        have e2' : r[j]? = some d := by simpa using e2
        subst e1'
        have m1 := mem_flat1 e2'
        have m2 := mem_flat2 e2'
        exact ⟨fun z => n1 (by rw [z]; exact List.mem_cons_of_mem _ m1), fun z => n2 (by rw [z]; exact m2), fun z => n1 (by rw [z]; exact List.mem_cons_of_mem _ m2), fun z => n2 (by rw [z]; exact m1)⟩
    | succ i =>
      cases j with
      | zero =>
        have e2' : x = d := by simpa using e2
        have e1' : r[i]? = some c := by simpa using e1
        subst e2'
        have m1 := mem_flat1 e1'
        have m2 := mem_flat2 e1'
        exact ⟨fun z => n1 (by rw [← z]; exact List.mem_cons_of_mem _ m1), fun z => n2 (by rw [← z]; exact m2), fun z => n2 (by rw [← z]; exact m1), fun z => n1 (by rw [← z]; exact List.mem_cons_of_mem _ m2)⟩
      | succ j =>
        exact flat_ne nd3 (by simpa using e1) (by simpa using e2) fun z => n (by rw [z])
def trk (R : Rn) (cs : List (Addr × Addr)) : List Addr := R.r :: R.ls :: flat cs
/-- the run: its numbers by the cells cs, which are lent as lo tells -/
structure PSt (K : PySem.W.Frag) (H : Hp) (kl : Kl) (R : Rn) (cs : List (Addr × Addr)) (S : LS) (lo : Nat → List Nat) : Prop where
  run : ∃ dx, H R.r = some (.ins kl.R dx (runF R.vp R.vw R.lc R.ls (S.many : Int) S.mixed))
  com : H R.lc = some (.lst ((cs.take 3).map fun c => V.ref c.1))
  sd : H R.ls = some (.lst (nums S.said))
  len : cs.length = S.at_.length
  cell : ∀ (i : Nat) (c : Addr × Addr), cs[i]? = some c → ∃ (dx : Addr) (n : Nat) (L : List Nat), S.at_[i]? = some n ∧ H c.1 = some (.ins kl.C dx (cellF (n : Int) c.2)) ∧ H c.2 = some (.lst (nums L)) ∧ lo i = L.map (· + 1)
  nd : (R.lc :: trk R cs).Nodup
  out : ∀ i, cs.length ≤ i → lo i = []
/-- as the law's run has it -/
abbrev PS (K : PySem.W.Frag) (H : Hp) (kl : Kl) (R : Rn) (cs : List (Addr × Addr)) (S : LS) : Prop := PSt K H kl R cs S (lentOf S.lent)
section
variable {K : PySem.W.Frag} {H H1 : Hp} {kl : Kl} {R : Rn} {cs : List (Addr × Addr)} {S : LS} {lo : Nat → List Nat}
theorem PSt.lcM (g : PSt K H kl R cs S lo) : R.lc ∉ trk R cs := (List.nodup_cons.mp g.nd).1
theorem PSt.nd' (g : PSt K H kl R cs S lo) : (trk R cs).Nodup := (List.nodup_cons.mp g.nd).2
theorem PSt.ndf (g : PSt K H kl R cs S lo) : (flat cs).Nodup := (List.nodup_cons.mp (List.nodup_cons.mp g.nd').2).2
theorem PSt.rs (g : PSt K H kl R cs S lo) : R.r ≠ R.ls := fun z => (List.nodup_cons.mp g.nd').1 (by rw [z]; exact List.mem_cons_self)
theorem PSt.rf (g : PSt K H kl R cs S lo) : R.r ∉ flat cs := fun z => (List.nodup_cons.mp g.nd').1 (List.mem_cons_of_mem _ z)
theorem PSt.sf (g : PSt K H kl R cs S lo) : R.ls ∉ flat cs := (List.nodup_cons.mp (List.nodup_cons.mp g.nd').2).1
theorem PSt.lo_ (g : PSt K H kl R cs S lo) : Lo H (trk R cs) := fun x hx => by
  rcases List.mem_cons.mp hx with rfl | hx
  · obtain ⟨dx, e⟩ := g.run
    exact .inr (.inr ⟨_, _, _, e⟩)
  rcases List.mem_cons.mp hx with rfl | hx
  · exact .inl ⟨_, g.sd⟩
  obtain ⟨i, c, hc, hx⟩ := mem_flat hx
  obtain ⟨dx, n, L, _, h1, h2, _⟩ := g.cell i c hc
  rcases hx with rfl | rfl
  · exact .inr (.inr ⟨_, _, _, h1⟩)
  · exact .inl ⟨_, h2⟩
theorem PSt.al (g : PSt K H kl R cs S lo) : ∀ x ∈ trk R cs, H x ≠ none := fun x hx => by
  rcases g.lo_ x hx with ⟨_, h⟩ | ⟨_, h⟩ | ⟨_, _, _, h⟩ <;> (rw [h]; exact fun z => nomatch z)
theorem PSt.ts (g : PSt K H kl R cs S lo) (k : Keep (trk R cs) H H1) : Tst H H1 := k.ts g.lo_
theorem sub_r : ∀ x ∈ [R.r], x ∈ trk R cs := fun x hx => by cases List.mem_singleton.mp hx; exact List.mem_cons_self
theorem PSt.kr (k : Keep [R.r] H H1) : Keep (trk R cs) H H1 := k.mono sub_r
theorem k0 {M : List Addr} (k : Keep [] H H1) : Keep M H H1 := k.mono fun _ z => nomatch z
theorem PSt.keep0 (g : PSt K H kl R cs S lo) (k : Keep [] H H1) : PSt K H1 kl R cs S lo := by
  refine ⟨?_, k _ _ g.com (by simp), k _ _ g.sd (by simp), g.len, fun i c hc => ?_, g.nd, g.out⟩
  · obtain ⟨dx, e⟩ := g.run
    exact ⟨dx, k _ _ e (by simp)⟩
  · obtain ⟨dx, n, L, h1, h2, h3, h4⟩ := g.cell i c hc
    exact ⟨dx, n, L, h1, k _ _ h2 (by simp), k _ _ h3 (by simp), h4⟩
theorem PSt.keepN {M : List Addr} (g : PSt K H kl R cs S lo) (k : Keep M H H1) (n : ∀ a ∈ R.lc :: trk R cs, a ∉ M) : PSt K H1 kl R cs S lo := by
  have nf : ∀ x ∈ flat cs, x ∉ M := fun x hx => n x (List.mem_cons_of_mem _ (List.mem_cons_of_mem _ (List.mem_cons_of_mem _ hx)))
  refine ⟨?_, k _ _ g.com (n _ List.mem_cons_self), k _ _ g.sd (n _ (List.mem_cons_of_mem _ (List.mem_cons_of_mem _ List.mem_cons_self))), g.len, fun i c hc => ?_, g.nd, g.out⟩
  · obtain ⟨dx, e⟩ := g.run
    exact ⟨dx, k _ _ e (n _ (List.mem_cons_of_mem _ List.mem_cons_self))⟩
  · obtain ⟨dx, m, L, h1, h2, h3, h4⟩ := g.cell i c hc
    exact ⟨dx, m, L, h1, k _ _ h2 (nf _ (mem_flat1 hc)), k _ _ h3 (nf _ (mem_flat2 hc)), h4⟩
/-- what is lent stands in lo alone -/
theorem PSt.cast {S2 : LS} (g : PSt K H kl R cs S lo) (e1 : S2.at_ = S.at_) (e2 : S2.said = S.said) (e3 : S2.many = S.many) (e4 : S2.mixed = S.mixed) : PSt K H kl R cs S2 lo :=
  ⟨by rw [e3, e4]; exact g.run, g.com, by rw [e2]; exact g.sd, by rw [e1]; exact g.len, by rw [e1]; exact g.cell, g.nd, g.out⟩
theorem PSt.all (g : PSt K H kl R cs S lo) : ∀ x ∈ R.lc :: trk R cs, H x ≠ none := fun x hx => by
  rcases List.mem_cons.mp hx with rfl | hx
  · rw [g.com]; exact fun z => nomatch z
  · exact g.al x hx
/-- the run's own fields were changed -/
theorem PSt.fields {dx : Addr} {m : Nat} {b : Bool} (g : PSt K H kl R cs S lo) (k : Keep [R.r] H H1) (h : H1 R.r = some (.ins kl.R dx (runF R.vp R.vw R.lc R.ls (m : Int) b))) : PSt K H1 kl R cs { S with many := m, mixed := b } lo := by
  have nr : ∀ x, x ∈ flat cs → x ∉ [R.r] := fun x hx z => by
    cases List.mem_singleton.mp z
    exact g.rf hx
  refine ⟨⟨dx, h⟩, k _ _ g.com fun z => ?_, k _ _ g.sd fun z => ?_, g.len, fun i c hc => ?_, g.nd, g.out⟩
  · have := List.mem_singleton.mp z
    exact g.lcM (by rw [this]; exact List.mem_cons_self)
  · exact g.rs (List.mem_singleton.mp z).symm
  · obtain ⟨dx, n, L, h1, h2, h3, h4⟩ := g.cell i c hc
    exact ⟨dx, n, L, h1, k _ _ h2 (nr _ (mem_flat1 hc)), k _ _ h3 (nr _ (mem_flat2 hc)), h4⟩
/-- what was said -/
theorem PSt.say {l : List Nat} (g : PSt K H kl R cs S lo) (k : Keep [R.ls] H H1) (h : H1 R.ls = some (.lst (nums l))) : PSt K H1 kl R cs { S with said := l } lo := by
  have nr : ∀ x, x ∈ flat cs → x ∉ [R.ls] := fun x hx z => by
    cases List.mem_singleton.mp z
    exact g.sf hx
  obtain ⟨dx, e⟩ := g.run
  refine ⟨⟨dx, k _ _ e fun z => g.rs (List.mem_singleton.mp z)⟩, k _ _ g.com fun z => ?_, h, g.len, fun i c hc => ?_, g.nd, g.out⟩
  · have := List.mem_singleton.mp z
    exact g.lcM (by rw [this]; exact List.mem_cons_of_mem _ List.mem_cons_self)
  · obtain ⟨dx, n, L, h1, h2, h3, h4⟩ := g.cell i c hc
    exact ⟨dx, n, L, h1, k _ _ h2 (nr _ (mem_flat1 hc)), k _ _ h3 (nr _ (mem_flat2 hc)), h4⟩
/-- a cell has another number -/
theorem PSt.put {p v : Nat} {c : Addr × Addr} {dx : Addr} (g : PSt K H kl R cs S lo) (hc : cs[p]? = some c) (k : Keep [c.1] H H1) (h : H1 c.1 = some (.ins kl.C dx (cellF (v : Int) c.2))) : PSt K H1 kl R cs { S with at_ := S.at_.set p v } lo := by
  have m := mem_flat1 hc
  obtain ⟨dr, e⟩ := g.run
  have pl : p < S.at_.length := by
    rw [← g.len]
    exact (List.getElem?_eq_some_iff.mp hc).1
  have ne : ∀ x, x ≠ c.1 → x ∉ [c.1] := fun x hx z => hx (List.mem_singleton.mp z)
  refine ⟨⟨dr, k _ _ e (ne _ fun z => g.rf (z ▸ m))⟩, k _ _ g.com (ne _ fun z => g.lcM (by rw [z]; exact List.mem_cons_of_mem _ (List.mem_cons_of_mem _ m))), k _ _ g.sd (ne _ fun z => g.sf (z ▸ m)), by rw [g.len]; exact (List.length_set ..).symm, fun i d hd => ?_, g.nd, g.out⟩
  obtain ⟨dx', n, L, h1, h2, h3, h4⟩ := g.cell i d hd
  by_cases ci : i = p
  · subst ci
    rw [hc] at hd
    cases hd
    refine ⟨dx, v, L, ?_, h, k _ _ h3 (ne _ fun z => ?_), h4⟩
    · show (S.at_.set i v)[i]? = some v
      rw [List.getElem?_set, if_pos rfl, if_pos pl]
    · have : c.1 ≠ c.2 := fun z => by rw [z, h3] at h2; cases h2
      exact this z.symm
  · obtain ⟨n1, n2, n3, n4⟩ := flat_ne g.ndf hd hc ci
    refine ⟨dx', n, L, ?_, k _ _ h2 (ne _ n1), k _ _ h3 (ne _ n4), h4⟩
    show (S.at_.set p v)[i]? = some n
    rw [List.getElem?_set, if_neg (Ne.symm ci)]
    exact h1
/-- a cell has other loans -/
theorem PSt.loan {p : Nat} {c : Addr × Addr} {L' : List Nat} {lo' : Nat → List Nat} (g : PSt K H kl R cs S lo) (hc : cs[p]? = some c) (k : Keep [c.2] H H1) (h : H1 c.2 = some (.lst (nums L'))) (e1 : lo' p = L'.map (· + 1)) (e2 : ∀ i, i ≠ p → lo' i = lo i) : PSt K H1 kl R cs S lo' := by
  have m := mem_flat2 hc
  obtain ⟨dr, e⟩ := g.run
  have ne : ∀ x, x ≠ c.2 → x ∉ [c.2] := fun x hx z => hx (List.mem_singleton.mp z)
  refine ⟨⟨dr, k _ _ e (ne _ fun z => g.rf (z ▸ m))⟩, k _ _ g.com (ne _ fun z => g.lcM (by rw [z]; exact List.mem_cons_of_mem _ (List.mem_cons_of_mem _ m))), k _ _ g.sd (ne _ fun z => g.sf (z ▸ m)), g.len, fun i d hd => ?_, g.nd, fun i hi => (e2 i fun z => by rw [z] at hi; have := (List.getElem?_eq_some_iff.mp hc).1; omega).trans (g.out i hi)⟩
  obtain ⟨dx', n, L, h1, h2, h3, h4⟩ := g.cell i d hd
  by_cases ci : i = p
  · subst ci
    rw [hc] at hd
    cases hd
    refine ⟨dx', n, L', h1, k _ _ h2 (ne _ fun z => ?_), h, e1⟩
    rw [z, h3] at h2
    cases h2
  · obtain ⟨n1, n2, n3, n4⟩ := flat_ne g.ndf hd hc ci
    exact ⟨dx', n, L, h1, k _ _ h2 (ne _ n3), k _ _ h3 (ne _ n2), (e2 i ci).trans h4⟩
/-- new cells, which aren't lent -/
theorem PSt.more {ds : List (Addr × Addr)} {vs : List Nat} (g : PSt K H kl R cs S lo) (l3 : 3 ≤ cs.length) (hl : ds.length = vs.length) (hn : (flat ds).Nodup) (hd : ∀ x ∈ flat ds, x ≠ R.lc ∧ x ∉ trk R cs)
    (h : ∀ (i : Nat) (c : Addr × Addr), ds[i]? = some c → ∃ dx n, vs[i]? = some n ∧ H c.1 = some (.ins kl.C dx (cellF (n : Int) c.2)) ∧ H c.2 = some (.lst []))   : PSt K H kl R (cs ++ ds) { S with at_ := S.at_ ++ vs } lo := by
  refine ⟨g.run, by rw [List.take_append_of_le_length l3]; exact g.com, g.sd, by rw [List.length_append, g.len, hl]; exact (List.length_append ..).symm, fun i c hc => ?_, ?_, fun i hi => g.out i (by rw [List.length_append] at hi; omega)⟩
  · by_cases ci : i < cs.length
    · rw [List.getElem?_append_left ci] at hc
      obtain ⟨dx', n, L, h1, h2, h3, h4⟩ := g.cell i c hc
      exact ⟨dx', n, L, by show (S.at_ ++ vs)[i]? = _; rw [List.getElem?_append_left (by rw [← g.len]; exact ci)]; exact h1, h2, h3, h4⟩
    · rw [List.getElem?_append_right (by omega)] at hc
      obtain ⟨dx, n, h1, h2, h3⟩ := h _ c hc
      exact ⟨dx, n, [], by show (S.at_ ++ vs)[i]? = _; rw [List.getElem?_append_right (by rw [← g.len]; omega), ← g.len]; exact h1, h2, h3, by rw [g.out i (by omega)]; rfl⟩
  · have e : R.lc :: trk R (cs ++ ds) = (R.lc :: trk R cs) ++ flat ds := by
      unfold trk
      rw [flat_app]
      rfl
    rw [e]
    refine List.nodup_append.mpr ⟨g.nd, hn, fun a ha b hb z => ?_⟩
    obtain ⟨h1, h2⟩ := hd b hb
    subst z
    rcases List.mem_cons.mp ha with q | q
    · exact h1 q
    · exact h2 q
end
/-! ### frames -/
section
variable (K : PySem.W.Frag) (H : Hp) (kl : Kl) (M : List Addr) (cs : List (Addr × Addr))
mutual
def PFr : Fr → V → Prop
  | .mk os hs => fun v => ∃ (a dx o h d : Addr) (zs xs ys : List V), v = .ref a ∧ H a = some (.ins kl.F dx (frameF o h d)) ∧ a ∉ M ∧ H o = some (.lst zs) ∧ o ∉ M ∧ (∀ (k p : Nat), os[k]? = some p → ∃ c, cs[p]? = some c ∧ zs[k]? = some (.ref c.1)) ∧
    H h = some (.lst xs) ∧ h ∉ M ∧ H d = some (.lst ys) ∧ d ∉ M ∧ PHds hs xs ys
def PHd : Hd → V → V → Prop
  | .road p ws => fun x y => ∃ (c : Addr × Addr) (t : Addr) (L : List Nat), cs[p]? = some c ∧ x = .ref c.1 ∧ y = .ref t ∧ SqT K H t (nums L) ∧ ws = L.map (· + 1)
  | .want t f => fun x _ => ∃ (a dx : Addr) (vt vf : V), x = .ref a ∧ H a = some (.ins kl.W dx (wantF vt vf)) ∧ a ∉ M ∧ Rp K H vt t.enc ∧ PFr f vf
def PHds : Hds → List V → List V → Prop
  | .nil => fun xs ys => xs = [] ∧ ys = []
  | .cons h r => fun xs ys => ∃ x xr y yr, xs = x :: xr ∧ ys = y :: yr ∧ PHd h x y ∧ PHds r xr yr
end
end
section
variable {K : PySem.W.Frag} {H H1 : Hp} {kl : Kl} {M M' : List Addr} {cs cs' : List (Addr × Addr)}
/-- what stands and isn't tracked stays so -/
theorem stays {a : Addr} {o : HO} (k : Keep M H H1) (n : ∀ x ∈ M', x ∈ M ∨ H x = none) (h : H a = some o) (m : a ∉ M) : H1 a = some o ∧ a ∉ M' := ⟨k _ _ h m, fun z => by
  rcases n a z with q | q
  · exact m q
  · rw [q] at h; cases h⟩
mutual
theorem PFr.go (k : Keep M H H1) (t : Tst H H1) (n : ∀ x ∈ M', x ∈ M ∨ H x = none) (e : ∀ (p : Nat) c, cs[p]? = some c → cs'[p]? = some c) : ∀ {f : Fr} {v : V}, PFr K H kl M cs f v → PFr K H1 kl M' cs' f v
  | .mk os hs, v, g => by
    unfold PFr at g ⊢
    obtain ⟨a, dx, o, h, d, zs, xs, ys, rfl, h1, m1, h2, m2, h3, h4, m4, h5, m5, h6⟩ := g
    obtain ⟨q1, r1⟩ := stays k n h1 m1
    obtain ⟨q2, r2⟩ := stays k n h2 m2
    obtain ⟨q4, r4⟩ := stays k n h4 m4
    obtain ⟨q5, r5⟩ := stays k n h5 m5
    exact ⟨a, dx, o, h, d, zs, xs, ys, rfl, q1, r1, q2, r2, fun i p hp => by
      obtain ⟨c, e1, e2⟩ := h3 i p hp
      exact ⟨c, e _ _ e1, e2⟩, q4, r4, q5, r5, PHds.go k t n e h6⟩
theorem PHd.go (k : Keep M H H1) (t : Tst H H1) (n : ∀ x ∈ M', x ∈ M ∨ H x = none) (e : ∀ (p : Nat) c, cs[p]? = some c → cs'[p]? = some c) : ∀ {d : Hd} {x y : V}, PHd K H kl M cs d x y → PHd K H1 kl M' cs' d x y
  | .road p ws, x, y, g => by
    unfold PHd at g ⊢
    obtain ⟨c, tp, L, h1, rfl, rfl, h2, h3⟩ := g
    exact ⟨c, tp, L, e _ _ h1, rfl, rfl, t.sqT h2, h3⟩
  | .want u f, x, y, g => by
    unfold PHd at g ⊢
    obtain ⟨a, dx, vt, vf, rfl, h1, m1, h2, h3⟩ := g
    obtain ⟨q1, r1⟩ := stays k n h1 m1
    exact ⟨a, dx, vt, vf, rfl, q1, r1, h2.ts t, PFr.go k t n e h3⟩
theorem PHds.go (k : Keep M H H1) (t : Tst H H1) (n : ∀ x ∈ M', x ∈ M ∨ H x = none) (e : ∀ (p : Nat) c, cs[p]? = some c → cs'[p]? = some c) : ∀ {hs : Hds} {xs ys : List V}, PHds K H kl M cs hs xs ys → PHds K H1 kl M' cs' hs xs ys
  | .nil, xs, ys, g => by
    unfold PHds at g ⊢
    exact g
  | .cons d r, xs, ys, g => by
    unfold PHds at g ⊢
    obtain ⟨x, xr, y, yr, rfl, rfl, h1, h2⟩ := g
    exact ⟨x, xr, y, yr, rfl, rfl, PHd.go k t n e h1, PHds.go k t n e h2⟩
end
theorem PFr.keep {f : Fr} {v : V} (k : Keep M H H1) (t : Tst H H1) (g : PFr K H kl M cs f v) : PFr K H1 kl M cs f v := g.go k t (fun _ h => .inl h) fun _ _ h => h
theorem PFr.keep0 {f : Fr} {v : V} (k : Keep [] H H1) (g : PFr K H kl M cs f v) : PFr K H1 kl M cs f v := g.keep (k0 k) (k.ts fun _ z => nomatch z)
theorem PHds.get : ∀ {hs : Hds} {xs ys : List V} {i : Nat} {d : Hd}, PHds K H kl M cs hs xs ys → hs.get i = some d → ∃ x y, xs[i]? = some x ∧ ys[i]? = some y ∧ PHd K H kl M cs d x y
  | .nil, _, _, _, _, _, e => by unfold Hds.get at e; cases e
  | .cons d r, xs, ys, 0, d', h, e => by
    unfold PHds at h
    obtain ⟨x, xr, y, yr, rfl, rfl, h1, h2⟩ := h
    unfold Hds.get at e
    cases e
    exact ⟨x, y, rfl, rfl, h1⟩
  | .cons d r, xs, ys, i + 1, d', h, e => by
    unfold PHds at h
    obtain ⟨x, xr, y, yr, rfl, rfl, h1, h2⟩ := h
    unfold Hds.get at e
    obtain ⟨u, v, e1, e2, e3⟩ := PHds.get h2 e
    exact ⟨u, v, by simpa using e1, by simpa using e2, e3⟩
/-- handed one by one -/
theorem PHds.of {hs : List (Hd × Option Nat)} : ∀ {xs ys : List V}, xs.length = hs.length → ys.length = hs.length → (∀ (i : Nat) h b, hs[i]? = some (h, b) → ∃ x y, xs[i]? = some x ∧ ys[i]? = some y ∧ PHd K H kl M cs h x y) → PHds K H kl M cs (Hds.of hs) xs ys := by
  induction hs with
  | nil =>
    intro xs ys e1 e2 _
    unfold Hds.of PHds
    exact ⟨List.length_eq_zero_iff.mp e1, List.length_eq_zero_iff.mp e2⟩
  | cons hb r ih =>
    intro xs ys e1 e2 g
    obtain ⟨h, b⟩ := hb
    obtain ⟨x, y, ex, ey, q⟩ := g 0 h b rfl
    cases xs with
    | nil => cases ex
    | cons x' xr =>
      cases ys with
      | nil => cases ey
      | cons y' yr =>
        cases (show x' = x by simpa using ex)
        cases (show y' = y by simpa using ey)
        unfold Hds.of PHds
        refine ⟨_, xr, _, yr, rfl, rfl, q, ih (by simpa using e1) (by simpa using e2) fun i h b e => ?_⟩
        obtain ⟨x, y, ex, ey, q⟩ := g (i + 1) h b (by simpa using e)
        exact ⟨x, y, by simpa using ex, by simpa using ey, q⟩
end
end Hw
namespace Hw
open PySem PySem.Spec PyProof.Rows L2
def top (i : Nat) : Stmt := PySem.Challenge.pw_handways_k10_whole_nothing_that_is_a_pla.main.body.getD i (.Pass ⟨0, 0, 0, 0⟩)
local macro_rules | `(tactic| walk_at "sz") => `(tactic| first | exact Nat.le_of_ble_eq_true rfl | exact small (by first | omega | (simp; done) | (simp; omega)))
local macro_rules | `(tactic| walk_at "szT") => `(tactic| first | exact Nat.lt_of_lt_of_le (Nat.lt_succ_self _) (Nat.le_of_ble_eq_true rfl) | exact smallT (by first | omega | (simp; done) | (simp; omega)))
local macro_rules | `(tactic| walk_at "cond") => `(tactic| first | decide | omega | (dsimp only; omega) | exact ⟨by omega, by omega⟩ | exact .inr ⟨by decide, by decide⟩)
local macro_rules | `(tactic| walk_at "sq") => `(tactic| first | assumption | exact SqL.of (by assumption) | exact SqT.of (by assumption))
local macro_rules | `(tactic| walk_at "ty") => `(tactic| first | (with_reducible assumption) | exact .base (.int _) | exact .base (.str _) | exact .base (.bl _) | exact .base .non | exact tyT (by walk_at "sq") | exact tyL (by walk_at "sq"))
local macro_rules | `(tactic| walk_at "rd1") => `(tactic| first
  | ((with_reducible apply r_seq))
  | ((with_reducible apply r_asg))
  | ((with_reducible apply r_name))
  | ((with_reducible apply r_op))
  | ((with_reducible apply r_var); exact rfl)
  | ((with_reducible apply r_c))
  | ((with_reducible apply r_ixT); (walk_at "sq"); first | exact rfl | assumption)
  | ((with_reducible apply r_ixL); (walk_at "sq"); first | exact rfl | assumption)
  | ((with_reducible apply r_ixA); (first | exact .inl (by walk_at "sq") | exact .inr (by walk_at "sq")); first | exact rfl | assumption)
  | ((with_reducible apply r_isi); (walk_at "ty"); (decide +kernel))
  | ((with_reducible apply r_isiT2); assumption; (walk_at "ty"); (decide +kernel); (decide +kernel))
  | ((with_reducible apply r_I0))
  | ((with_reducible apply r_I); (walk_at "cond"))
  | ((with_reducible apply r_eq); exact rfl)
  | ((with_reducible apply r_ne); exact rfl)
  | ((with_reducible apply r_test))
  | ((with_reducible apply r_bl))
  | ((with_reducible apply r_if))
  | ((with_reducible apply r_nil))
  | ((with_reducible apply r_cons))
  | ((with_reducible apply r_call))
  | ((with_reducible apply r_cb))
  | ((with_reducible apply r_tup))
  | ((with_reducible apply r_lst))
  | ((with_reducible apply new); (walk_at "sz"))
  | ((with_reducible apply r_ret))
  | ((with_reducible apply r_retN))
  | ((with_reducible apply r_next))
  | ((with_reducible apply r_drop))
  | ((with_reducible apply r_lenL); (walk_at "sq"))
  | ((with_reducible apply r_lenT); (walk_at "sq"))
  | ((with_reducible apply r_int))
  | ((with_reducible apply r_intB))
  | ((with_reducible apply r_isN))
  | ((with_reducible apply r_notN))
  | ((with_reducible apply r_B))
  | ((with_reducible apply r_not))
  | ((with_reducible apply r_notV))
  | ((with_reducible apply r_andV))
  | ((with_reducible apply r_orV))
  | ((with_reducible apply r_ifE))
  | ((with_reducible apply r_chain))
  | ((with_reducible apply ite_t); (first | (with_reducible exact nRN) | (with_reducible exact nIN) | (with_reducible exact dNN) | decide +kernel))
  | ((with_reducible apply ite_f); (first | (with_reducible exact dRN) | (with_reducible exact dIN) | (with_reducible exact nNN) | decide +kernel))
  | ((with_reducible apply r_in); (first | exact .inl (by walk_at "sq") | exact .inr (by walk_at "sq")); exact rfl; (first | exact nums_flat | exact rfl))
  | ((with_reducible apply turn))
  | ((with_reducible apply r_for))
  | ((with_reducible apply r_iRng1))
  | ((with_reducible apply r_rng); (first | decide | omega | (simp; omega)); (first | decide | omega | (simp; omega)))
  | ((with_reducible apply r_iList))
  | ((with_reducible apply r_iTup))
  | ((with_reducible apply r_overL); (walk_at "sq"))
  | ((with_reducible apply r_overT); (walk_at "sq"))
  | ((with_reducible apply r_lc))
  | ((with_reducible apply acc); assumption; (walk_at "szT"))
  | ((with_reducible apply r_sub))
  | ((with_reducible apply r_setL); assumption; exact rfl)
  | ((with_reducible apply r_gtup); (walk_at "sq"); rfl)
  | ((with_reducible apply r_gnil))
  | ((with_reducible apply r_gcons))
  | ((with_reducible apply r_par))
  | ((with_reducible apply r_par2))
  | ((with_reducible apply r_sl))
  | ((with_reducible apply r_part))
  | ((with_reducible apply r_part1))
  | ((with_reducible apply r_noPart))
  | ((with_reducible apply r_slL); (walk_at "sq"))
  | ((with_reducible apply r_slA); (walk_at "sq"))
  | ((with_reducible apply r_tupL); (walk_at "sq"))
  | ((with_reducible apply r_tupT); (walk_at "sq"))
  | ((with_reducible apply r_lstL); (walk_at "sq"))
  | ((with_reducible apply r_lstT); (walk_at "sq"))
  | ((with_reducible apply r_append))
  | ((with_reducible apply r_isL); (walk_at "sq"))
  | ((with_reducible apply r_app); assumption; (walk_at "szT"))
  | ((with_reducible apply r_dget))
  | ((with_reducible apply r_dgetS); assumption; (walk_at "dk"))
  | ((with_reducible apply r_dput))
  | ((with_reducible apply r_dputS); assumption; (walk_at "szT"))
  | ((with_reducible apply r_disp))
  | ((with_reducible apply r_pnil))
  | ((with_reducible apply r_pcons))
  | ((with_reducible apply r_fld))
  | ((with_reducible apply r_fld1); assumption; assumption; assumption; (first | exact rfl | assumption))
  | ((with_reducible apply r_sfld))
  | ((with_reducible apply r_sfld1); assumption; assumption; assumption; exact (by decide)))
local macro_rules | `(tactic| walk_at "rd") => `(tactic| repeat walk_at "rd1")
section
variable {P : Program} {w : World} {K : PySem.W.Frag} {mg : Str → Option Value} {base : Heap}
/-! ### the draws -/
/-- the script: locked, or written -/
def Scr (K : PySem.W.Frag) (H : Hp) (a : Addr) (ns : List Int) : Prop := (∃ o, H a = some (.frz o (.lst (ns.map V.int)))) ∨ ((fun _ => none : Hp) a = none ∧ SqL K (fun _ => none) a (ns.map V.int))
theorem Scr.sq {H : Hp} {a : Addr} {ns : List Int} (h : Scr K H a ns) : SqL K H a (ns.map V.int) := by
  rcases h with ⟨o, h⟩ | ⟨_, h⟩
  · exact .inl (.inr ⟨o, h⟩)
  · rcases h with (h | ⟨o, h⟩) | h
    · cases h
    · cases h
    · exact .inr h
theorem Scr.ts {H H1 : Hp} {a : Addr} {ns : List Int} (h : Scr K H a ns) (t : Tst H H1) : Scr K H1 a ns := by
  rcases h with ⟨o, h⟩ | h
  · exact .inl ⟨o, t.2 _ _ _ h⟩
  · exact .inr h
def Row (K : PySem.W.Frag) (H : Hp) (r : Addr) : Prop := ∃ (scr : Addr) (ns : List Int) (i m d : Int), H r = some (.lst [.ref scr, .int i, .int m, .int d]) ∧ Scr K H scr ns ∧ 0 ≤ i
theorem Row.keep {M : List Addr} {H H1 : Hp} {r : Addr} (h : Row K H r) (k : Keep M H H1) (n : r ∉ M) (t : Tst H H1) : Row K H1 r := by
  obtain ⟨scr, ns, i, m, d, hR, hS, i0⟩ := h
  exact ⟨scr, ns, i, m, d, k _ _ hR n, hS.ts t, i0⟩
theorem keep_ts0 {H H1 : Hp} (k : Keep [] H H1) : Tst H H1 := k.ts fun _ z => nomatch z
theorem Row.keep0 {H H1 : Hp} {r : Addr} (h : Row K H r) (k : Keep [] H H1) : Row K H1 r := h.keep k (by simp) (keep_ts0 k)
theorem Row.lo {H : Hp} {r : Addr} (h : Row K H r) : Lo H [r] := fun a ha => by
  obtain ⟨scr, ns, i, m, d, hR, hS, i0⟩ := h
  cases List.mem_singleton.mp ha
  exact .inl ⟨_, hR⟩
theorem Row.ts {H H1 : Hp} {r : Addr} (h : Row K H r) (k : Keep [r] H H1) : Tst H H1 := k.ts h.lo
theorem Row.ne {H : Hp} {r : Addr} (h : Row K H r) : H r ≠ none := by
  obtain ⟨scr, ns, i, m, d, hR, _⟩ := h
  rw [hR]
  exact fun z => nomatch z
def spTaken (K : PySem.W.Frag) : Sp := fun vs H Q _ => ∃ (r : Addr) (many : Int), vs = [.ref r, .int many] ∧ 0 < many ∧ many < 1000000 ∧ Row K H r ∧
  ∀ (v : Int) (H' : Hp), 0 ≤ v → v < many → Keep [r] H H' → Row K H' r → Q (.int v) H'
abbrev sL_taken : Stmt := top 53
abbrev nL_taken : List Str := ["_law_row", "_law_many", "_law_found", "_law_cell"]
abbrev pL_taken : List Str := ["_law_row", "_law_many"]
theorem scL_taken : FnScope nL_taken pL_taken (defScope sL_taken) := ⟨rfl, rfl, rfl, by decide +kernel, rfl, by decide +kernel, by decide +kernel⟩
theorem okTaken (D : DefAt K mg "_law_taken" sL_taken pL_taken) (T : Blt mg) : Callee P w K mg base "_law_taken" 1 pL_taken (spTaken K) := by
  refine D.ok scL_taken (fun vs H Q E h => ?_) (fun f cdv A outer s H vs Q E hr h => ?_)
  · obtain ⟨r, many, rfl, _⟩ := h
    rfl
  obtain ⟨r, many, rfl, m0, m1, ⟨scr, ns, i, m, d, hR, hC, i0⟩, q⟩ := h
  have hS := hC.sq
  have lo : ∀ {H0 : Hp} {xs : List V}, H0 r = some (.lst xs) → Lo H0 [r] := fun e a ha => by
    cases List.mem_singleton.mp ha
    exact .inl ⟨_, e⟩
  refine ⟨_, (pss_cons (ps_if (pt_cmpR op_gt (pe_ix (ixL (K := K)) (pv 0) pe_int (fun _ _ => rfl)) pe_int (nomark _)) (pss_cons (ps_set (i := 2) scL_taken.nd rfl (Or.inl rfl) (pe_op op_mod (pe_ix (ixL (K := K)) (pv 0) pe_int (fun _ _ => rfl)) (pv 1)))
  (pss_cons (ps_asg (pe_op op_fdiv (pe_ix (ixL (K := K)) (pv 0) pe_int (fun _ _ => rfl)) (pv 1)) (pg_sub (pv 0) pe_int set_list))
  (pss_one (ps_ret (pv 2))))) pss_nil)
  (pss_cons (ps_asg (pe_op op_add (pe_ix (ixL (K := K)) (pv 0) pe_int (fun _ _ => rfl)) pe_int) (pg_sub (pv 0) pe_int set_list))
  (pss_cons (ps_if (pt_cmpR op_gt (pe_ix (ixL (K := K)) (pv 0) pe_int (fun _ _ => rfl)) (pe_callB (cLen (K := K)) (by rfl) T.len PySem.boot_len (pa_cons (pe_ix (ixL (K := K)) (pv 0) pe_int (fun _ _ => rfl)) pa_nil)) (nomark _)) (pss_cons (ps_asg (pe_op op_mod (pe_op op_add (pe_op op_mul (pe_ix (ixL (K := K)) (pv 0) pe_int (fun _ _ => rfl)) pe_int) pe_int) pe_int) (pg_sub (pv 0) pe_int set_list))
  (pss_one (ps_ret (pe_op op_mod (pe_op op_fdiv (pe_ix (ixL (K := K)) (pv 0) pe_int (fun _ _ => rfl)) pe_int) (pv 1))))) pss_nil)
  (pss_cons (ps_set (i := 3) scL_taken.nd rfl (Or.inl rfl) (pe_ix (ixL (K := K)) (pe_ix (ixL (K := K)) (pv 0) pe_int (fun _ _ => rfl)) (pe_op op_sub (pe_ix (ixL (K := K)) (pv 0) pe_int (fun _ _ => rfl)) pe_int) (fun _ _ => rfl)))
  (pss_cons (ps_asg (pe_op op_mod (pe_op op_add (pe_op op_add (pe_op op_mul (pe_ix (ixL (K := K)) (pv 0) pe_int (fun _ _ => rfl)) pe_int) (pv 3)) pe_int) pe_int) (pg_sub (pv 0) pe_int set_list))
  (pss_cons (ps_if (pt_cmpR op_ge (pv 3) (pe_op op_pow pe_int pe_int) (nomark _)) (pss_one (ps_asg (pe_op op_fdiv (pv 3) (pv 1)) (pg_sub (pv 0) pe_int set_list))) pss_nil)
  (pss_one (ps_ret (pe_op op_mod (pv 3) (pv 1)))))))))), ?_⟩
  walk_at "rd"
  refine ite2 (fun c => ?_) (fun c => ?_)
  · walk_at "rd"
    intro H1 h1 k1
    walk_at "rd"
    exact q _ _ (Int.emod_nonneg _ (by omega)) (Int.emod_lt_of_pos _ m0) k1 ⟨scr, ns, i, m, _, h1, hC.ts (k1.ts (lo hR)), i0⟩
  · walk_at "rd"
    intro H1 h1 k1
    have hC1 := hC.ts (k1.ts (lo hR))
    have hS1 := hC1.sq
    walk_at "rd"
    refine ite2 (fun c2 => ?_) (fun c2 => ?_)
    · walk_at "rd"
      intro H2 h2 k2
      walk_at "rd"
      exact q _ _ (Int.emod_nonneg _ (by omega)) (Int.emod_lt_of_pos _ m0) (k1.trans k2) ⟨scr, ns, i + 1, _, d, h2, hC1.ts (k2.ts (lo h1)), by omega⟩
    · have c3 : ¬ ((ns.map V.int).length : Int) < i + 1 := of_decide_eq_false (Bool.eq_false_iff.mpr c2)
      rw [List.length_map] at c3
      have e3 : atI (ns.map V.int) (i + 1 - 1) = some (V.int (ns.getD i.toNat 0)) := by
        have e4 : i + 1 - 1 = ((i.toNat : Nat) : Int) := by omega
        rw [e4]
        refine atI_nat ?_
        rw [List.getElem?_map, List.getElem?_eq_getElem (by omega), List.getD_eq_getElem?_getD, List.getElem?_eq_getElem (by omega)]
        rfl
      walk_at "rd"
      intro H2 h2 k2
      have hC2 := hC1.ts (k2.ts (lo h1))
      have hS2 := hC2.sq
      walk_at "rd"
      refine ite2 (fun c4 => ?_) (fun c4 => ?_)
      · walk_at "rd"
        intro H3 h3 k3
        walk_at "rd"
        exact q _ _ (Int.emod_nonneg _ (by omega)) (Int.emod_lt_of_pos _ m0) (k1.trans (k2.trans k3)) ⟨scr, ns, i + 1, _, _, h3, hC2.ts (k3.ts (lo h2)), by omega⟩
      · walk_at "rd"
        exact q _ _ (Int.emod_nonneg _ (by omega)) (Int.emod_lt_of_pos _ m0) (k1.trans k2) ⟨scr, ns, i + 1, _, _, h2, hC2, by omega⟩
end
end Hw
namespace Hw
open PySem PySem.Spec PyProof.Rows L2
local macro_rules | `(tactic| walk_at "sz") => `(tactic| first | exact Nat.le_of_ble_eq_true rfl | exact small (by first | omega | (simp; done) | (simp; omega)))
local macro_rules | `(tactic| walk_at "szT") => `(tactic| first | exact Nat.lt_of_lt_of_le (Nat.lt_succ_self _) (Nat.le_of_ble_eq_true rfl) | exact smallT (by first | omega | (simp; done) | (simp; omega)))
local macro_rules | `(tactic| walk_at "cond") => `(tactic| first | decide | omega | (dsimp only; omega) | exact ⟨by omega, by omega⟩ | exact .inr ⟨by decide, by decide⟩)
local macro_rules | `(tactic| walk_at "sq") => `(tactic| first | assumption | exact SqL.of (by assumption) | exact SqT.of (by assumption))
local macro_rules | `(tactic| walk_at "ty") => `(tactic| first | (with_reducible assumption) | exact .base (.int _) | exact .base (.str _) | exact .base (.bl _) | exact .base .non | exact tyT (by walk_at "sq") | exact tyL (by walk_at "sq"))
local macro_rules | `(tactic| walk_at "rd1") => `(tactic| first
  | ((with_reducible apply r_seq))
  | ((with_reducible apply r_asg))
  | ((with_reducible apply r_name))
  | ((with_reducible apply r_op))
  | ((with_reducible apply r_var); exact rfl)
  | ((with_reducible apply r_c))
  | ((with_reducible apply r_ixT); (walk_at "sq"); first | exact rfl | assumption)
  | ((with_reducible apply r_ixL); (walk_at "sq"); first | exact rfl | assumption)
  | ((with_reducible apply r_ixA); (first | exact .inl (by walk_at "sq") | exact .inr (by walk_at "sq")); first | exact rfl | assumption)
  | ((with_reducible apply r_isi); (walk_at "ty"); (decide +kernel))
  | ((with_reducible apply r_isiT2); assumption; (walk_at "ty"); (decide +kernel); (decide +kernel))
  | ((with_reducible apply r_I0))
  | ((with_reducible apply r_I); (walk_at "cond"))
  | ((with_reducible apply r_eq); exact rfl)
  | ((with_reducible apply r_ne); exact rfl)
  | ((with_reducible apply r_test))
  | ((with_reducible apply r_bl))
  | ((with_reducible apply r_if))
  | ((with_reducible apply r_nil))
  | ((with_reducible apply r_cons))
  | ((with_reducible apply r_call))
  | ((with_reducible apply r_cb))
  | ((with_reducible apply r_tup))
  | ((with_reducible apply r_lst))
  | ((with_reducible apply new); (walk_at "sz"))
  | ((with_reducible apply r_ret))
  | ((with_reducible apply r_retN))
  | ((with_reducible apply r_next))
  | ((with_reducible apply r_drop))
  | ((with_reducible apply r_lenL); (walk_at "sq"))
  | ((with_reducible apply r_lenT); (walk_at "sq"))
  | ((with_reducible apply r_int))
  | ((with_reducible apply r_intB))
  | ((with_reducible apply r_isN))
  | ((with_reducible apply r_notN))
  | ((with_reducible apply r_B))
  | ((with_reducible apply r_not))
  | ((with_reducible apply r_notV))
  | ((with_reducible apply r_andV))
  | ((with_reducible apply r_orV))
  | ((with_reducible apply r_ifE))
  | ((with_reducible apply r_chain))
  | ((with_reducible apply ite_t); (first | (with_reducible exact nRN) | (with_reducible exact nIN) | (with_reducible exact dNN) | decide +kernel))
  | ((with_reducible apply ite_f); (first | (with_reducible exact dRN) | (with_reducible exact dIN) | (with_reducible exact nNN) | decide +kernel))
  | ((with_reducible apply r_in); (first | exact .inl (by walk_at "sq") | exact .inr (by walk_at "sq")); exact rfl; (first | exact nums_flat | exact rfl))
  | ((with_reducible apply turn))
  | ((with_reducible apply r_for))
  | ((with_reducible apply r_iRng1))
  | ((with_reducible apply r_rng); (first | decide | omega | (simp; omega)); (first | decide | omega | (simp; omega)))
  | ((with_reducible apply r_iList))
  | ((with_reducible apply r_iTup))
  | ((with_reducible apply r_overL); (walk_at "sq"))
  | ((with_reducible apply r_overT); (walk_at "sq"))
  | ((with_reducible apply r_lc))
  | ((with_reducible apply acc); assumption; (walk_at "szT"))
  | ((with_reducible apply r_sub))
  | ((with_reducible apply r_setL); assumption; exact rfl)
  | ((with_reducible apply r_gtup); (walk_at "sq"); rfl)
  | ((with_reducible apply r_gnil))
  | ((with_reducible apply r_gcons))
  | ((with_reducible apply r_par))
  | ((with_reducible apply r_par2))
  | ((with_reducible apply r_sl))
  | ((with_reducible apply r_part))
  | ((with_reducible apply r_part1))
  | ((with_reducible apply r_noPart))
  | ((with_reducible apply r_slL); (walk_at "sq"))
  | ((with_reducible apply r_slA); (walk_at "sq"))
  | ((with_reducible apply r_tupL); (walk_at "sq"))
  | ((with_reducible apply r_tupT); (walk_at "sq"))
  | ((with_reducible apply r_lstL); (walk_at "sq"))
  | ((with_reducible apply r_lstT); (walk_at "sq"))
  | ((with_reducible apply r_append))
  | ((with_reducible apply r_isL); (walk_at "sq"))
  | ((with_reducible apply r_app); assumption; (walk_at "szT"))
  | ((with_reducible apply r_dget))
  | ((with_reducible apply r_dgetS); assumption; (walk_at "dk"))
  | ((with_reducible apply r_dput))
  | ((with_reducible apply r_dputS); assumption; (walk_at "szT"))
  | ((with_reducible apply r_disp))
  | ((with_reducible apply r_pnil))
  | ((with_reducible apply r_pcons))
  | ((with_reducible apply r_fld))
  | ((with_reducible apply r_fld1); assumption; assumption; assumption; (first | exact rfl | assumption))
  | ((with_reducible apply r_sfld))
  | ((with_reducible apply r_sfld1); assumption; assumption; assumption; exact (by decide)))
local macro_rules | `(tactic| walk_at "rd") => `(tactic| repeat walk_at "rd1")
section
variable {P : Program} {w : World} {K : PySem.W.Frag} {mg : Str → Option Value} {base : Heap}
/-! ### things -/
def spThing (K : PySem.W.Frag) (n : Nat) : Sp := fun vs H Q _ => ∃ (r sz : Addr) (p o : Nat) (wi : Int), vs = [.ref r, .ref sz, .int wi] ∧ Row K H r ∧ SqT K H sz [.int (p : Int), .int (o : Int)] ∧ p ≤ 100 ∧ o ≤ 100 ∧ 0 ≤ wi ∧ wi < n ∧
  ∀ (v : V) (t : Th) (H' : Hp), Rp K H' v t.enc → t.ok p o (wi.toNat + 1) → Keep [r] H H' → Row K H' r → Q v H'
abbrev sL_thing : Stmt := top 54
abbrev nL_thing : List Str := ["_law_row", "_law_sizes", "_law_within", "_law_way"]
abbrev pL_thing : List Str := ["_law_row", "_law_sizes", "_law_within"]
theorem scL_thing : FnScope nL_thing pL_thing (defScope sL_thing) := ⟨rfl, rfl, rfl, by decide +kernel, rfl, by decide +kernel, by decide +kernel⟩
abbrev sL_place : Stmt := top 55
abbrev nL_place : List Str := ["_law_row", "_law_sizes", "_law_within", "_law_thing_here"]
abbrev pL_place : List Str := ["_law_row", "_law_sizes", "_law_within"]
theorem scL_place : FnScope nL_place pL_place (defScope sL_place) := ⟨rfl, rfl, rfl, by decide +kernel, rfl, by decide +kernel, by decide +kernel⟩
theorem okThing (D : DefAt K mg "_law_thing" sL_thing pL_thing) (T : Blt mg) (C_law_taken : Callee P w K mg base "_law_taken" 1 pL_taken (spTaken K)) : ∀ n : Nat, Callee P w K mg base "_law_thing" (n + 2) pL_thing (spThing K n)
  | 0 => D.none fun vs H Q E h => by
    obtain ⟨r, sz, p, o, wi, rfl, _, _, _, _, h1, h2, _⟩ := h
    omega
  | n + 1 => by
    have C_law_thing := okThing D T C_law_taken n
    refine D.ok scL_thing (fun vs H Q E h => ?_) (fun f cdv A outer s H vs Q E hr h => ?_)
    · obtain ⟨r, sz, p, o, wi, rfl, _⟩ := h
      rfl
    obtain ⟨r, sz, p, o, wi, rfl, hR, hsz, p1, o1, w0, w1, q⟩ := h
    have e1 : atI ([.int 5, .int 8] : List V) (if decide (0 < wi) = true then 1 else 0) = some (.int (if 0 < wi then 8 else 5)) := by
      by_cases h : 0 < wi
      · simp only [h, decide_true, if_true]; rfl
      · simp only [h, decide_false, if_false]; rfl
    refine ⟨_, (pss_cons (ps_set (i := 3) scL_thing.nd rfl (Or.inl rfl) (pcall C_law_taken (hr.mono (by omega)) rfl (pa_cons (pv 0) (pa_cons (pe_ix (ixL (K := K)) (pe_lst (pa_cons pe_int (pa_cons pe_int pa_nil))) (pe_callTy c_int (by rfl) T.int (by decide +kernel) (pa_cons (pe_cmpR op_gt (pv 2) pe_int (nomark _)) pa_nil)) (fun _ _ => rfl)) pa_nil))))
  (pss_cons (ps_if (PW.pt (pw_and (pt_cmpR op_lt (pv 3) pe_int (nomark _)) (pw_and1 (pt_cmpR op_gt (pe_ix (ixT (K := K)) (pv 1) pe_int (fun _ _ => rfl)) pe_int (nomark _))))) (pss_one (ps_ret (pe_tup (pa_cons pe_str (pa_cons (pcall C_law_taken (hr.mono (by omega)) rfl (pa_cons (pv 0) (pa_cons (pe_ix (ixT (K := K)) (pv 1) pe_int (fun _ _ => rfl)) pa_nil))) pa_nil))))) pss_nil)
  (pss_cons (ps_if (PW.pt (pw_and (pt_cmpR op_eq (pv 3) pe_int (nomark _)) (pw_and1 (pt_cmpR op_gt (pe_ix (ixT (K := K)) (pv 1) pe_int (fun _ _ => rfl)) pe_int (nomark _))))) (pss_one (ps_ret (pe_tup (pa_cons pe_str (pa_cons (pcall C_law_taken (hr.mono (by omega)) rfl (pa_cons (pv 0) (pa_cons (pe_ix (ixT (K := K)) (pv 1) pe_int (fun _ _ => rfl)) pa_nil))) pa_nil))))) pss_nil)
  (pss_cons (ps_if (pt_cmpR op_gt (pv 3) pe_int (nomark _)) (pss_one (ps_ret (pe_tup (pa_cons pe_str (pa_cons (pcall C_law_thing (hr.mono (by omega)) rfl (pa_cons (pv 0) (pa_cons (pv 1) (pa_cons (pe_op op_sub (pv 2) pe_int) pa_nil)))) (pa_cons (pcall C_law_thing (hr.mono (by omega)) rfl (pa_cons (pv 0) (pa_cons (pv 1) (pa_cons (pe_op op_sub (pv 2) pe_int) pa_nil)))) pa_nil)))))) pss_nil)
  (pss_cons (ps_if (pt_cmpR op_gt (pv 3) pe_int (nomark _)) (pss_one (ps_ret (pe_tup (pa_cons pe_str (pa_cons (pe_ifExp (pt_cmpR op_gt (pv 2) pe_int (nomark _)) (pcall C_law_thing (hr.mono (by omega)) rfl (pa_cons (pv 0) (pa_cons (pv 1) (pa_cons (pe_op op_sub (pv 2) pe_int) pa_nil)))) (pe_tup (pa_cons pe_str (pa_cons (pcall C_law_taken (hr.mono (by omega)) rfl (pa_cons (pv 0) (pa_cons pe_int pa_nil))) pa_nil)))) pa_nil))))) pss_nil)
  (pss_one (ps_ret (pe_tup (pa_cons pe_str (pa_cons (pcall C_law_taken (hr.mono (by omega)) rfl (pa_cons (pv 0) (pa_cons pe_int pa_nil))) pa_nil)))))))))), ?_⟩
    walk_at "rd"
    intro pl H1 n1 h1 k1
    walk_at "rd"
    refine ask ⟨r, _, rfl, by split <;> decide, by split <;> decide, hR.keep0 k1, fun v1 H2 v0 v1' k2 R2 => ?_⟩
    have kk2 : Keep [r] H H2 := (k1.mono (by simp)).trans k2
    have hs2 := (hR.ts kk2).sqT hsz
    walk_at "rd"
    refine r_andP (a := decide (v1 < 2)) (b := decide (0 < (p : Int))) (fun R hr => by walk_at "rd"; exact hr) (fun _ R hr => by walk_at "rd"; exact hr) ?_
    refine ite2 (fun c => ?_) (fun c => ?_)
    · -- a param
      rw [Bool.and_eq_true, decide_eq_true_eq, decide_eq_true_eq] at c
      walk_at "rd"
      refine ask ⟨r, _, rfl, c.2, by omega, R2, fun v3 H3 v30 v31 k3 R3 => ?_⟩
      obtain ⟨m, rfl⟩ : ∃ m : Nat, v3 = m := ⟨v3.toNat, by omega⟩
      walk_at "rd"
      intro pa H4 n4 h4 k4
      exact q _ (.par m) _ (.tup (SqT.of h4) (.cons (.str _) (.cons (.int _) .nil))) (Th.ok_par (by omega)) ((kk2.trans k3).trans (k4.mono (by simp))) (R3.keep0 k4)
    walk_at "rd"
    refine r_andP (a := decide (V.int v1 = V.int 2)) (b := decide (0 < (o : Int))) (fun R hr => by walk_at "rd"; exact hr) (fun _ R hr => by walk_at "rd"; exact hr) ?_
    refine ite2 (fun c2 => ?_) (fun c2 => ?_)
    · -- an own cell
      rw [Bool.and_eq_true, decide_eq_true_eq, decide_eq_true_eq] at c2
      walk_at "rd"
      refine ask ⟨r, _, rfl, c2.2, by omega, R2, fun v3 H3 v30 v31 k3 R3 => ?_⟩
      obtain ⟨m, rfl⟩ : ∃ m : Nat, v3 = m := ⟨v3.toNat, by omega⟩
      walk_at "rd"
      intro pa H4 n4 h4 k4
      exact q _ (.own m) _ (.tup (SqT.of h4) (.cons (.str _) (.cons (.int _) .nil))) (Th.ok_own (by omega)) ((kk2.trans k3).trans (k4.mono (by simp))) (R3.keep0 k4)
    walk_at "rd"
    refine ite2 (fun c3 => ?_) (fun c3 => ?_)
    · -- a sum
      have c3' := of_decide_eq_true c3
      have hw : 0 < wi := by
        by_cases h : 0 < wi
        · exact h
        · rw [if_neg h] at v1'; omega
      have eD : wi.toNat + 1 = ((wi - 1).toNat + 1) + 1 := by omega
      walk_at "rd"
      refine ask ⟨r, sz, p, o, _, rfl, R2, hs2, p1, o1, by omega, by omega, fun va ta H3 ra oa k3 R3 => ?_⟩
      have hs3 := (R2.ts k3).sqT hs2
      walk_at "rd"
      refine ask ⟨r, sz, p, o, _, rfl, R3, hs3, p1, o1, by omega, by omega, fun vb tb H4 rb ob k4 R4 => ?_⟩
      walk_at "rd"
      intro pa H5 n5 h5 k5
      have ra5 := (ra.ts (R3.ts k4)).ts (keep_ts0 k5)
      refine q _ (.sum ta tb) _ (.tup (SqT.of h5) (.cons (.str _) (.cons ra5 (.cons (rb.ts (keep_ts0 k5)) .nil)))) ?_ (((kk2.trans k3).trans k4).trans (k5.mono (by simp))) (R4.keep0 k5)
      rw [eD]
      exact ⟨oa, ob⟩
    walk_at "rd"
    refine ite2 (fun c4 => ?_) (fun c4 => ?_)
    · -- a common cell
      walk_at "rd"
      refine ite2 (fun hw => ?_) (fun hw => ?_)
      · have hw := of_decide_eq_true hw
        have eD : wi.toNat + 1 = ((wi - 1).toNat + 1) + 1 := by omega
        walk_at "rd"
        refine ask ⟨r, sz, p, o, _, rfl, R2, hs2, p1, o1, by omega, by omega, fun va ta H3 ra oa k3 R3 => ?_⟩
        walk_at "rd"
        intro pa H5 n5 h5 k5
        refine q _ (.cell ta) _ (.tup (SqT.of h5) (.cons (.str _) (.cons (ra.ts (keep_ts0 k5)) .nil))) ?_ ((kk2.trans k3).trans (k5.mono (by simp))) (R3.keep0 k5)
        rw [eD]
        exact oa
      · walk_at "rd"
        refine ask ⟨r, _, rfl, by decide, by decide, R2, fun v3 H3 v30 v31 k3 R3 => ?_⟩
        obtain ⟨m, rfl⟩ : ∃ m : Nat, v3 = m := ⟨v3.toNat, by omega⟩
        walk_at "rd"
        intro pa H4 n4 h4 k4
        walk_at "rd"
        intro pb H5 n5 h5 k5
        exact q _ (.cell (.num m)) _ (.tup (SqT.of h5) (.cons (.str _) (.cons (.tup (SqT.of (k5 _ _ h4 (by simp))) (.cons (.str _) (.cons (.int _) .nil))) .nil))) (show Th.ok p o _ (.num m) from Th.ok_num (by omega))
          (((kk2.trans k3).trans (k4.mono (by simp))).trans (k5.mono (by simp))) ((R3.keep0 k4).keep0 k5)
    · walk_at "rd"
      refine ask ⟨r, _, rfl, by decide, by decide, R2, fun v3 H3 v30 v31 k3 R3 => ?_⟩
      obtain ⟨m, rfl⟩ : ∃ m : Nat, v3 = m := ⟨v3.toNat, by omega⟩
      walk_at "rd"
      intro pa H4 n4 h4 k4
      exact q _ (.num m) _ (.tup (SqT.of h4) (.cons (.str _) (.cons (.int _) .nil))) (Th.ok_num (by omega)) ((kk2.trans k3).trans (k4.mono (by simp))) (R3.keep0 k4)
/-! ### places -/
def spPlace (K : PySem.W.Frag) : Sp := fun vs H Q _ => ∃ (r sz : Addr) (p o : Nat) (wi : Int), vs = [.ref r, .ref sz, .int wi] ∧ Row K H r ∧ SqT K H sz [.int (p : Int), .int (o : Int)] ∧ p ≤ 100 ∧ o ≤ 100 ∧ 0 ≤ wi ∧ wi < 3 ∧
  ∀ (v : V) (t : Th) (H' : Hp), Rp K H' v t.enc → t.isPlace = true → t.ok p o (wi.toNat + 2) → Keep [r] H H' → Row K H' r → Q v H'
theorem okPlace (D : DefAt K mg "_law_place" sL_place pL_place) (T : Blt mg) (C_law_thing : Callee P w K mg base "_law_thing" 5 pL_thing (spThing K 3)) : Callee P w K mg base "_law_place" 6 pL_place (spPlace K) := by
  refine D.ok scL_place (fun vs H Q E h => ?_) (fun f cdv A outer s H vs Q E hr h => ?_)
  · obtain ⟨r, sz, p, o, wi, rfl, _⟩ := h
    rfl
  obtain ⟨r, sz, p, o, wi, rfl, hR, hsz, p1, o1, w0, w1, q⟩ := h
  refine ⟨_, (pss_cons (ps_set (i := 3) scL_place.nd rfl (Or.inl rfl) (pcall C_law_thing (hr.mono (by omega)) rfl (pa_cons (pv 0) (pa_cons (pv 1) (pa_cons (pv 2) pa_nil)))))
  (pss_one (ps_ret (pe_ifExp (pt_cmpR (opIn (K := K)) (pe_ix (ixT (K := K)) (pv 3) pe_int (fun _ _ => rfl)) (pe_tup (pa_cons pe_str (pa_cons pe_str (pa_cons pe_str pa_nil)))) (by with_unfolding_all rfl)) (pv 3) (pe_tup (pa_cons pe_str (pa_cons (pv 3) pa_nil))))))), ?_⟩
  walk_at "rd"
  refine ask ⟨r, sz, p, o, _, rfl, hR, hsz, p1, o1, by omega, by omega, fun va ta H1 ra oa k1 R1 => ?_⟩
  obtain ⟨a, xs, rfl, ha⟩ := Th.head ra
  have e0 := atI_zero (x := .str ta.word) (r := xs)
  walk_at "rd"
  intro pl H2 n2 h2 k2
  have ha2 := (keep_ts0 k2).sqT ha
  have ra2 := ra.ts (keep_ts0 k2)
  have eD : wi.toNat + 2 = (wi.toNat + 1) + 1 := rfl
  have kk2 : Keep [r] H H2 := k1.trans (k2.mono (by simp))
  have R2 := R1.keep0 k2
  have fin : ∀ pa H3, H2 pa = none → H3 pa = some (.tup [.str "cell", .ref a]) → Keep [] H2 H3 → Q (.ref pa) H3 := fun pa H3 n3 h3 k3 => by
    refine q _ (.cell ta) _ (.tup (SqT.of h3) (.cons (.str _) (.cons (ra2.ts (keep_ts0 k3)) .nil))) rfl ?_ (kk2.trans (k3.mono (by simp))) (R2.keep0 k3)
    rw [eD]
    exact oa
  cases ta with
  | num n => dsimp only [Th.word]; walk_at "rd"; exact fin
  | sum x y => dsimp only [Th.word]; walk_at "rd"; exact fin
  | cell x => dsimp only [Th.word]; walk_at "rd"; exact q _ _ _ ra2 rfl (oa.mono (by omega)) kk2 R2
  | own n => dsimp only [Th.word]; walk_at "rd"; exact q _ _ _ ra2 rfl (oa.mono (by omega)) kk2 R2
  | par n => dsimp only [Th.word]; walk_at "rd"; exact q _ _ _ ra2 rfl (oa.mono (by omega)) kk2 R2
end
end Hw
namespace Hw
open PySem PySem.Spec PyProof.Rows L2
local macro_rules | `(tactic| walk_at "sz") => `(tactic| first | exact Nat.le_of_ble_eq_true rfl | exact small (by first | omega | (simp; done) | (simp; omega)))
local macro_rules | `(tactic| walk_at "szT") => `(tactic| first | exact Nat.lt_of_lt_of_le (Nat.lt_succ_self _) (Nat.le_of_ble_eq_true rfl) | exact smallT (by first | omega | (simp; done) | (simp; omega)))
local macro_rules | `(tactic| walk_at "cond") => `(tactic| first | decide | omega | (dsimp only; omega) | exact ⟨by omega, by omega⟩ | exact .inr ⟨by decide, by decide⟩)
local macro_rules | `(tactic| walk_at "sq") => `(tactic| first | assumption | exact SqL.of (by assumption) | exact SqT.of (by assumption))
local macro_rules | `(tactic| walk_at "ty") => `(tactic| first | (with_reducible assumption) | exact .base (.int _) | exact .base (.str _) | exact .base (.bl _) | exact .base .non | exact tyT (by walk_at "sq") | exact tyL (by walk_at "sq"))
local macro_rules | `(tactic| walk_at "rd1") => `(tactic| first
  | ((with_reducible apply r_seq))
  | ((with_reducible apply r_asg))
  | ((with_reducible apply r_name))
  | ((with_reducible apply r_op))
  | ((with_reducible apply r_var); exact rfl)
  | ((with_reducible apply r_c))
  | ((with_reducible apply r_ixT); (walk_at "sq"); first | exact rfl | assumption)
  | ((with_reducible apply r_ixL); (walk_at "sq"); first | exact rfl | assumption)
  | ((with_reducible apply r_ixA); (first | exact .inl (by walk_at "sq") | exact .inr (by walk_at "sq")); first | exact rfl | assumption)
  | ((with_reducible apply r_isi); (walk_at "ty"); (decide +kernel))
  | ((with_reducible apply r_isiT2); assumption; (walk_at "ty"); (decide +kernel); (decide +kernel))
  | ((with_reducible apply r_I0))
  | ((with_reducible apply r_I); (walk_at "cond"))
  | ((with_reducible apply r_eq); exact rfl)
  | ((with_reducible apply r_ne); exact rfl)
  | ((with_reducible apply r_test))
  | ((with_reducible apply r_bl))
  | ((with_reducible apply r_if))
  | ((with_reducible apply r_nil))
  | ((with_reducible apply r_cons))
  | ((with_reducible apply r_call))
  | ((with_reducible apply r_cb))
  | ((with_reducible apply r_tup))
  | ((with_reducible apply r_lst))
  | ((with_reducible apply new); (walk_at "sz"))
  | ((with_reducible apply r_ret))
  | ((with_reducible apply r_retN))
  | ((with_reducible apply r_next))
  | ((with_reducible apply r_drop))
  | ((with_reducible apply r_lenL); (walk_at "sq"))
  | ((with_reducible apply r_lenT); (walk_at "sq"))
  | ((with_reducible apply r_int))
  | ((with_reducible apply r_intB))
  | ((with_reducible apply r_isN))
  | ((with_reducible apply r_notN))
  | ((with_reducible apply r_B))
  | ((with_reducible apply r_not))
  | ((with_reducible apply r_notV))
  | ((with_reducible apply r_andV))
  | ((with_reducible apply r_orV))
  | ((with_reducible apply r_ifE))
  | ((with_reducible apply r_chain))
  | ((with_reducible apply ite_t); (first | (with_reducible exact nRN) | (with_reducible exact nIN) | (with_reducible exact dNN) | decide +kernel))
  | ((with_reducible apply ite_f); (first | (with_reducible exact dRN) | (with_reducible exact dIN) | (with_reducible exact nNN) | decide +kernel))
  | ((with_reducible apply r_in); (first | exact .inl (by walk_at "sq") | exact .inr (by walk_at "sq")); exact rfl; (first | exact nums_flat | exact rfl))
  | ((with_reducible apply turn))
  | ((with_reducible apply r_for))
  | ((with_reducible apply r_iRng1))
  | ((with_reducible apply r_rng); (first | decide | omega | (simp; omega)); (first | decide | omega | (simp; omega)))
  | ((with_reducible apply r_iList))
  | ((with_reducible apply r_iTup))
  | ((with_reducible apply r_overL); (walk_at "sq"))
  | ((with_reducible apply r_overT); (walk_at "sq"))
  | ((with_reducible apply r_lc))
  | ((with_reducible apply acc); assumption; (walk_at "szT"))
  | ((with_reducible apply r_sub))
  | ((with_reducible apply r_setL); assumption; exact rfl)
  | ((with_reducible apply r_gtup); (walk_at "sq"); rfl)
  | ((with_reducible apply r_gnil))
  | ((with_reducible apply r_gcons))
  | ((with_reducible apply r_par))
  | ((with_reducible apply r_par2))
  | ((with_reducible apply r_sl))
  | ((with_reducible apply r_part))
  | ((with_reducible apply r_part1))
  | ((with_reducible apply r_noPart))
  | ((with_reducible apply r_slL); (walk_at "sq"))
  | ((with_reducible apply r_slA); (walk_at "sq"))
  | ((with_reducible apply r_tupL); (walk_at "sq"))
  | ((with_reducible apply r_tupT); (walk_at "sq"))
  | ((with_reducible apply r_lstL); (walk_at "sq"))
  | ((with_reducible apply r_lstT); (walk_at "sq"))
  | ((with_reducible apply r_append))
  | ((with_reducible apply r_isL); (walk_at "sq"))
  | ((with_reducible apply r_app); assumption; (walk_at "szT"))
  | ((with_reducible apply r_dget))
  | ((with_reducible apply r_dgetS); assumption; (walk_at "dk"))
  | ((with_reducible apply r_dput))
  | ((with_reducible apply r_dputS); assumption; (walk_at "szT"))
  | ((with_reducible apply r_disp))
  | ((with_reducible apply r_pnil))
  | ((with_reducible apply r_pcons))
  | ((with_reducible apply r_fld))
  | ((with_reducible apply r_fld1); assumption; assumption; assumption; (first | exact rfl | assumption))
  | ((with_reducible apply r_sfld))
  | ((with_reducible apply r_sfld1); assumption; assumption; assumption; exact (by decide)))
local macro_rules | `(tactic| walk_at "rd") => `(tactic| repeat walk_at "rd1")
section
variable {P : Program} {w : World} {K : PySem.W.Frag} {mg : Str → Option Value} {base : Heap}
/-! ### steps -/
/-- params and own cells of all works, a list of tuples -/
def Shp (K : PySem.W.Frag) (H : Hp) (a : Addr) (sh : List (Nat × Nat)) : Prop := ∃ vs : List V, H a = some (.lst vs) ∧ vs.length = sh.length ∧ ∀ (i : Nat) (q : Nat × Nat), sh[i]? = some q → ∃ t : Addr, vs[i]? = some (V.ref t) ∧ SqT K H t [.int (q.1 : Int), .int (q.2 : Int)]
structure GS (K : PySem.W.Frag) (H : Hp) (r lf sa : Addr) (sh : List (Nat × Nat)) (a c : Nat) : Prop where
  row : Row K H r
  left : H lf = some (.lst [.int (a : Int), .int (c : Int)])
  shp : Shp K H sa sh
  n1 : lf ≠ r
  n2 : sa ≠ r
  n3 : sa ≠ lf
  few : sh.length ≤ 4
  small : ∀ q ∈ sh, q.1 ≤ 3 ∧ q.2 ≤ 10
theorem Shp.keep {H H1 : Hp} {a : Addr} {sh : List (Nat × Nat)} {M : List Addr} (h : Shp K H a sh) (k : Keep M H H1) (n : a ∉ M) (t : Tst H H1) : Shp K H1 a sh := by
  obtain ⟨vs, h1, h2, h3⟩ := h
  refine ⟨vs, k _ _ h1 n, h2, fun i q e => ?_⟩
  obtain ⟨u, e1, e2⟩ := h3 i q e
  exact ⟨u, e1, t.sqT e2⟩
theorem GS.lo {H : Hp} {r lf sa : Addr} {sh : List (Nat × Nat)} {a c : Nat} (g : GS K H r lf sa sh a c) : Lo H [r, lf] := fun x hx => by
  rcases List.mem_cons.mp hx with rfl | hx
  · exact g.row.lo _ (List.mem_singleton.mpr rfl)
  · cases List.mem_singleton.mp hx
    exact .inl ⟨_, g.left⟩
theorem GS.ts {H H1 : Hp} {r lf sa : Addr} {sh : List (Nat × Nat)} {a c : Nat} (g : GS K H r lf sa sh a c) (k : Keep [r, lf] H H1) : Tst H H1 := k.ts g.lo
/-- the row was drawn from -/
theorem GS.drew {H H1 : Hp} {r lf sa : Addr} {sh : List (Nat × Nat)} {a c : Nat} (g : GS K H r lf sa sh a c) (k : Keep [r] H H1) (R : Row K H1 r) : GS K H1 r lf sa sh a c :=
  ⟨R, k _ _ g.left (by simpa using g.n1), g.shp.keep k (by simpa using g.n2) (g.row.ts k), g.n1, g.n2, g.n3, g.few, g.small⟩
theorem GS.keep0 {H H1 : Hp} {r lf sa : Addr} {sh : List (Nat × Nat)} {a c : Nat} (g : GS K H r lf sa sh a c) (k : Keep [] H H1) : GS K H1 r lf sa sh a c :=
  ⟨g.row.keep0 k, k _ _ g.left (by simp), g.shp.keep k (by simp) (keep_ts0 k), g.n1, g.n2, g.n3, g.few, g.small⟩
/-- another list was changed -/
theorem GS.other {H H1 : Hp} {r lf sa l : Addr} {sh : List (Nat × Nat)} {a c : Nat} {xs : List V} (g : GS K H r lf sa sh a c) (k : Keep [l] H H1) (h : H l = some (.lst xs)) (h1 : l ≠ r) (h2 : l ≠ lf) (h3 : l ≠ sa) : GS K H1 r lf sa sh a c := by
  have t : Tst H H1 := k.ts fun x hx => by cases List.mem_singleton.mp hx; exact .inl ⟨_, h⟩
  exact ⟨g.row.keep k (by simpa using Ne.symm h1) t, k _ _ g.left (by simpa using Ne.symm h2), g.shp.keep k (by simpa using Ne.symm h3) t, g.n1, g.n2, g.n3, g.few, g.small⟩
theorem GS.ne {H : Hp} {r lf sa l : Addr} {sh : List (Nat × Nat)} {a c : Nat} (g : GS K H r lf sa sh a c) (h : H l = none) : l ≠ r ∧ l ≠ lf ∧ l ≠ sa := by
  refine ⟨fun e => ?_, fun e => ?_, fun e => ?_⟩
  · exact g.row.ne (e ▸ h)
  · have := g.left
    rw [← e, h] at this
    cases this
  · obtain ⟨vs, h1, _⟩ := g.shp
    rw [← e, h] at h1
    cases h1
/-- the left count is changed -/
theorem GS.lefts {H H1 : Hp} {r lf sa : Addr} {sh : List (Nat × Nat)} {a c a1 c1 : Nat} (g : GS K H r lf sa sh a c) (k : Keep [lf] H H1) (h : H1 lf = some (.lst [.int (a1 : Int), .int (c1 : Int)])) : GS K H1 r lf sa sh a1 c1 := by
  have t : Tst H H1 := k.ts fun x hx => by cases List.mem_singleton.mp hx; exact .inl ⟨_, g.left⟩
  exact ⟨g.row.keep k (by simpa using Ne.symm g.n1) t, h, g.shp.keep k (by simpa using g.n3) t, g.n1, g.n2, g.n3, g.few, g.small⟩
def spStep (K : PySem.W.Frag) (n : Nat) : Sp := fun vs H Q _ => ∃ (r sa lf : Addr) (sh : List (Nat × Nat)) (at_ a c : Nat) (wi : Int), vs = [.ref r, .ref sa, .int (at_ : Int), .ref lf, .int wi] ∧ GS K H r lf sa sh a c ∧ at_ < sh.length ∧ 0 ≤ wi ∧ wi < n ∧
  ∀ (v : V) (s : St) (H' : Hp) (a1 c1 : Nat), Rp K H' v s.enc → St.okD sh at_ wi.toNat s → s.many + a1 ≤ a + 1 → s.calls + c1 ≤ c → Keep [r, lf] H H' → GS K H' r lf sa sh a1 c1 → Q v H'
def spBody (K : PySem.W.Frag) (n : Nat) : Sp := fun vs H Q _ => ∃ (r sa lf : Addr) (sh : List (Nat × Nat)) (at_ a c : Nat) (wi : Int), vs = [.ref r, .ref sa, .int (at_ : Int), .ref lf, .int wi] ∧ GS K H r lf sa sh a c ∧ at_ < sh.length ∧ 0 ≤ wi ∧ wi < n ∧
  ∀ (v : V) (b : Sts) (H' : Hp) (a1 c1 : Nat), Rp K H' v (.tuple b.encs) → Sts.okD sh at_ wi.toNat b → b.many + a1 ≤ a → b.calls + c1 ≤ c → Keep [r, lf] H H' → GS K H' r lf sa sh a1 c1 → Q v H'
abbrev sL_step : Stmt := top 56
abbrev nL_step : List Str := ["_law_row", "_law_shapes", "_law_at", "_law_left", "_law_within", "_law_sizes", "_law_way", "_law_work", "_law_things", "_law_k", "_law_thing_here", "_law_first"]
abbrev pL_step : List Str := ["_law_row", "_law_shapes", "_law_at", "_law_left", "_law_within"]
theorem scL_step : FnScope nL_step pL_step (defScope sL_step) := ⟨rfl, rfl, rfl, by decide +kernel, rfl, by decide +kernel, by decide +kernel⟩
abbrev sL_body : Stmt := top 57
abbrev nL_body : List Str := ["_law_row", "_law_shapes", "_law_at", "_law_left", "_law_within", "_law_found", "_law_turn"]
abbrev pL_body : List Str := ["_law_row", "_law_shapes", "_law_at", "_law_left", "_law_within"]
theorem scL_body : FnScope nL_body pL_body (defScope sL_body) := ⟨rfl, rfl, rfl, by decide +kernel, rfl, by decide +kernel, by decide +kernel⟩
theorem okStep {n : Nat} (D : DefAt K mg "_law_step" sL_step pL_step) (T : Blt mg) (C_law_taken : Callee P w K mg base "_law_taken" 1 pL_taken (spTaken K)) (C_law_thing : Callee P w K mg base "_law_thing" 5 pL_thing (spThing K 3))
    (C_law_place : Callee P w K mg base "_law_place" 6 pL_place (spPlace K)) (C_law_body : Callee P w K mg base "_law_body" (2 * n + 8) pL_body (spBody K n)) : Callee P w K mg base "_law_step" (2 * n + 9) pL_step (spStep K (n + 1)) := by
  refine D.ok scL_step (fun vs H Q E h => ?_) (fun f cdv A outer s H vs Q E hr h => ?_)
  · obtain ⟨r, sa, lf, sh, at_, a, c, wi, rfl, _⟩ := h
    rfl
  obtain ⟨r, sa, lf, sh, at_, a, c, wi, rfl, g, hat, w0, w1, q⟩ := h
  refine ⟨_, (pss_cons (ps_set (i := 5) scL_step.nd rfl (Or.inl rfl) (pe_ix (ixL (K := K)) (pv 1) (pv 2) (fun _ _ => rfl)))
  (pss_cons (ps_set (i := 6) scL_step.nd rfl (Or.inl rfl) (pcall C_law_taken (hr.mono (by omega)) rfl (pa_cons (pv 0) (pa_cons pe_int pa_nil))))
  (pss_cons (ps_if (PW.pt (pw_and (pt_cmpR op_gt (pv 6) pe_int (nomark _)) (pw_and (pt_cmpR op_lt (pe_op op_add (pv 2) pe_int) (pe_callB (cLen (K := K)) (by rfl) T.len PySem.boot_len (pa_cons (pv 1) pa_nil)) (nomark _)) (pw_and1 (pt_cmpR op_gt (pe_ix (ixL (K := K)) (pv 3) pe_int (fun _ _ => rfl)) pe_int (nomark _)))))) (pss_cons (ps_asg (pe_op op_sub (pe_ix (ixL (K := K)) (pv 3) pe_int (fun _ _ => rfl)) pe_int) (pg_sub (pv 3) pe_int set_list))
  (pss_cons (ps_set (i := 7) scL_step.nd rfl (Or.inl rfl) (pe_op op_add (pe_op op_add (pv 2) pe_int) (pcall C_law_taken (hr.mono (by omega)) rfl (pa_cons (pv 0) (pa_cons (pe_op op_sub (pe_op op_sub (pe_callB (cLen (K := K)) (by rfl) T.len PySem.boot_len (pa_cons (pv 1) pa_nil)) (pv 2)) pe_int) pa_nil)))))
  (pss_cons (ps_set (i := 8) scL_step.nd rfl (Or.inl rfl) (pe_lst pa_nil))
  (pss_cons (ps_for PassesOwn.never rfl (pi_range1 rfl T.range (pa_cons (pe_ix (ixT (K := K)) (pe_ix (ixL (K := K)) (pv 1) (pv 7) (fun _ _ => rfl)) pe_int (fun _ _ => rfl)) pa_nil)) (pg_name (i := 9) scL_step.nd rfl (Or.inl rfl))
   (pss_cons (ps_set (i := 10) scL_step.nd rfl (Or.inl rfl) (pcall C_law_thing (hr.mono (by omega)) rfl (pa_cons (pv 0) (pa_cons (pv 5) (pa_cons pe_int pa_nil)))))
  (pss_one (ps_expr (peApp (K := K) (pv 8) (pe_ifExp (pt_cmpR op_eq (pcall C_law_taken (hr.mono (by omega)) rfl (pa_cons (pv 0) (pa_cons pe_int pa_nil))) pe_int (nomark _)) (pv 10) (pcall C_law_place (hr.mono (by omega)) rfl (pa_cons (pv 0) (pa_cons (pv 5) (pa_cons pe_int pa_nil))))))))))
  (pss_one (ps_ret (pe_tup (pa_cons pe_str (pa_cons (pv 7) (pa_cons (pe_callTy (cTuple (K := K)) (by rfl) T.tuple (by decide +kernel) (pa_cons (pv 8) pa_nil)) pa_nil)))))))))) pss_nil)
  (pss_cons (ps_if (PW.pt (pw_and (pt_cmpR op_eq (pv 6) pe_int (nomark _)) (pw_and1 (pt_cmpR op_gt (pv 4) pe_int (nomark _))))) (pss_cons (ps_set (i := 11) scL_step.nd rfl (Or.inl rfl) (pcall C_law_body (hr.mono (by omega)) rfl (pa_cons (pv 0) (pa_cons (pv 1) (pa_cons (pv 2) (pa_cons (pv 3) (pa_cons (pe_op op_sub (pv 4) pe_int) pa_nil)))))))
  (pss_one (ps_ret (pe_tup (pa_cons pe_str (pa_cons (pcall C_law_thing (hr.mono (by omega)) rfl (pa_cons (pv 0) (pa_cons (pv 5) (pa_cons pe_int pa_nil)))) (pa_cons (pv 11) (pa_cons (pcall C_law_body (hr.mono (by omega)) rfl (pa_cons (pv 0) (pa_cons (pv 1) (pa_cons (pv 2) (pa_cons (pv 3) (pa_cons (pe_op op_sub (pv 4) pe_int) pa_nil)))))) pa_nil)))))))) pss_nil)
  (pss_cons (ps_if (pt_cmpR op_eq (pv 6) pe_int (nomark _)) (pss_one (ps_ret (pe_tup (pa_cons pe_str (pa_cons (pcall C_law_thing (hr.mono (by omega)) rfl (pa_cons (pv 0) (pa_cons (pv 5) (pa_cons pe_int pa_nil)))) pa_nil))))) pss_nil)
  (pss_one (ps_ret (pe_tup (pa_cons pe_str (pa_cons (pcall C_law_place (hr.mono (by omega)) rfl (pa_cons (pv 0) (pa_cons (pv 5) (pa_cons pe_int pa_nil)))) (pa_cons (pcall C_law_thing (hr.mono (by omega)) rfl (pa_cons (pv 0) (pa_cons (pv 5) (pa_cons pe_int pa_nil)))) pa_nil))))))))))), ?_⟩
  obtain ⟨vs, hs, hl, hv⟩ := id g.shp
  obtain ⟨sz, ez, tz⟩ := hv at_ _ (List.getElem?_eq_getElem hat)
  have ez' := atI_nat ez
  have hsm := g.small _ (List.getElem_mem hat)
  have eq : sh.getD at_ (0, 0) = sh[at_] := by rw [List.getD_eq_getElem?_getD, List.getElem?_eq_getElem hat]; rfl
  walk_at "rd"
  refine ask ⟨r, _, rfl, by decide, by decide, g.row, fun v1 H1 v10 v11 k1 R1 => ?_⟩
  have g1 := g.drew k1 R1
  have tz1 := (g.row.ts k1).sqT tz
  have hs1 := k1 _ _ hs (by simpa using g.n2)
  have gl1 := g1.left
  have kk1 : Keep [r, lf] H H1 := k1.mono (by simp)
  walk_at "rd"
  refine r_andP (a := decide (6 < v1)) (b := decide ((at_ : Int) + 1 < (vs.length : Int)) && decide (0 < (c : Int))) (fun R hr => by walk_at "rd"; exact hr) (fun _ R hr => ?_) ?_
  · exact r_andP (a := decide ((at_ : Int) + 1 < (vs.length : Int))) (b := decide (0 < (c : Int))) (fun R hr => by walk_at "rd"; exact hr) (fun _ R hr => by walk_at "rd"; exact hr) hr
  refine ite2 (fun c1 => ?_) (fun c1 => ?_)
  · -- a call
    simp only [Bool.and_eq_true, decide_eq_true_eq] at c1
    obtain ⟨c1a, c1b, c1c⟩ := c1
    rw [hl] at c1b
    walk_at "rd"
    intro H2 h2 k2
    have e2 : ((c - 1 : Nat) : Int) = (c : Int) - 1 := by omega
    have g2 := g1.lefts (a1 := a) (c1 := c - 1) k2 (by rw [e2]; exact h2)
    have kk2 : Keep [r, lf] H H2 := kk1.trans (k2.mono (by simp))
    have hs2 := kk2 _ _ hs (by simp [g.n2, g.n3])
    walk_at "rd"
    refine ask ⟨r, _, rfl, by rw [hl]; omega, by rw [hl]; have := g.few; omega, g2.row, fun v3 H3 v30 v31 k3 R3 => ?_⟩
    rw [hl] at v31
    have g3 := g2.drew k3 R3
    have kk3 : Keep [r, lf] H H3 := kk2.trans (k3.mono (by simp))
    obtain ⟨m, rfl⟩ : ∃ m : Nat, v3 = m := ⟨v3.toNat, by omega⟩
    have hw : at_ + 1 + m < sh.length := by omega
    obtain ⟨tw, ew, tw'⟩ := hv (at_ + 1 + m) _ (List.getElem?_eq_getElem hw)
    have hsw := g.small _ (List.getElem_mem hw)
    have en : ((at_ + 1 + m : Nat) : Int) = (at_ : Int) + 1 + (m : Int) := by omega
    have ew' : atI vs ((at_ : Int) + 1 + (m : Int)) = some (V.ref tw) := by
      rw [← en]
      exact atI_nat ew
    walk_at "rd"
    intro l H4 n4 h4 k4
    have nl0 : H l = none := kk3.free (fun x hx => by
      rcases List.mem_cons.mp hx with rfl | hx
      · exact g3.row.ne
      · cases List.mem_singleton.mp hx
        rw [g3.left]
        exact fun z => nomatch z) n4
    obtain ⟨nl1, nl2, nl3⟩ := g.ne nl0
    have g4 := g3.keep0 k4
    have kk4 : Keep [r, lf] H H4 := kk3.by0 k4
    have hs4 := kk4 _ _ hs (by simp [g.n2, g.n3])
    have tw4 := (g.ts kk4).sqT tw'
    walk_at "rd"
    refine forR (fun i σ H' => ∃ (x y : Option V) (xs : List V) (ts : List Th), σ = [some (.ref r), some (.ref sa), some (.int at_), some (.ref lf), some (.int wi), some (.ref sz), some (.int v1), some (.int ((at_ : Int) + 1 + (m : Int))), some (.ref l), x, y, none] ∧
      GS K H' r lf sa sh a (c - 1) ∧ Keep [r, lf] H H' ∧ H' l = some (.lst xs) ∧ Rps K H' xs (ts.map Th.enc) ∧ ts.length = i ∧ ∀ t ∈ ts, Th.ok sh[at_].1 sh[at_].2 3 t) ⟨none, none, [], [], rfl, g4, kk4, h4, .nil, rfl, by simp⟩ (fun i σ H' hi hp => ?_) (fun σ H' hp => ?_)
    · obtain ⟨x, y, xs, ts, rfl, g5, kk5, h5, hx5, ei, ho5⟩ := hp
      have lx : xs.length = i := by rw [hx5.length, List.length_map, ei]
      have lb : xs.length ≤ 10 := by omega
      have tz5 := (g.ts kk5).sqT tz
      walk_at "rd"
      refine ask ⟨r, sz, sh[at_].1, sh[at_].2, 1, rfl, g5.row, tz5, by omega, by omega, by decide, by decide, fun va ta H6 ra oa k6 R6 => ?_⟩
      have h6 := k6 _ _ h5 (by simpa using nl1)
      have g6 := g5.drew k6 R6
      have kk6 : Keep [r, lf] H H6 := kk5.trans (k6.mono (by simp))
      walk_at "rd"
      refine ask ⟨r, _, rfl, by decide, by decide, R6, fun v7 H7 v70 v71 k7 R7 => ?_⟩
      have h7 := k7 _ _ h6 (by simpa using nl1)
      have g7 := g6.drew k7 R7
      have kk7 : Keep [r, lf] H H7 := kk6.trans (k7.mono (by simp))
      walk_at "rd"
      refine ite2 (fun c7 => ?_) (fun c7 => ?_)
      · walk_at "rd"
        intro H8 h8 k8
        have t8 : Tst H7 H8 := k8.ts fun x hx => by cases List.mem_singleton.mp hx; exact .inl ⟨_, h7⟩
        refine ⟨_, _, xs ++ [va], ts ++ [ta], rfl, g7.other k8 h7 nl1 nl2 nl3, kk7.fresh1 k8 nl0, h8, ?_, by rw [List.length_append, ei]; rfl, ?_⟩
        · rw [List.map_append]
          exact (((hx5.ts (g5.row.ts k6)).ts (g6.row.ts k7)).ts t8).append (.cons ((ra.ts (R6.ts k7)).ts t8) .nil)
        · intro t ht
          rcases List.mem_append.mp ht with ht | ht
          · exact ho5 t ht
          · cases List.mem_singleton.mp ht
            exact oa.mono (by decide)
      · have tz7 := (g.ts kk7).sqT tz
        walk_at "rd"
        refine ask ⟨r, sz, sh[at_].1, sh[at_].2, 1, rfl, R7, tz7, by omega, by omega, by decide, by decide, fun vb tb H8 rb pb ob k8 R8 => ?_⟩
        have h8 := k8 _ _ h7 (by simpa using nl1)
        have g8 := g7.drew k8 R8
        have kk8 : Keep [r, lf] H H8 := kk7.trans (k8.mono (by simp))
        walk_at "rd"
        intro H9 h9 k9
        have t9 : Tst H8 H9 := k9.ts fun x hx => by cases List.mem_singleton.mp hx; exact .inl ⟨_, h8⟩
        refine ⟨_, _, xs ++ [vb], ts ++ [tb], rfl, g8.other k9 h8 nl1 nl2 nl3, kk8.fresh1 k9 nl0, h9, ?_, by rw [List.length_append, ei]; rfl, ?_⟩
        · rw [List.map_append]
          exact ((((hx5.ts (g5.row.ts k6)).ts (g6.row.ts k7)).ts (g7.row.ts k8)).ts t9).append (.cons (rb.ts t9) .nil)
        · intro t ht
          rcases List.mem_append.mp ht with ht | ht
          · exact ho5 t ht
          · cases List.mem_singleton.mp ht
            exact ob.mono (by decide)
    · obtain ⟨x, y, xs, ts, rfl, g5, kk5, h5, hx5, ei, ho5⟩ := hp
      walk_at "rd"
      intro pt H6 n6 h6 k6
      walk_at "rd"
      intro pc H7 n7 h7 k7
      have r6 : Rp K H6 (.ref pt) (.tuple (ts.map Th.enc)) := .tup (SqT.of h6) (hx5.ts (keep_ts0 k6))
      refine q _ (.call (at_ + 1 + m) ts) _ a (c - 1) (.tup (SqT.of h7) (.cons (.str _) (.cons (by rw [en]; exact .int _) (.cons (r6.ts (keep_ts0 k7)) .nil)))) ⟨St.ok_call (by omega) hw (by rw [ei, getD_at hw]; exact Int.toNat_natCast _) (by rw [eq]; exact fun t ht => (ho5 t ht).mono (by omega)), by unfold St.thin; exact fun t ht => Th.ok_dep (ho5 t ht)⟩ (by unfold St.many; omega) (by unfold St.calls; omega)
        ((kk5.by0 k6).by0 k7) ((g5.keep0 k6).keep0 k7)
  walk_at "rd"
  refine r_andP (a := decide (V.int v1 = V.int 6)) (b := decide (0 < wi)) (fun R hr => by walk_at "rd"; exact hr) (fun _ R hr => by walk_at "rd"; exact hr) ?_
  refine ite2 (fun c2 => ?_) (fun c2 => ?_)
  · -- an if
    simp only [Bool.and_eq_true, decide_eq_true_eq] at c2
    obtain ⟨c2a, c2b⟩ := c2
    have eD : wi.toNat = (wi - 1).toNat + 1 := by omega
    walk_at "rd"
    refine ask ⟨r, sa, lf, sh, at_, a, c, _, rfl, g1, hat, by omega, by omega, fun vb b1 H2 a2 c2 rb ob mb cb k2 g2 => ?_⟩
    have kk2 : Keep [r, lf] H H2 := kk1.trans k2
    have tz2 := (g.ts kk2).sqT tz
    walk_at "rd"
    refine ask ⟨r, sz, sh[at_].1, sh[at_].2, 1, rfl, g2.row, tz2, by omega, by omega, by decide, by decide, fun va ta H3 ra oa k3 R3 => ?_⟩
    have g3 := g2.drew k3 R3
    walk_at "rd"
    refine ask ⟨r, sa, lf, sh, at_, a2, c2, _, rfl, g3, hat, by omega, by omega, fun vd b2 H4 a4 c4 rd od md cd k4 g4 => ?_⟩
    walk_at "rd"
    intro pc H5 n5 h5 k5
    have rb5 := ((rb.ts (g2.row.ts k3)).ts (g3.ts k4)).ts (keep_ts0 k5)
    have ra5 := (ra.ts (g3.ts k4)).ts (keep_ts0 k5)
    refine q _ (.ite ta b1 b2) _ a4 c4 (.tup (SqT.of h5) (.cons (.str _) (.cons ra5 (.cons rb5 (.cons (rd.ts (keep_ts0 k5)) .nil))))) ?_ (by unfold St.many; omega) (by unfold St.calls; omega)
      (((kk2.trans (k3.mono (by simp))).trans k4).by0 k5) (g4.keep0 k5)
    rw [eD]
    refine ⟨St.ok_ite ?_ ob.1 od.1, by unfold St.thin; exact ⟨ob.2, od.2⟩⟩
    rw [eq]
    exact oa.mono (by decide)
  walk_at "rd"
  refine ite2 (fun c3 => ?_) (fun c3 => ?_)
  · -- say
    walk_at "rd"
    refine ask ⟨r, sz, sh[at_].1, sh[at_].2, 2, rfl, R1, tz1, by omega, by omega, by decide, by decide, fun va ta H3 ra oa k3 R3 => ?_⟩
    walk_at "rd"
    intro pc H5 n5 h5 k5
    refine q _ (.say ta) _ a c (.tup (SqT.of h5) (.cons (.str _) (.cons (ra.ts (keep_ts0 k5)) .nil))) ⟨St.ok_say ?_, by unfold St.thin; trivial⟩ (by unfold St.many; omega) (by unfold St.calls; omega) ((kk1.trans (k3.mono (by simp))).by0 k5) ((g1.drew k3 R3).keep0 k5)
    rw [eq]
    exact oa.mono (by decide)
  · -- set
    walk_at "rd"
    refine ask ⟨r, sz, sh[at_].1, sh[at_].2, 1, rfl, R1, tz1, by omega, by omega, by decide, by decide, fun vb tb H2 rb pb ob k2 R2 => ?_⟩
    have tz2 := (R1.ts k2).sqT tz1
    walk_at "rd"
    refine ask ⟨r, sz, sh[at_].1, sh[at_].2, 2, rfl, R2, tz2, by omega, by omega, by decide, by decide, fun va ta H3 ra oa k3 R3 => ?_⟩
    walk_at "rd"
    intro pc H5 n5 h5 k5
    refine q _ (.set tb ta) _ a c (.tup (SqT.of h5) (.cons (.str _) (.cons ((rb.ts (R2.ts k3)).ts (keep_ts0 k5)) (.cons (ra.ts (keep_ts0 k5)) .nil)))) ⟨St.ok_set pb ?_ ?_, by unfold St.thin; trivial⟩ (by unfold St.many; omega) (by unfold St.calls; omega)
      (((kk1.trans (k2.mono (by simp))).trans (k3.mono (by simp))).by0 k5) (((g1.drew k2 R2).drew k3 R3).keep0 k5)
    · rw [eq]
      exact ob.mono (by decide)
    · rw [eq]
      exact oa.mono (by decide)
end
end Hw
namespace Hw
open PySem PySem.Spec PyProof.Rows L2
local macro_rules | `(tactic| walk_at "sz") => `(tactic| first | exact Nat.le_of_ble_eq_true rfl | exact small (by first | omega | (simp; done) | (simp; omega)))
local macro_rules | `(tactic| walk_at "szT") => `(tactic| first | exact Nat.lt_of_lt_of_le (Nat.lt_succ_self _) (Nat.le_of_ble_eq_true rfl) | exact smallT (by first | omega | (simp; done) | (simp; omega)))
local macro_rules | `(tactic| walk_at "cond") => `(tactic| first | decide | omega | (dsimp only; omega) | exact ⟨by omega, by omega⟩ | exact .inr ⟨by decide, by decide⟩)
local macro_rules | `(tactic| walk_at "sq") => `(tactic| first | assumption | exact SqL.of (by assumption) | exact SqT.of (by assumption))
local macro_rules | `(tactic| walk_at "ty") => `(tactic| first | (with_reducible assumption) | exact .base (.int _) | exact .base (.str _) | exact .base (.bl _) | exact .base .non | exact tyT (by walk_at "sq") | exact tyL (by walk_at "sq"))
local macro_rules | `(tactic| walk_at "rd1") => `(tactic| first
  | ((with_reducible apply r_seq))
  | ((with_reducible apply r_asg))
  | ((with_reducible apply r_name))
  | ((with_reducible apply r_op))
  | ((with_reducible apply r_var); exact rfl)
  | ((with_reducible apply r_c))
  | ((with_reducible apply r_ixT); (walk_at "sq"); first | exact rfl | assumption)
  | ((with_reducible apply r_ixL); (walk_at "sq"); first | exact rfl | assumption)
  | ((with_reducible apply r_ixA); (first | exact .inl (by walk_at "sq") | exact .inr (by walk_at "sq")); first | exact rfl | assumption)
  | ((with_reducible apply r_isi); (walk_at "ty"); (decide +kernel))
  | ((with_reducible apply r_isiT2); assumption; (walk_at "ty"); (decide +kernel); (decide +kernel))
  | ((with_reducible apply r_I0))
  | ((with_reducible apply r_I); (walk_at "cond"))
  | ((with_reducible apply r_eq); exact rfl)
  | ((with_reducible apply r_ne); exact rfl)
  | ((with_reducible apply r_test))
  | ((with_reducible apply r_bl))
  | ((with_reducible apply r_if))
  | ((with_reducible apply r_nil))
  | ((with_reducible apply r_cons))
  | ((with_reducible apply r_call))
  | ((with_reducible apply r_cb))
  | ((with_reducible apply r_tup))
  | ((with_reducible apply r_lst))
  | ((with_reducible apply new); (walk_at "sz"))
  | ((with_reducible apply r_ret))
  | ((with_reducible apply r_retN))
  | ((with_reducible apply r_next))
  | ((with_reducible apply r_drop))
  | ((with_reducible apply r_lenL); (walk_at "sq"))
  | ((with_reducible apply r_lenT); (walk_at "sq"))
  | ((with_reducible apply r_int))
  | ((with_reducible apply r_intB))
  | ((with_reducible apply r_isN))
  | ((with_reducible apply r_notN))
  | ((with_reducible apply r_B))
  | ((with_reducible apply r_not))
  | ((with_reducible apply r_notV))
  | ((with_reducible apply r_andV))
  | ((with_reducible apply r_orV))
  | ((with_reducible apply r_ifE))
  | ((with_reducible apply r_chain))
  | ((with_reducible apply ite_t); (first | (with_reducible exact nRN) | (with_reducible exact nIN) | (with_reducible exact dNN) | decide +kernel))
  | ((with_reducible apply ite_f); (first | (with_reducible exact dRN) | (with_reducible exact dIN) | (with_reducible exact nNN) | decide +kernel))
  | ((with_reducible apply r_in); (first | exact .inl (by walk_at "sq") | exact .inr (by walk_at "sq")); exact rfl; (first | exact nums_flat | exact rfl))
  | ((with_reducible apply turn))
  | ((with_reducible apply r_for))
  | ((with_reducible apply r_iRng1))
  | ((with_reducible apply r_rng); (first | decide | omega | (simp; omega)); (first | decide | omega | (simp; omega)))
  | ((with_reducible apply r_iList))
  | ((with_reducible apply r_iTup))
  | ((with_reducible apply r_overL); (walk_at "sq"))
  | ((with_reducible apply r_overT); (walk_at "sq"))
  | ((with_reducible apply r_lc))
  | ((with_reducible apply acc); assumption; (walk_at "szT"))
  | ((with_reducible apply r_sub))
  | ((with_reducible apply r_setL); assumption; exact rfl)
  | ((with_reducible apply r_gtup); (walk_at "sq"); rfl)
  | ((with_reducible apply r_gnil))
  | ((with_reducible apply r_gcons))
  | ((with_reducible apply r_par))
  | ((with_reducible apply r_par2))
  | ((with_reducible apply r_sl))
  | ((with_reducible apply r_part))
  | ((with_reducible apply r_part1))
  | ((with_reducible apply r_noPart))
  | ((with_reducible apply r_slL); (walk_at "sq"))
  | ((with_reducible apply r_slA); (walk_at "sq"))
  | ((with_reducible apply r_tupL); (walk_at "sq"))
  | ((with_reducible apply r_tupT); (walk_at "sq"))
  | ((with_reducible apply r_lstL); (walk_at "sq"))
  | ((with_reducible apply r_lstT); (walk_at "sq"))
  | ((with_reducible apply r_append))
  | ((with_reducible apply r_isL); (walk_at "sq"))
  | ((with_reducible apply r_app); assumption; (walk_at "szT"))
  | ((with_reducible apply r_dget))
  | ((with_reducible apply r_dgetS); assumption; (walk_at "dk"))
  | ((with_reducible apply r_dput))
  | ((with_reducible apply r_dputS); assumption; (walk_at "szT"))
  | ((with_reducible apply r_disp))
  | ((with_reducible apply r_pnil))
  | ((with_reducible apply r_pcons))
  | ((with_reducible apply r_fld))
  | ((with_reducible apply r_fld1); assumption; assumption; assumption; (first | exact rfl | assumption))
  | ((with_reducible apply r_sfld))
  | ((with_reducible apply r_sfld1); assumption; assumption; assumption; exact (by decide)))
local macro_rules | `(tactic| walk_at "rd") => `(tactic| repeat walk_at "rd1")
section
variable {P : Program} {w : World} {K : PySem.W.Frag} {mg : Str → Option Value} {base : Heap}
theorem GS.free {H H1 : Hp} {r lf sa l : Addr} {sh : List (Nat × Nat)} {a c : Nat} (g : GS K H1 r lf sa sh a c) (k : Keep [r, lf] H H1) (h : H1 l = none) : H l = none := k.free (fun x hx => by
  rcases List.mem_cons.mp hx with rfl | hx
  · exact g.row.ne
  · cases List.mem_singleton.mp hx
    rw [g.left]
    exact fun z => nomatch z) h
theorem okBody {n : Nat} (D : DefAt K mg "_law_body" sL_body pL_body) (T : Blt mg) (C_law_taken : Callee P w K mg base "_law_taken" 1 pL_taken (spTaken K)) (C_law_step : Callee P w K mg base "_law_step" (2 * n + 7) pL_step (spStep K n)) : Callee P w K mg base "_law_body" (2 * n + 8) pL_body (spBody K n) := by
  refine D.ok scL_body (fun vs H Q E h => ?_) (fun f cdv A outer s H vs Q E hr h => ?_)
  · obtain ⟨r, sa, lf, sh, at_, a, c, wi, rfl, _⟩ := h
    rfl
  obtain ⟨r, sa, lf, sh, at_, a, c, wi, rfl, g, hat, w0, w1, q⟩ := h
  refine ⟨_, (pss_cons (ps_set (i := 5) scL_body.nd rfl (Or.inl rfl) (pe_lst pa_nil))
  (pss_cons (ps_for PassesOwn.never rfl (pi_range1 rfl T.range (pa_cons (pcall C_law_taken (hr.mono (by omega)) rfl (pa_cons (pv 0) (pa_cons (pe_ix (ixL (K := K)) (pe_lst (pa_cons pe_int (pa_cons pe_int pa_nil))) (pe_callTy c_int (by rfl) T.int (by decide +kernel) (pa_cons (pe_cmpR op_gt (pe_ix (ixL (K := K)) (pv 3) pe_int (fun _ _ => rfl)) pe_int (nomark _)) pa_nil)) (fun _ _ => rfl)) pa_nil))) pa_nil)) (pg_name (i := 6) scL_body.nd rfl (Or.inl rfl))
   (pss_one (ps_if (pt_cmpR op_gt (pe_ix (ixL (K := K)) (pv 3) pe_int (fun _ _ => rfl)) pe_int (nomark _)) (pss_cons (ps_asg (pe_op op_sub (pe_ix (ixL (K := K)) (pv 3) pe_int (fun _ _ => rfl)) pe_int) (pg_sub (pv 3) pe_int set_list))
  (pss_one (ps_expr (peApp (K := K) (pv 5) (pcall C_law_step (hr.mono (by omega)) rfl (pa_cons (pv 0) (pa_cons (pv 1) (pa_cons (pv 2) (pa_cons (pv 3) (pa_cons (pv 4) pa_nil)))))))))) pss_nil)))
  (pss_one (ps_ret (pe_callTy (cTuple (K := K)) (by rfl) T.tuple (by decide +kernel) (pa_cons (pv 5) pa_nil)))))), ?_⟩
  have e1 : atI ([.int 5, .int 14] : List V) (if decide (12 < (a : Int)) = true then 1 else 0) = some (.int (if 12 < (a : Int) then 14 else 5)) := by
    by_cases h : 12 < (a : Int)
    · simp only [h, decide_true, if_true]; rfl
    · simp only [h, decide_false, if_false]; rfl
  walk_at "rd"
  intro l H1 n1 h1 k1
  have g1 := g.keep0 k1
  have gl1 := g1.left
  obtain ⟨nl1, nl2, nl3⟩ := g.ne n1
  walk_at "rd"
  intro pl H2 n2 h2 k2
  have g2 := g1.keep0 k2
  have gl2 := g2.left
  walk_at "rd"
  refine ask ⟨r, _, rfl, by split <;> decide, by split <;> decide, g2.row, fun v3 H3 v30 v31 k3 R3 => ?_⟩
  have g3 := g2.drew k3 R3
  have kk3 : Keep [r, lf] H H3 := ((Keep.refl.by0 k1).by0 k2).trans (k3.mono (by simp))
  have h3 := k3 _ _ (k2 _ _ h1 (by simp)) (by simpa using nl1)
  have v32 : v3 < 14 := by split at v31 <;> omega
  walk_at "rd"
  refine forR (fun i σ H' => ∃ (y : Option V) (xs : List V) (b : Sts) (a1 c1 : Nat), σ = [some (.ref r), some (.ref sa), some (.int at_), some (.ref lf), some (.int wi), some (.ref l), y] ∧
    GS K H' r lf sa sh a1 c1 ∧ Keep [r, lf] H H' ∧ H' l = some (.lst xs) ∧ Rps K H' xs b.encs ∧ Sts.okD sh at_ wi.toNat b ∧ b.many + a1 ≤ a ∧ b.calls + c1 ≤ c ∧ xs.length ≤ i) ⟨none, [], .nil, a, c, rfl, g3, kk3, h3, .nil, Sts.okD_nil, by unfold Sts.many; omega, by unfold Sts.calls; omega, Nat.le_refl _⟩ (fun i σ H' hi hp => ?_) (fun σ H' hp => ?_)
  · obtain ⟨y, xs, b, a1, c1, rfl, g4, kk4, h4, hx4, ob4, mb4, cb4, lx⟩ := hp
    have gl4 := g4.left
    have lb : xs.length ≤ 20 := by omega
    walk_at "rd"
    refine ite2 (fun c5 => ?_) (fun c5 => ?_)
    · have c5' := of_decide_eq_true c5
      walk_at "rd"
      intro H5 h5 k5
      have e5 : ((a1 - 1 : Nat) : Int) = (a1 : Int) - 1 := by omega
      have g5 := g4.lefts (a1 := a1 - 1) (c1 := c1) k5 (by rw [e5]; exact h5)
      have t5 : Tst H' H5 := g4.ts (k5.mono (by simp))
      have hl5 := k5 _ _ h4 (by simpa using nl2)
      have kk5 : Keep [r, lf] H H5 := kk4.trans (k5.mono (by simp))
      walk_at "rd"
      refine ask ⟨r, sa, lf, sh, at_, a1 - 1, c1, wi, rfl, g5, hat, w0, w1, fun vs6 s6 H6 a6 c6 rs6 os6 ms6 cs6 k6 g6 => ?_⟩
      have hl6 := k6 _ _ hl5 (by simp [nl1, nl2])
      have kk6 := kk5.trans k6
      walk_at "rd"
      intro H7 h7 k7
      have t7 : Tst H6 H7 := k7.ts fun x hx => by cases List.mem_singleton.mp hx; exact .inl ⟨_, hl6⟩
      refine ⟨_, xs ++ [vs6], b.app (.cons s6 .nil), a6, c6, rfl, g6.other k7 hl6 nl1 nl2 nl3, kk6.fresh1 k7 n1, h7, ?_, Sts.okD_app ob4 (Sts.okD_one os6), ?_, ?_, by rw [List.length_append, List.length_singleton]; omega⟩
      · rw [Sts.encs_app]
        exact (((hx4.ts t5).ts (g5.ts k6)).ts t7).append (.cons (rs6.ts t7) .nil)
      · rw [Sts.many_app]
        have : (Sts.cons s6 .nil).many = s6.many := by unfold Sts.many; show s6.many + 0 = _; omega
        omega
      · rw [Sts.calls_app]
        have : (Sts.cons s6 .nil).calls = s6.calls := by unfold Sts.calls; show s6.calls + 0 = _; omega
        omega
    · walk_at "rd"
      exact ⟨_, xs, b, a1, c1, rfl, g4, kk4, h4, hx4, ob4, mb4, cb4, by omega⟩
  · obtain ⟨y, xs, b, a1, c1, rfl, g4, kk4, h4, hx4, ob4, mb4, cb4, lx⟩ := hp
    walk_at "rd"
    intro pt H6 n6 h6 k6
    exact q _ b _ a1 c1 (.tup (SqT.of h6) (hx4.ts (keep_ts0 k6))) ob4 mb4 cb4 (kk4.by0 k6) (g4.keep0 k6)
theorem okSteps (DS : DefAt K mg "_law_step" sL_step pL_step) (DB : DefAt K mg "_law_body" sL_body pL_body) (T : Blt mg) (C_law_taken : Callee P w K mg base "_law_taken" 1 pL_taken (spTaken K)) (C_law_thing : Callee P w K mg base "_law_thing" 5 pL_thing (spThing K 3))
    (C_law_place : Callee P w K mg base "_law_place" 6 pL_place (spPlace K)) : ∀ n : Nat, Callee P w K mg base "_law_step" (2 * n + 7) pL_step (spStep K n) ∧ Callee P w K mg base "_law_body" (2 * n + 8) pL_body (spBody K n)
  | 0 => by
    have h0 : Callee P w K mg base "_law_step" (2 * 0 + 7) pL_step (spStep K 0) := DS.none fun vs H Q E h => by
      obtain ⟨r, sa, lf, sh, at_, a, c, wi, rfl, g, hat, w0, w1, q⟩ := h
      omega
    exact ⟨h0, okBody DB T C_law_taken h0⟩
  | n + 1 => by
    have ih := okSteps DS DB T C_law_taken C_law_thing C_law_place n
    have h1 : Callee P w K mg base "_law_step" (2 * (n + 1) + 7) pL_step (spStep K (n + 1)) := okStep DS T C_law_taken C_law_thing C_law_place ih.2
    exact ⟨h1, okBody DB T C_law_taken h1⟩
end
end Hw
namespace Hw
open PySem PySem.Spec PyProof.Rows L2
local macro_rules | `(tactic| walk_at "sz") => `(tactic| first | exact Nat.le_of_ble_eq_true rfl | exact small (by first | omega | (simp; done) | (simp; omega)))
local macro_rules | `(tactic| walk_at "szT") => `(tactic| first | exact Nat.lt_of_lt_of_le (Nat.lt_succ_self _) (Nat.le_of_ble_eq_true rfl) | exact smallT (by first | omega | (simp; done) | (simp; omega)))
local macro_rules | `(tactic| walk_at "cond") => `(tactic| first | decide | omega | (dsimp only; omega) | exact ⟨by omega, by omega⟩ | exact .inr ⟨by decide, by decide⟩)
local macro_rules | `(tactic| walk_at "sq") => `(tactic| first | assumption | exact SqL.of (by assumption) | exact SqT.of (by assumption))
local macro_rules | `(tactic| walk_at "ty") => `(tactic| first | (with_reducible assumption) | exact .base (.int _) | exact .base (.str _) | exact .base (.bl _) | exact .base .non | exact tyT (by walk_at "sq") | exact tyL (by walk_at "sq"))
local macro_rules | `(tactic| walk_at "rd1") => `(tactic| first
  | ((with_reducible apply r_seq))
  | ((with_reducible apply r_asg))
  | ((with_reducible apply r_name))
  | ((with_reducible apply r_op))
  | ((with_reducible apply r_var); exact rfl)
  | ((with_reducible apply r_c))
  | ((with_reducible apply r_ixT); (walk_at "sq"); first | exact rfl | assumption)
  | ((with_reducible apply r_ixL); (walk_at "sq"); first | exact rfl | assumption)
  | ((with_reducible apply r_ixA); (first | exact .inl (by walk_at "sq") | exact .inr (by walk_at "sq")); first | exact rfl | assumption)
  | ((with_reducible apply r_isi); (walk_at "ty"); (decide +kernel))
  | ((with_reducible apply r_isiT2); assumption; (walk_at "ty"); (decide +kernel); (decide +kernel))
  | ((with_reducible apply r_I0))
  | ((with_reducible apply r_I); (walk_at "cond"))
  | ((with_reducible apply r_eq); exact rfl)
  | ((with_reducible apply r_ne); exact rfl)
  | ((with_reducible apply r_test))
  | ((with_reducible apply r_bl))
  | ((with_reducible apply r_if))
  | ((with_reducible apply r_nil))
  | ((with_reducible apply r_cons))
  | ((with_reducible apply r_call))
  | ((with_reducible apply r_cb))
  | ((with_reducible apply r_tup))
  | ((with_reducible apply r_lst))
  | ((with_reducible apply new); (walk_at "sz"))
  | ((with_reducible apply r_ret))
  | ((with_reducible apply r_retN))
  | ((with_reducible apply r_next))
  | ((with_reducible apply r_drop))
  | ((with_reducible apply r_lenL); (walk_at "sq"))
  | ((with_reducible apply r_lenT); (walk_at "sq"))
  | ((with_reducible apply r_int))
  | ((with_reducible apply r_intB))
  | ((with_reducible apply r_isN))
  | ((with_reducible apply r_notN))
  | ((with_reducible apply r_B))
  | ((with_reducible apply r_not))
  | ((with_reducible apply r_notV))
  | ((with_reducible apply r_andV))
  | ((with_reducible apply r_orV))
  | ((with_reducible apply r_ifE))
  | ((with_reducible apply r_chain))
  | ((with_reducible apply ite_t); (first | (with_reducible exact nRN) | (with_reducible exact nIN) | (with_reducible exact dNN) | decide +kernel))
  | ((with_reducible apply ite_f); (first | (with_reducible exact dRN) | (with_reducible exact dIN) | (with_reducible exact nNN) | decide +kernel))
  | ((with_reducible apply r_in); (first | exact .inl (by walk_at "sq") | exact .inr (by walk_at "sq")); exact rfl; (first | exact nums_flat | exact rfl))
  | ((with_reducible apply turn))
  | ((with_reducible apply r_for))
  | ((with_reducible apply r_iRng1))
  | ((with_reducible apply r_rng); (first | decide | omega | (simp; omega)); (first | decide | omega | (simp; omega)))
  | ((with_reducible apply r_iList))
  | ((with_reducible apply r_iTup))
  | ((with_reducible apply r_overL); (walk_at "sq"))
  | ((with_reducible apply r_overT); (walk_at "sq"))
  | ((with_reducible apply r_lc))
  | ((with_reducible apply acc); assumption; (walk_at "szT"))
  | ((with_reducible apply r_sub))
  | ((with_reducible apply r_setL); assumption; exact rfl)
  | ((with_reducible apply r_gtup); (walk_at "sq"); rfl)
  | ((with_reducible apply r_gnil))
  | ((with_reducible apply r_gcons))
  | ((with_reducible apply r_par))
  | ((with_reducible apply r_par2))
  | ((with_reducible apply r_sl))
  | ((with_reducible apply r_part))
  | ((with_reducible apply r_part1))
  | ((with_reducible apply r_noPart))
  | ((with_reducible apply r_slL); (walk_at "sq"))
  | ((with_reducible apply r_slA); (walk_at "sq"))
  | ((with_reducible apply r_tupL); (walk_at "sq"))
  | ((with_reducible apply r_tupT); (walk_at "sq"))
  | ((with_reducible apply r_lstL); (walk_at "sq"))
  | ((with_reducible apply r_lstT); (walk_at "sq"))
  | ((with_reducible apply r_append))
  | ((with_reducible apply r_isL); (walk_at "sq"))
  | ((with_reducible apply r_app); assumption; (walk_at "szT"))
  | ((with_reducible apply r_dget))
  | ((with_reducible apply r_dgetS); assumption; (walk_at "dk"))
  | ((with_reducible apply r_dput))
  | ((with_reducible apply r_dputS); assumption; (walk_at "szT"))
  | ((with_reducible apply r_disp))
  | ((with_reducible apply r_pnil))
  | ((with_reducible apply r_pcons))
  | ((with_reducible apply r_fld))
  | ((with_reducible apply r_fld1); assumption; assumption; assumption; (first | exact rfl | assumption))
  | ((with_reducible apply r_sfld))
  | ((with_reducible apply r_sfld1); assumption; assumption; assumption; exact (by decide)))
local macro_rules | `(tactic| walk_at "rd") => `(tactic| repeat walk_at "rd1")
section
variable {P : Program} {w : World} {K : PySem.W.Frag} {mg : Str → Option Value} {base : Heap}
/-! ### programs -/
theorem Shp.snoc {H H1 : Hp} {a t : Addr} {sh : List (Nat × Nat)} {vs : List V} {p o : Nat} (hl : vs.length = sh.length) (hv : ∀ (i : Nat) (q : Nat × Nat), sh[i]? = some q → ∃ t : Addr, vs[i]? = some (V.ref t) ∧ SqT K H t [.int (q.1 : Int), .int (q.2 : Int)])
    (ts : Tst H H1) (h1 : H1 a = some (.lst (vs ++ [.ref t]))) (ht : SqT K H1 t [.int (p : Int), .int (o : Int)]) : Shp K H1 a (sh ++ [(p, o)]) := by
  refine ⟨_, h1, by rw [List.length_append, List.length_append, hl]; rfl, fun i q e => ?_⟩
  by_cases hi : i < sh.length
  · rw [List.getElem?_append_left hi] at e
    obtain ⟨u, e1, e2⟩ := hv i q e
    exact ⟨u, by rw [List.getElem?_append_left (by omega)]; exact e1, ts.sqT e2⟩
  · rw [List.getElem?_append_right (by omega)] at e
    have : i - sh.length = 0 := by
      have := (List.getElem?_eq_some_iff.mp e).1
      simp at this
      omega
    rw [this] at e
    cases e
    exact ⟨t, by rw [List.getElem?_append_right (by omega), hl, this]; rfl, ht⟩
structure Lp (K : PySem.W.Frag) (H H' : Hp) (r sa l : Addr) (sh : List (Nat × Nat)) (xs : List V) (ws : List Wk) : Prop where
  row : Row K H' r
  keep : Keep [r] H H'
  shp : Shp K H' sa sh
  lst : H' l = some (.lst xs)
  rps : Rps K H' xs (ws.map Wk.enc)
  n0 : H sa = none
  n1 : H l = none
  nr : sa ≠ r
  nl : l ≠ r
  sl : sa ≠ l
  few : sh.length ≤ 4
  small : ∀ q ∈ sh, q.1 ≤ 3 ∧ q.2 ≤ 10
theorem Lp.drew {H H1 H2 : Hp} {r sa l : Addr} {sh : List (Nat × Nat)} {xs : List V} {ws : List Wk} (g : Lp K H H1 r sa l sh xs ws) (k : Keep [r] H1 H2) (R : Row K H2 r) : Lp K H H2 r sa l sh xs ws :=
  ⟨R, g.keep.trans k, g.shp.keep k (by simpa using g.nr) (g.row.ts k), k _ _ g.lst (by simpa using g.nl), g.rps.ts (g.row.ts k), g.n0, g.n1, g.nr, g.nl, g.sl, g.few, g.small⟩
theorem Lp.keep0 {H H1 H2 : Hp} {r sa l : Addr} {sh : List (Nat × Nat)} {xs : List V} {ws : List Wk} (g : Lp K H H1 r sa l sh xs ws) (k : Keep [] H1 H2) : Lp K H H2 r sa l sh xs ws :=
  ⟨g.row.keep0 k, g.keep.by0 k, g.shp.keep k (by simp) (keep_ts0 k), k _ _ g.lst (by simp), g.rps.ts (keep_ts0 k), g.n0, g.n1, g.nr, g.nl, g.sl, g.few, g.small⟩
/-- a new list was changed -/
theorem Lp.other {H H1 H2 : Hp} {r sa l e : Addr} {sh : List (Nat × Nat)} {xs ys : List V} {ws : List Wk} (g : Lp K H H1 r sa l sh xs ws) (k : Keep [e] H1 H2) (h : H1 e = some (.lst ys)) (n : H e = none) (n1 : e ≠ r) (n2 : e ≠ sa) (n3 : e ≠ l) : Lp K H H2 r sa l sh xs ws := by
  have t : Tst H1 H2 := k.ts fun x hx => by cases List.mem_singleton.mp hx; exact .inl ⟨_, h⟩
  exact ⟨g.row.keep k (by simpa using Ne.symm n1) t, g.keep.fresh1 k n, g.shp.keep k (by simpa using Ne.symm n2) t, k _ _ g.lst (by simpa using Ne.symm n3), g.rps.ts t, g.n0, g.n1, g.nr, g.nl, g.sl, g.few, g.small⟩
theorem Lp.free {H H1 : Hp} {r sa l e : Addr} {sh : List (Nat × Nat)} {xs : List V} {ws : List Wk} (g : Lp K H H1 r sa l sh xs ws) (h : H1 e = none) : H e = none ∧ e ≠ r ∧ e ≠ sa ∧ e ≠ l := by
  refine ⟨g.keep.free (fun x hx => by cases List.mem_singleton.mp hx; exact g.row.ne) h, fun z => g.row.ne (z ▸ h), fun z => ?_, fun z => ?_⟩
  · obtain ⟨vs, h1, _⟩ := g.shp
    rw [← z, h] at h1
    cases h1
  · have := g.lst
    rw [← z, h] at this
    cases this
def spProgram (K : PySem.W.Frag) : Sp := fun vs H Q _ => ∃ (r : Addr) (most : Nat), vs = [.ref r, .int (most : Int)] ∧ 1 ≤ most ∧ most ≤ 60 ∧ Row K H r ∧
  ∀ (v : V) (P : List Wk) (H' : Hp), Rp K H' v (encP P) → Drawn P (most + 2) → Keep [r] H H' → Row K H' r → Q v H'
abbrev sL_program : Stmt := top 58
abbrev nL_program : List Str := ["_law_row", "_law_most", "_law_shapes", "_law_k", "_law_owns", "_law_found", "_law_at", "_law_body_here", "_law_things"]
abbrev pL_program : List Str := ["_law_row", "_law_most"]
theorem scL_program : FnScope nL_program pL_program (defScope sL_program) := ⟨rfl, rfl, rfl, by decide +kernel, rfl, by decide +kernel, by decide +kernel⟩
theorem okProgram (D : DefAt K mg "_law_program" sL_program pL_program) (T : Blt mg) (C_law_taken : Callee P w K mg base "_law_taken" 1 pL_taken (spTaken K))
    (C_law_place : Callee P w K mg base "_law_place" 6 pL_place (spPlace K)) (C_law_body : Callee P w K mg base "_law_body" 14 pL_body (spBody K 3)) : Callee P w K mg base "_law_program" 15 pL_program (spProgram K) := by
  refine D.ok scL_program (fun vs H Q E h => ?_) (fun f cdv A outer s H vs Q E hr h => ?_)
  · obtain ⟨r, most, rfl, _⟩ := h
    rfl
  obtain ⟨r, most, rfl, m1, m2, hR, q⟩ := h
  refine ⟨_, (pss_cons (ps_set (i := 2) scL_program.nd rfl (Or.inr rfl) (pe_lst (pa_cons (pe_tup (pa_cons pe_int (pa_cons (pcall C_law_taken (hr.mono (by omega)) rfl (pa_cons (pv 0) (pa_cons pe_int pa_nil))) pa_nil))) pa_nil)))
  (pss_cons (ps_for PassesOwn.never rfl (pi_range1 rfl T.range (pa_cons (pcall C_law_taken (hr.mono (by omega)) rfl (pa_cons (pv 0) (pa_cons pe_int pa_nil))) pa_nil)) (pg_name (i := 3) scL_program.nd rfl (Or.inl rfl))
   (pss_cons (ps_set (i := 4) scL_program.nd rfl (Or.inl rfl) (pcall C_law_taken (hr.mono (by omega)) rfl (pa_cons (pv 0) (pa_cons (pe_ix (ixL (K := K)) (pe_lst (pa_cons pe_int (pa_cons pe_int (pa_cons pe_int (pa_cons pe_int (pa_cons pe_int (pa_cons pe_int pa_nil))))))) (pcall C_law_taken (hr.mono (by omega)) rfl (pa_cons (pv 0) (pa_cons pe_int pa_nil))) (fun _ _ => rfl)) pa_nil))))
  (pss_one (ps_expr (peApp (K := K) (pv 2) (pe_tup (pa_cons (pe_ix (ixL (K := K)) (pe_lst (pa_cons pe_int (pa_cons pe_int (pa_cons pe_int (pa_cons pe_int (pa_cons pe_int pa_nil)))))) (pcall C_law_taken (hr.mono (by omega)) rfl (pa_cons (pv 0) (pa_cons pe_int pa_nil))) (fun _ _ => rfl)) (pa_cons (pv 4) pa_nil))))))))
  (pss_cons (ps_set (i := 5) scL_program.nd rfl (Or.inl rfl) (pe_lst pa_nil))
  (pss_cons (ps_for PassesOwn.never rfl (pi_range1 rfl T.range (pa_cons (pe_callB (cLen (K := K)) (by rfl) T.len PySem.boot_len (pa_cons (pv 2) pa_nil)) pa_nil)) (pg_name (i := 6) scL_program.nd rfl (Or.inr rfl))
   (pss_cons (ps_set (i := 7) scL_program.nd rfl (Or.inl rfl) (pcall C_law_body (hr.mono (by omega)) rfl (pa_cons (pv 0) (pa_cons (pv 2) (pa_cons (pv 6) (pa_cons (pe_lst (pa_cons (pv 1) (pa_cons pe_int pa_nil))) (pa_cons pe_int pa_nil)))))))
  (Evl.pss_cut (ps_if (PW.pt (pw_and (pt_cmpR op_lt (pe_op op_add (pv 6) pe_int) (pe_callB (cLen (K := K)) (by rfl) T.len PySem.boot_len (pa_cons (pv 2) pa_nil)) (nomark _)) (pw_and1 (pt_cmpR op_gt (pcall C_law_taken (hr.mono (by omega)) rfl (pa_cons (pv 0) (pa_cons pe_int pa_nil))) pe_int (nomark _))))) (pss_cons (ps_set (i := 8) scL_program.nd rfl (Or.inl rfl) (pe_callTy (cTuple (K := K)) (by rfl) T.tuple (by decide +kernel) (pa_cons (pe_lc (own := [("_law_k", 3)]) (g := gName 3) (by rfl) scL_program.nd (pi_range1 rfl T.range (pa_cons (pe_ix (ixT (K := K)) (pe_ix (ixL (K := K)) (pv 2) (pe_op op_add (pv 6) pe_int) (fun _ _ => rfl)) pe_int (fun _ _ => rfl)) pa_nil)) (blkOk_by (own := [("_law_k", 3)]) (N := nL_program) (sc := defScope sL_program) (by decide +kernel)) (fun _ _ _ _ _ => (pg_name (i := 3) scL_program.nd rfl (Or.inl rfl))) (fun _ _ _ _ _ => pts_nil) (fun _ _ _ _ _ => (pcall C_law_place (hr.mono (by omega)) rfl (pa_cons (pv 0) (pa_cons (pe_ix (ixL (K := K)) (pv 2) (pv 6) (fun _ _ => rfl)) (pa_cons pe_int pa_nil)))))) pa_nil)))
  (pss_one (ps_set (i := 7) scL_program.nd rfl (Or.inl rfl) (pe_op (opCatA (K := K)) (pe_slice (slA (K := K)) (pv 7) po_none (po_some (pe_op op_sub (pv 1) pe_int))) (pe_tup (pa_cons (pe_tup (pa_cons pe_str (pa_cons (pe_op op_add (pv 6) pe_int) (pa_cons (pv 8) pa_nil)))) pa_nil)))))) pss_nil)
  (Evl.pss_cut (ps_if (PW.pt (pw_and (pt_cmpR op_gt (pv 6) pe_int (nomark _)) (pw_and (pt_cmpR op_gt (pe_ix (ixT (K := K)) (pe_ix (ixL (K := K)) (pv 2) (pv 6) (fun _ _ => rfl)) pe_int (fun _ _ => rfl)) pe_int (nomark _)) (pw_and1 (pt_cmpR op_eq (pcall C_law_taken (hr.mono (by omega)) rfl (pa_cons (pv 0) (pa_cons pe_int pa_nil))) pe_int (nomark _)))))) (pss_one (ps_set (i := 7) scL_program.nd rfl (Or.inl rfl) (pe_op (opCatA (K := K)) (pe_slice (slA (K := K)) (pv 7) po_none (po_some (pe_op op_sub (pv 1) pe_int))) (pe_tup (pa_cons (pe_tup (pa_cons pe_str (pa_cons (pe_tup (pa_cons pe_str (pa_cons pe_int pa_nil))) (pa_cons (pe_tup (pa_cons pe_str (pa_cons (pe_tup (pa_cons pe_str (pa_cons pe_int pa_nil))) (pa_cons (pe_tup (pa_cons pe_str (pa_cons pe_int pa_nil))) pa_nil)))) pa_nil)))) pa_nil))))) pss_nil)
  (pss_one (ps_expr (peApp (K := K) (pv 5) (pe_op (opCatA (K := K)) (pe_ix (ixL (K := K)) (pv 2) (pv 6) (fun _ _ => rfl)) (pe_tup (pa_cons (pv 7) pa_nil))))))))))
  (pss_one (ps_ret (pe_callTy (cTuple (K := K)) (by rfl) T.tuple (by decide +kernel) (pa_cons (pv 5) pa_nil)))))))), ?_⟩
  walk_at "rd"
  refine ask ⟨r, _, rfl, by decide, by decide, hR, fun v1 H1 v10 v11 k1 R1 => ?_⟩
  obtain ⟨o1, rfl⟩ : ∃ m : Nat, v1 = m := ⟨v1.toNat, by omega⟩
  walk_at "rd"
  intro t1 H2 n2 h2 k2
  walk_at "rd"
  intro sa H3 n3 h3 k3
  have R3 := (R1.keep0 k2).keep0 k3
  have kk3 : Keep [r] H H3 := (k1.by0 k2).by0 k3
  have nsr : sa ≠ r := fun z => (R1.keep0 k2).ne (z ▸ n3)
  have ns0 : H sa = none := (k1.by0 k2).free (fun x hx => by cases List.mem_singleton.mp hx; exact (R1.keep0 k2).ne) n3
  have s3 : Shp K H3 sa [(0, o1)] := ⟨_, h3, rfl, fun i qq e => by
    match i, e with
    | 0, e => cases e; exact ⟨t1, rfl, SqT.of (k3 _ _ h2 (by simp))⟩⟩
  walk_at "rd"
  refine ask ⟨r, _, rfl, by decide, by decide, R3, fun v4 H4 v40 v41 k4 R4 => ?_⟩
  have s4 := s3.keep k4 (by simpa using nsr) (R3.ts k4)
  have kk4 := kk3.trans k4
  walk_at "rd"
  refine forR (fun i σ H' => ∃ (x y : Option V) (sh : List (Nat × Nat)), σ = [some (.ref r), some (.int most), some (.ref sa), x, y, none, none, none, none] ∧ Row K H' r ∧ Keep [r] H H' ∧ Shp K H' sa sh ∧ sh.length = i + 1 ∧ (∀ q ∈ sh, q.1 ≤ 3 ∧ q.2 ≤ 10) ∧ ∀ q, sh[0]? = some q → q.1 = 0)
    ⟨none, none, _, rfl, R4, kk4, s4, rfl, by simp; omega, fun q e => by cases e; rfl⟩ (fun i σ H' hi hp => ?_) (fun σ H' hp => ?_)
  · obtain ⟨x, y, sh, rfl, R5, kk5, s5, ls, ss, s0⟩ := hp
    walk_at "rd"
    intro p6 H6 n6 h6 k6
    walk_at "rd"
    refine ask ⟨r, _, rfl, by decide, by decide, R5.keep0 k6, fun v7 H7 v70 v71 k7 R7 => ?_⟩
    have h67 := k7 _ _ h6 (by simpa using fun z => R5.ne (by rw [← z]; exact n6))
    obtain ⟨z7, e7, z70⟩ := atI_ints (ns := [3, 3, 3, 3, 3, 11]) v70 (by simpa using v71)
    have z71 : 3 ≤ z7 ∧ z7 ≤ 11 := by simp at z70; omega
    walk_at "rd"
    refine ask ⟨r, _, rfl, by omega, by omega, R7, fun v8 H8 v80 v81 k8 R8 => ?_⟩
    obtain ⟨o8, rfl⟩ : ∃ m : Nat, v8 = m := ⟨v8.toNat, by omega⟩
    have kk8 : Keep [r] H H8 := ((kk5.by0 k6).trans k7).trans k8
    have s8 := ((s5.keep k6 (by simp) (keep_ts0 k6)).keep k7 (by simpa using nsr) ((R5.keep0 k6).ts k7)).keep k8 (by simpa using nsr) (R7.ts k8)
    obtain ⟨vs8, hs8, hl8, hv8⟩ := id s8
    have lb8 : vs8.length ≤ 10 := by omega
    walk_at "rd"
    intro p9 H9 n9 h9 k9
    walk_at "rd"
    refine ask ⟨r, _, rfl, by decide, by decide, R8.keep0 k9, fun v10 H10 v100 v101 k10 R10 => ?_⟩
    have h910 := k10 _ _ h9 (by simpa using fun z => R8.ne (by rw [← z]; exact n9))
    obtain ⟨z10, e10, z100⟩ := atI_ints (ns := [1, 2, 2, 3, 0]) v100 (by simpa using v101)
    have z101 : 0 ≤ z10 ∧ z10 ≤ 3 := by simp at z100; omega
    obtain ⟨p10, rfl⟩ : ∃ m : Nat, z10 = m := ⟨z10.toNat, by omega⟩
    have hs10 := k10 _ _ (k9 _ _ hs8 (by simp)) (by simpa using nsr)
    have t10 : Tst H8 H10 := (keep_ts0 k9).trans ((R8.keep0 k9).ts k10)
    walk_at "rd"
    intro t11 H11 n11 h11 k11
    have hs11 := k11 _ _ hs10 (by simp)
    have t11' := t10.trans (keep_ts0 k11)
    have R11 := R10.keep0 k11
    have kk11 : Keep [r] H H11 := ((kk8.by0 k9).trans k10).by0 k11
    walk_at "rd"
    intro H12 h12 k12
    have t12 : Tst H11 H12 := k12.ts fun x hx => by cases List.mem_singleton.mp hx; exact .inl ⟨_, hs11⟩
    refine ⟨_, _, sh ++ [(p10, o8)], rfl, R11.keep k12 (by simpa using Ne.symm nsr) t12, kk11.fresh1 k12 ns0, Shp.snoc hl8 hv8 (t11'.trans t12) h12 (t12.sqT (SqT.of h11)), by rw [List.length_append, ls]; rfl, fun qq hq => ?_, fun qq e => ?_⟩
    · rcases List.mem_append.mp hq with hq | hq
      · exact ss qq hq
      · cases List.mem_singleton.mp hq
        exact ⟨by show p10 ≤ 3; omega, by show o8 ≤ 10; omega⟩
    · rw [List.getElem?_append_left (by omega)] at e
      exact s0 qq e
  obtain ⟨x, y, sh, rfl, R5, kk5, s5, ls, ss, s0⟩ := hp
  have lf4 : sh.length ≤ 4 := by omega
  walk_at "rd"
  intro l H6 n6 h6 k6
  have s6 := s5.keep k6 (by simp) (keep_ts0 k6)
  have nlr : l ≠ r := fun z => R5.ne (z ▸ n6)
  have nl0 : H l = none := kk5.free (fun x hx => by cases List.mem_singleton.mp hx; exact R5.ne) n6
  have nsl : sa ≠ l := fun z => by
    obtain ⟨vs, h1, _⟩ := s5
    rw [z, n6] at h1
    cases h1
  have g6 : Lp K H H6 r sa l sh [] [] := ⟨R5.keep0 k6, kk5.by0 k6, s6, h6, .nil, ns0, nl0, nsr, nlr, nsl, lf4, ss⟩
  obtain ⟨vs6, hs6, hl6, hv6⟩ := id s6
  walk_at "rd"
  have fewI : (vs6.length : Int) < 10 := by omega
  refine forR (fun i σ H' => ∃ (x3 x4 x6 x7 x8 : Option V) (xs : List V) (ws : List Wk), σ = [some (.ref r), some (.int most), some (.ref sa), x3, x4, some (.ref l), x6, x7, x8] ∧ Lp K H H' r sa l sh xs ws ∧ ws.length = i ∧ shapes ws = sh.take i ∧ (∀ (j : Nat) (w : Wk), ws[j]? = some w → Sts.okD sh j 2 w.body) ∧ ∀ w ∈ ws, w.body.many ≤ most + 2 ∧ w.body.calls ≤ 4)
    ⟨_, _, _, _, _, [], [], rfl, g6, rfl, by rw [List.take_zero]; rfl, fun j w e => by simp at e, fun w hw => by cases hw⟩ (fun i σ H' hi hp => ?_) (fun σ H' hp => ?_)
  · obtain ⟨x3, x4, x6, x7, x8, xs, ws, rfl, g7, lw, sw, ow, mw⟩ := hp
    have hi' : i < sh.length := by omega
    walk_at "rd"
    intro lf H8 n8 h8 k8
    have g8 := g7.keep0 k8
    obtain ⟨f1, f2, f3, f4⟩ := g7.free n8
    walk_at "rd"
    refine ask ⟨r, sa, lf, sh, i, most, 3, 2, rfl, ⟨g8.row, h8, g8.shp, f2, nsr, Ne.symm f3, lf4, ss⟩, hi', by decide, by decide, fun vb b H9 a9 c9 rb ob mb cb k9 gs9 => ?_⟩
    have g9 : Lp K H H9 r sa l sh xs ws := by
      have t9 : Tst H8 H9 := k9.ts fun x hx => by
        rcases List.mem_cons.mp hx with rfl | hx
        · exact g8.row.lo _ (List.mem_singleton.mpr rfl)
        · cases List.mem_singleton.mp hx
          exact .inl ⟨_, h8⟩
      refine ⟨gs9.row, ?_, gs9.shp, k9 _ _ g8.lst (by simp [nlr, Ne.symm f4]), g8.rps.ts t9, ns0, nl0, nsr, nlr, nsl, lf4, ss⟩
      have k9' : Keep [lf, r] H8 H9 := k9.mono (fun x hx => by
        rcases List.mem_cons.mp hx with rfl | hx
        · simp
        · cases List.mem_singleton.mp hx
          simp)
      exact ((g8.keep.mono (M' := [lf, r]) (by simp)).trans k9').less f1
    obtain ⟨ab, xb, rfl, hab, hxb⟩ := rb.tup_inv
    have lxb : xb.length ≤ most := by
      rw [hxb.length, Sts.encs_len]
      have := Sts.len_le_many b
      omega
    obtain ⟨vs9, hs9, hl9, hv9⟩ := id g9.shp
    walk_at "rd"
    refine cut (fun σ' H' => ∃ (y3 y8 : Option V) (ac : Addr) (xc : List V) (bc : Sts), σ' = [some (.ref r), some (.int most), some (.ref sa), y3, x4, some (.ref l), some (.int i), some (.ref ac), y8] ∧ Lp K H H' r sa l sh xs ws ∧ SqT K H' ac xc ∧ Rps K H' xc bc.encs ∧ Sts.okD sh i 2 bc ∧ bc.many ≤ most + 1 ∧ bc.calls ≤ 4) ?_ ?_
    · refine r_if ?_
      refine r_andI (a := decide ((i : Int) + 1 < (vs9.length : Int))) (fun R hr => by walk_at "rd"; exact hr) (fun c10 => ?_) (fun c10 => ?_)
      · have c10' := of_decide_eq_true c10
        have hw : i + 1 < sh.length := by omega
        walk_at "rd"
        refine ask ⟨r, _, rfl, by decide, by decide, g9.row, fun v11 H11 v110 v111 k11 R11 => ?_⟩
        have g11 := g9.drew k11 R11
        have t11 := g9.row.ts k11
        walk_at "rd"
        refine ite2 (fun c12 => ?_) (fun c12 => ?_)
        · obtain ⟨tn, en, tn'⟩ := hv9 (i + 1) _ (List.getElem?_eq_getElem hw)
          obtain ⟨tc, ec, tc'⟩ := hv9 i _ (List.getElem?_eq_getElem hi')
          have en' : atI vs9 ((i : Int) + 1) = some (V.ref tn) := by
            have := atI_nat en
            rw [show ((i + 1 : Nat) : Int) = (i : Int) + 1 by omega] at this
            exact this
          have ec' := atI_nat ec
          have hs11 := k11 _ _ hs9 (by simpa using nsr)
          have tn11 := t11.sqT tn'
          have hsn := ss _ (List.getElem_mem hw)
          have hsc := ss _ (List.getElem_mem hi')
          walk_at "rd"
          refine lcR (fun E j H' => ∃ (ys : List V) (ts : List Th), Lp K H H' r sa l sh xs ws ∧ Tst H11 H' ∧ H E = none ∧ E ≠ r ∧ E ≠ sa ∧ E ≠ l ∧ H' E = some (.lst ys) ∧ H' sa = some (.lst vs9) ∧ Rps K H' ys (ts.map Th.enc) ∧ ts.length = j ∧ ∀ t ∈ ts, Th.ok sh[i].1 sh[i].2 3 t)
            (fun E H12 n12 h12 k12 => ?_) (fun E j H12 hj hp => ?_) (fun E H12 hp => ?_)
          · obtain ⟨e1, e2, e3, e4⟩ := g11.free n12
            exact ⟨[], [], g11.keep0 k12, keep_ts0 k12, e1, e2, e3, e4, h12, k12 _ _ hs11 (by simp), .nil, rfl, by simp⟩
          · obtain ⟨ys, ts, g12, t12, e1, e2, e3, e4, h12, hs12, hy12, lt, ot⟩ := hp
            have lys : ys.length ≤ 10 := by
              rw [hy12.length, List.length_map]
              omega
            have tc12 := t12.sqT (t11.sqT tc')
            walk_at "rd"
            refine ⟨rfl, ?_⟩
            walk_at "rd"
            refine ask ⟨r, tc, sh[i].1, sh[i].2, 1, rfl, g12.row, tc12, by omega, by omega, by decide, by decide, fun vp tp H13 rp pp op k13 R13 => ?_⟩
            have h13 := k13 _ _ h12 (by simpa using e2)
            have g13 := g12.drew k13 R13
            have t13 := g12.row.ts k13
            walk_at "rd"
            intro H14 h14 k14
            have t14 : Tst H13 H14 := k14.ts fun x hx => by cases List.mem_singleton.mp hx; exact .inl ⟨_, h13⟩
            refine ⟨_, ts ++ [tp], g13.other k14 h13 e1 e2 e3 e4, (t12.trans t13).trans t14, e1, e2, e3, e4, h14, k14 _ _ (k13 _ _ hs12 (by simpa using nsr)) (by simpa using Ne.symm e3), ?_, by rw [List.length_append, lt]; rfl, fun t ht => ?_⟩
            · rw [List.map_append]
              exact ((hy12.ts t13).ts t14).append (.cons (rp.ts t14) .nil)
            · rcases List.mem_append.mp ht with ht | ht
              · exact ot t ht
              · cases List.mem_singleton.mp ht
                exact op.mono (by decide)
          · obtain ⟨ys, ts, g12, t12, e1, e2, e3, e4, h12, hs12, hy12, lt, ot⟩ := hp
            walk_at "rd"
            intro pt H13 n13 h13 k13
            have t13 := (t11.trans t12).trans (keep_ts0 k13)
            have hab13 := t13.sqT hab
            walk_at "rd"
            intro pa H14 s14 k14 f14
            rw [cutV_to (by omega)] at s14
            walk_at "rd"
            intro pc H15 n15 h15 k15
            walk_at "rd"
            intro pd H16 n16 h16 k16
            have s16 := (keep_ts0 k16).sqT ((keep_ts0 k15).sqT s14)
            have lx2 : (xb.take ((most : Int) - 1).toNat).length ≤ most := by rw [List.length_take]; omega
            refine r_catA s16 (SqT.of h16) (by rw [List.length_singleton]; exact small (by omega)) fun pe H17 s17 k17 f17 => ?_
            have t17 := (((t13.trans (keep_ts0 k14)).trans (keep_ts0 k15)).trans (keep_ts0 k16)).trans (keep_ts0 k17)
            have rpt : Rp K H14 (.ref pt) (.tuple (ts.map Th.enc)) := .tup ((keep_ts0 k14).sqT (SqT.of h13)) ((hy12.ts (keep_ts0 k13)).ts (keep_ts0 k14))
            have rpc : Rp K H15 (.ref pc) (St.enc (.call (i + 1) ts)) := .tup (SqT.of h15) (.cons (.str _) (.cons (by rw [show (((i + 1 : Nat) : Int)) = (i : Int) + 1 by omega]; exact .int _) (.cons (rpt.ts (keep_ts0 k15)) .nil)))
            refine ⟨_, _, pe, _, (b.take ((most : Int) - 1).toNat).app (.cons (.call (i + 1) ts) .nil), rfl, ((((g12.keep0 k13).keep0 k14).keep0 k15).keep0 k16).keep0 k17, s17, ?_, Sts.okD_app (Sts.okD_take _ ob) ?_, ?_, ?_⟩
            · rw [Sts.encs_app, Sts.encs_take]
              exact ((hxb.ts t17).take _).append (.cons ((rpc.ts (keep_ts0 k16)).ts (keep_ts0 k17)) .nil)
            · exact Sts.okD_one ⟨St.ok_call (by omega) hw (by rw [lt, getD_at hw]; exact Int.toNat_natCast _) (by rw [getD_at hi']; exact fun t ht => (ot t ht).mono (by omega)), by unfold St.thin; exact fun t ht => Th.ok_dep (ot t ht)⟩
            · rw [Sts.many_app]
              have := Sts.many_take ((most : Int) - 1).toNat b
              have : (Sts.cons (.call (i + 1) ts) .nil).many = 1 := rfl
              omega
            · rw [Sts.calls_app]
              have := Sts.calls_take ((most : Int) - 1).toNat b
              have : (Sts.cons (.call (i + 1) ts) .nil).calls = 1 := rfl
              omega
        · walk_at "rd"
          exact ⟨_, _, ab, xb, b, rfl, g11, t11.sqT hab, hxb.ts t11, ob, by omega, by omega⟩
      · walk_at "rd"
        exact ⟨_, _, ab, xb, b, rfl, g9, hab, hxb, ob, by omega, by omega⟩
    · rintro σ' H10 ⟨y3, y8, ac, xc, bc, rfl, g10, hac, hxc, oc, mc, cc⟩
      have lxc : xc.length ≤ most + 1 := by
        rw [hxc.length, Sts.encs_len]
        have := Sts.len_le_many bc
        omega
      obtain ⟨vs10, hs10, hl10, hv10⟩ := id g10.shp
      obtain ⟨tc, ec, tc'⟩ := hv10 i _ (List.getElem?_eq_getElem hi')
      have ec' := atI_nat ec
      have hsc := ss _ (List.getElem_mem hi')
      refine cut (fun σ' H' => ∃ (ad : Addr) (xd : List V) (bd : Sts), σ' = [some (.ref r), some (.int most), some (.ref sa), y3, x4, some (.ref l), some (.int i), some (.ref ad), y8] ∧ Lp K H H' r sa l sh xs ws ∧ Tst H10 H' ∧ H' sa = some (.lst vs10) ∧ SqT K H' ad xd ∧ Rps K H' xd bd.encs ∧ Sts.okD sh i 2 bd ∧ bd.many ≤ most + 2 ∧ bd.calls ≤ 4) ?_ ?_
      · refine r_if ?_
        have no : ∀ H', Lp K H H' r sa l sh xs ws → Tst H10 H' → H' sa = some (.lst vs10) → ∃ (ad : Addr) (xd : List V) (bd : Sts), ([some (.ref r), some (.int most), some (.ref sa), y3, x4, some (.ref l), some (.int i), some (.ref ac), y8] : List (Option V)) = [some (.ref r), some (.int most), some (.ref sa), y3, x4, some (.ref l), some (.int i), some (.ref ad), y8] ∧ Lp K H H' r sa l sh xs ws ∧ Tst H10 H' ∧ H' sa = some (.lst vs10) ∧ SqT K H' ad xd ∧ Rps K H' xd bd.encs ∧ Sts.okD sh i 2 bd ∧ bd.many ≤ most + 2 ∧ bd.calls ≤ 4 :=
          fun H' g t e => ⟨ac, xc, bc, rfl, g, t, e, t.sqT hac, hxc.ts t, oc, by omega, cc⟩
        refine r_andI (a := decide (0 < (i : Int))) (fun R hr => by walk_at "rd"; exact hr) (fun c11 => ?_) (fun c11 => by walk_at "rd"; exact no _ g10 Tst.refl hs10)
        refine r_andI (a := decide (0 < (sh[i].1 : Int))) (fun R hr => by walk_at "rd"; exact hr) (fun c12 => ?_) (fun c12 => by walk_at "rd"; exact no _ g10 Tst.refl hs10)
        have c12' := of_decide_eq_true c12
        walk_at "rd"
        refine ask ⟨r, _, rfl, by decide, by decide, g10.row, fun v13 H13 v130 v131 k13 R13 => ?_⟩
        have g13 := g10.drew k13 R13
        have t13 := g10.row.ts k13
        have hs13 := k13 _ _ hs10 (by simpa using nsr)
        walk_at "rd"
        refine ite2 (fun c14 => ?_) (fun c14 => by walk_at "rd"; exact no _ g13 t13 hs13)
        have hac13 := t13.sqT hac
        walk_at "rd"
        intro pa H14 s14 k14 f14
        rw [cutV_to (by omega)] at s14
        walk_at "rd"
        intro p1 H15 n15 h15 k15
        walk_at "rd"
        intro p2 H16 n16 h16 k16
        walk_at "rd"
        intro p3 H17 n17 h17 k17
        walk_at "rd"
        intro p4 H18 n18 h18 k18
        walk_at "rd"
        intro p5 H19 n19 h19 k19
        walk_at "rd"
        intro p6 H20 n20 h20 k20
        have t15 := keep_ts0 k15
        have t16 := keep_ts0 k16
        have t17 := keep_ts0 k17
        have t18 := keep_ts0 k18
        have t19 := keep_ts0 k19
        have t20 := keep_ts0 k20
        have s20 := t20.sqT (t19.sqT (t18.sqT (t17.sqT (t16.sqT (t15.sqT s14)))))
        have lx2 : (xc.take ((most : Int) - 1).toNat).length ≤ most := by rw [List.length_take]; omega
        refine r_catA s20 (SqT.of h20) (by rw [List.length_singleton]; exact small (by omega)) fun pe H21 s21 k21 f21 => ?_
        have t21 := ((((((t13.trans (keep_ts0 k14)).trans t15).trans t16).trans t17).trans t18).trans t19).trans (t20.trans (keep_ts0 k21))
        have r1 : Rp K H15 (.ref p1) (Th.enc (.par 0)) := .tup (SqT.of h15) (.cons (.str _) (.cons (.int _) .nil))
        have r2 : Rp K H16 (.ref p2) (Th.enc (.par 0)) := .tup (SqT.of h16) (.cons (.str _) (.cons (.int _) .nil))
        have r3 : Rp K H17 (.ref p3) (Th.enc (.num 1)) := .tup (SqT.of h17) (.cons (.str _) (.cons (.int _) .nil))
        have r4 : Rp K H18 (.ref p4) (Th.enc (.sum (.par 0) (.num 1))) := .tup (SqT.of h18) (.cons (.str _) (.cons ((r2.ts t17).ts t18) (.cons (r3.ts t18) .nil)))
        have r5 : Rp K H19 (.ref p5) (St.enc (.set (.par 0) (.sum (.par 0) (.num 1)))) := .tup (SqT.of h19) (.cons (.str _) (.cons ((((r1.ts t16).ts t17).ts t18).ts t19) (.cons (r4.ts t19) .nil)))
        refine ⟨pe, _, (bc.take ((most : Int) - 1).toNat).app (.cons (.set (.par 0) (.sum (.par 0) (.num 1))) .nil), rfl, (((((((g13.keep0 k14).keep0 k15).keep0 k16).keep0 k17).keep0 k18).keep0 k19).keep0 k20).keep0 k21, t21, ?_, s21, ?_, Sts.okD_app (Sts.okD_take _ oc) ?_, ?_, ?_⟩
        · exact k21 _ _ (k20 _ _ (k19 _ _ (k18 _ _ (k17 _ _ (k16 _ _ (k15 _ _ (k14 _ _ hs13 (by simp)) (by simp)) (by simp)) (by simp)) (by simp)) (by simp)) (by simp)) (by simp)
        · rw [Sts.encs_app, Sts.encs_take]
          exact ((hxc.ts t21).take _).append (.cons ((r5.ts t20).ts (keep_ts0 k21)) .nil)
        · refine Sts.okD_one ⟨St.ok_set rfl ?_ ?_, by unfold St.thin; trivial⟩
          · rw [getD_at hi']
            exact Th.ok_par (by omega)
          · rw [getD_at hi']
            exact ⟨Th.ok_par (by omega), Th.ok_num (by decide)⟩
        · rw [Sts.many_app]
          have := Sts.many_take ((most : Int) - 1).toNat bc
          have : (Sts.cons (.set (.par 0) (.sum (.par 0) (.num 1))) .nil).many = 1 := rfl
          omega
        · rw [Sts.calls_app]
          have := Sts.calls_take ((most : Int) - 1).toNat bc
          have : (Sts.cons (.set (.par 0) (.sum (.par 0) (.num 1))) .nil).calls = 0 := rfl
          omega
      · rintro σ' H11 ⟨ad, xd, bd, rfl, g11, t11, hs11, had, hxd, od, md, cd⟩
        have gl11 := g11.lst
        have lxs : xs.length ≤ 10 := by
          rw [g11.rps.length, List.length_map]
          omega
        walk_at "rd"
        intro pt H12 n12 h12 k12
        have tc12 := (keep_ts0 k12).sqT (t11.sqT tc')
        refine r_catA tc12 (SqT.of h12) (by simp; decide) fun pw H13 s13 k13 f13 => ?_
        have g13 := (g11.keep0 k12).keep0 k13
        have gl13 := g13.lst
        walk_at "rd"
        intro H14 h14 k14
        have t14 : Tst H13 H14 := k14.ts fun x hx => by cases List.mem_singleton.mp hx; exact .inl ⟨_, gl13⟩
        have rw13 : Rp K H13 (.ref pw) (Wk.enc ⟨sh[i].1, sh[i].2, bd⟩) := .tup s13 (.cons (.int _) (.cons (.int _) (.cons (.tup ((keep_ts0 k13).sqT ((keep_ts0 k12).sqT had)) ((hxd.ts (keep_ts0 k12)).ts (keep_ts0 k13))) .nil)))
        refine ⟨_, _, _, _, _, xs ++ [.ref pw], ws ++ [⟨sh[i].1, sh[i].2, bd⟩], rfl, ⟨g13.row.keep k14 (by simpa using Ne.symm nlr) t14, g13.keep.fresh1 k14 nl0, g13.shp.keep k14 (by simpa using nsl) t14, h14, ?_, ns0, nl0, nsr, nlr, nsl, lf4, ss⟩, by rw [List.length_append, lw]; rfl, ?_, fun j w' e => ?_, fun w' hw' => ?_⟩
        · rw [List.map_append]
          exact (g13.rps.ts t14).append (.cons (rw13.ts t14) .nil)
        · unfold shapes at sw ⊢
          rw [List.map_append, sw, List.take_succ, List.getElem?_eq_getElem hi']
          rfl
        · by_cases hj : j < ws.length
          · rw [List.getElem?_append_left hj] at e
            exact ow j w' e
          · rw [List.getElem?_append_right (by omega)] at e
            have hj2 := (List.getElem?_eq_some_iff.mp e).1
            simp at hj2
            have ej : j = i := by omega
            have ez : j - ws.length = 0 := by omega
            rw [ez] at e
            cases e
            rw [ej]
            exact od
        · rcases List.mem_append.mp hw' with hw' | hw'
          · exact mw w' hw'
          · cases List.mem_singleton.mp hw'
            exact ⟨md, cd⟩
  · obtain ⟨x3, x4, x6, x7, x8, xs, ws, rfl, g7, lw, sw, ow, mw⟩ := hp
    have gl7 := g7.lst
    have lw' : ws.length = sh.length := by rw [lw, hl6]; exact Int.toNat_natCast _
    have esh : shapes ws = sh := by rw [sw, ← lw, lw', List.take_length]
    walk_at "rd"
    intro pt H8 n8 h8 k8
    have inS : ∀ w ∈ ws, (w.params, w.owns) ∈ sh := fun w hw => by
      rw [← esh]
      exact List.mem_map_of_mem hw
    refine q _ ws _ (.tup (SqT.of h8) (g7.rps.ts (keep_ts0 k8))) ⟨⟨by omega, by omega, fun w' e => ?_, fun w' hw => (ss _ (inS w' hw)).1, fun w' hw => (ss _ (inS w' hw)).2, fun j w' e => by rw [esh]; exact (ow j w' e).1, fun w' hw => (mw w' hw).1, fun w' hw => (mw w' hw).2⟩, fun w' hw => by
      obtain ⟨j, hj⟩ := List.mem_iff_getElem?.mp hw
      exact (ow j w' hj).2⟩ (g7.keep.by0 k8) (g7.row.keep0 k8)
    refine s0 (w'.params, w'.owns) ?_
    rw [← esh]
    unfold shapes
    rw [List.getElem?_map, e]
    rfl
end
end Hw
namespace Hw
open PySem PySem.Spec PyProof.Rows L2
local macro_rules | `(tactic| walk_at "sz") => `(tactic| first | exact Nat.le_of_ble_eq_true rfl | exact small (by first | omega | (simp; done) | (simp; omega)))
local macro_rules | `(tactic| walk_at "szT") => `(tactic| first | exact Nat.lt_of_lt_of_le (Nat.lt_succ_self _) (Nat.le_of_ble_eq_true rfl) | exact smallT (by first | omega | (simp; done) | (simp; omega)))
local macro_rules | `(tactic| walk_at "cond") => `(tactic| first | decide | omega | (dsimp only; omega) | exact ⟨by omega, by omega⟩ | exact .inr ⟨by decide, by decide⟩)
local macro_rules | `(tactic| walk_at "sq") => `(tactic| first | assumption | exact SqL.of (by assumption) | exact SqT.of (by assumption))
local macro_rules | `(tactic| walk_at "ty") => `(tactic| first | (with_reducible assumption) | exact .base (.int _) | exact .base (.str _) | exact .base (.bl _) | exact .base .non | exact tyT (by walk_at "sq") | exact tyL (by walk_at "sq"))
local macro_rules | `(tactic| walk_at "rd1") => `(tactic| first
  | ((with_reducible apply r_seq))
  | ((with_reducible apply r_asg))
  | ((with_reducible apply r_name))
  | ((with_reducible apply r_op))
  | ((with_reducible apply r_var); exact rfl)
  | ((with_reducible apply r_c))
  | ((with_reducible apply r_ixT); (walk_at "sq"); first | exact rfl | assumption)
  | ((with_reducible apply r_ixL); (walk_at "sq"); first | exact rfl | assumption)
  | ((with_reducible apply r_ixA); (first | exact .inl (by walk_at "sq") | exact .inr (by walk_at "sq")); first | exact rfl | assumption)
  | ((with_reducible apply r_isi); (walk_at "ty"); (decide +kernel))
  | ((with_reducible apply r_isiT2); assumption; (walk_at "ty"); (decide +kernel); (decide +kernel))
  | ((with_reducible apply r_I0))
  | ((with_reducible apply r_I); (walk_at "cond"))
  | ((with_reducible apply r_eq); exact rfl)
  | ((with_reducible apply r_ne); exact rfl)
  | ((with_reducible apply r_test))
  | ((with_reducible apply r_bl))
  | ((with_reducible apply r_if))
  | ((with_reducible apply r_nil))
  | ((with_reducible apply r_cons))
  | ((with_reducible apply r_call))
  | ((with_reducible apply r_cb))
  | ((with_reducible apply r_tup))
  | ((with_reducible apply r_lst))
  | ((with_reducible apply new); (walk_at "sz"))
  | ((with_reducible apply r_ret))
  | ((with_reducible apply r_retN))
  | ((with_reducible apply r_next))
  | ((with_reducible apply r_drop))
  | ((with_reducible apply r_lenL); (walk_at "sq"))
  | ((with_reducible apply r_lenT); (walk_at "sq"))
  | ((with_reducible apply r_int))
  | ((with_reducible apply r_intB))
  | ((with_reducible apply r_isN))
  | ((with_reducible apply r_notN))
  | ((with_reducible apply r_B))
  | ((with_reducible apply r_not))
  | ((with_reducible apply r_notV))
  | ((with_reducible apply r_andV))
  | ((with_reducible apply r_orV))
  | ((with_reducible apply r_ifE))
  | ((with_reducible apply r_chain))
  | ((with_reducible apply ite_t); (first | (with_reducible exact nRN) | (with_reducible exact nIN) | (with_reducible exact dNN) | decide +kernel))
  | ((with_reducible apply ite_f); (first | (with_reducible exact dRN) | (with_reducible exact dIN) | (with_reducible exact nNN) | decide +kernel))
  | ((with_reducible apply r_in); (first | exact .inl (by walk_at "sq") | exact .inr (by walk_at "sq")); exact rfl; (first | exact nums_flat | exact rfl))
  | ((with_reducible apply turn))
  | ((with_reducible apply r_for))
  | ((with_reducible apply r_iRng1))
  | ((with_reducible apply r_rng); (first | decide | omega | (simp; omega)); (first | decide | omega | (simp; omega)))
  | ((with_reducible apply r_iList))
  | ((with_reducible apply r_iTup))
  | ((with_reducible apply r_overL); (walk_at "sq"))
  | ((with_reducible apply r_overT); (walk_at "sq"))
  | ((with_reducible apply r_lc))
  | ((with_reducible apply acc); assumption; (walk_at "szT"))
  | ((with_reducible apply r_sub))
  | ((with_reducible apply r_setL); assumption; exact rfl)
  | ((with_reducible apply r_gtup); (walk_at "sq"); rfl)
  | ((with_reducible apply r_gnil))
  | ((with_reducible apply r_gcons))
  | ((with_reducible apply r_par))
  | ((with_reducible apply r_par2))
  | ((with_reducible apply r_sl))
  | ((with_reducible apply r_part))
  | ((with_reducible apply r_part1))
  | ((with_reducible apply r_noPart))
  | ((with_reducible apply r_slL); (walk_at "sq"))
  | ((with_reducible apply r_slA); (walk_at "sq"))
  | ((with_reducible apply r_tupL); (walk_at "sq"))
  | ((with_reducible apply r_tupT); (walk_at "sq"))
  | ((with_reducible apply r_lstL); (walk_at "sq"))
  | ((with_reducible apply r_lstT); (walk_at "sq"))
  | ((with_reducible apply r_append))
  | ((with_reducible apply r_isL); (walk_at "sq"))
  | ((with_reducible apply r_app); assumption; (walk_at "szT"))
  | ((with_reducible apply r_dget))
  | ((with_reducible apply r_dgetS); assumption; (walk_at "dk"))
  | ((with_reducible apply r_dput))
  | ((with_reducible apply r_dputS); assumption; (walk_at "szT"))
  | ((with_reducible apply r_disp))
  | ((with_reducible apply r_pnil))
  | ((with_reducible apply r_pcons))
  | ((with_reducible apply r_fld))
  | ((with_reducible apply r_fld1); assumption; assumption; assumption; (first | exact rfl | assumption))
  | ((with_reducible apply r_sfld))
  | ((with_reducible apply r_sfld1); assumption; assumption; assumption; exact (by decide)))
local macro_rules | `(tactic| walk_at "rd") => `(tactic| repeat walk_at "rd1")
section
variable {P : Program} {w : World} {K : PySem.W.Frag} {mg : Str → Option Value} {base : Heap}
/-! ### ways -/
def spWays (K : PySem.W.Frag) : Sp := fun vs H Q _ => ∃ (r so : Addr) (v : V) (P : List Wk) (opts : List Str), vs = [.ref r, v, .ref so] ∧ Row K H r ∧ Rp K H v (encP P) ∧ P.length ≤ 4 ∧ (∀ w ∈ P, w.params ≤ 3) ∧ H so = some (.lst (opts.map V.str)) ∧ 1 ≤ opts.length ∧ opts.length ≤ 100 ∧ so ≠ r ∧
  ∀ (v : V) (W : List (List Str)) (H' : Hp), Rp K H' v (encW W) → WaysOk P W opts → Keep [r] H H' → Row K H' r → Q v H'
abbrev sL_ways : Stmt := top 59
abbrev nL_ways : List Str := ["_law_row", "_law_program_here", "_law_some", "_law_found", "_law_params", "_law_owns", "_law_body_here", "_law_k"]
abbrev pL_ways : List Str := ["_law_row", "_law_program_here", "_law_some"]
theorem scL_ways : FnScope nL_ways pL_ways (defScope sL_ways) := ⟨rfl, rfl, rfl, by decide +kernel, rfl, by decide +kernel, by decide +kernel⟩
abbrev sL_cells : Stmt := top 60
abbrev nL_cells : List Str := ["_law_k"]
abbrev pL_cells : List Str := []
theorem scL_cells : FnScope nL_cells pL_cells (defScope sL_cells) := ⟨rfl, rfl, rfl, by decide +kernel, rfl, by decide +kernel, by decide +kernel⟩
theorem atI_strs {ns : List Str} {v : Int} (h0 : 0 ≤ v) (h1 : v < ns.length) : ∃ z, atI (ns.map V.str) v = some (.str z) ∧ z ∈ ns := by
  obtain ⟨m, rfl⟩ : ∃ m : Nat, v = m := ⟨v.toNat, by omega⟩
  have hm : m < ns.length := by omega
  refine ⟨ns[m], atI_nat ?_, List.getElem_mem hm⟩
  rw [List.getElem?_map, List.getElem?_eq_getElem hm]
  rfl
theorem Rps.strs {H : Hp} : ∀ ss : List Str, Rps K H (ss.map V.str) (ss.map PyData.str)
  | [] => .nil
  | s :: r => .cons (.str s) (Rps.strs r)
theorem okWays (D : DefAt K mg "_law_ways" sL_ways pL_ways) (T : Blt mg) (C_law_taken : Callee P w K mg base "_law_taken" 1 pL_taken (spTaken K)) : Callee P w K mg base "_law_ways" 2 pL_ways (spWays K) := by
  refine D.ok scL_ways (fun vs H Q E h => ?_) (fun f cdv A outer s H vs Q E hr h => ?_)
  · obtain ⟨r, so, v, P, opts, rfl, _⟩ := h
    rfl
  obtain ⟨r, so, v, P, opts, rfl, hR, hP, p4, p3, hso, o1, o2, nso, q⟩ := h
  obtain ⟨ap, xp, rfl, hap, hxp⟩ := hP.tup_inv
  have lxp : xp.length = P.length := by rw [hxp.length, List.length_map]
  refine ⟨_, (pss_cons (ps_set (i := 3) scL_ways.nd rfl (Or.inl rfl) (pe_lst pa_nil))
  (pss_cons (ps_for PassesOwn.never rfl (piTup (K := K) (pv 1)) (pgTup (K := K) (by rfl) (pgs_cons (pg_name (i := 4) scL_ways.nd rfl (Or.inl rfl)) (pgs_cons (pg_name (i := 5) scL_ways.nd rfl (Or.inl rfl)) (pgs_cons (pg_name (i := 6) scL_ways.nd rfl (Or.inl rfl)) pgs_nil))))
   (pss_one (ps_expr (peApp (K := K) (pv 3) (pe_callTy (cTuple (K := K)) (by rfl) T.tuple (by decide +kernel) (pa_cons (pe_lc (own := [("_law_k", 7)]) (g := gName 7) (by rfl) scL_ways.nd (pi_range1 rfl T.range (pa_cons (pv 4) pa_nil)) (blkOk_by (own := [("_law_k", 7)]) (N := nL_ways) (sc := defScope sL_ways) (by decide +kernel)) (fun _ _ _ _ _ => (pg_name (i := 7) scL_ways.nd rfl (Or.inl rfl))) (fun _ _ _ _ _ => pts_nil) (fun _ _ _ _ _ => (pe_ix (ixL (K := K)) (pv 2) (pcall C_law_taken (hr.mono (by omega)) rfl (pa_cons (pv 0) (pa_cons (pe_callB (cLen (K := K)) (by rfl) T.len PySem.boot_len (pa_cons (pv 2) pa_nil)) pa_nil))) (fun _ _ => rfl)))) pa_nil))))))
  (pss_one (ps_ret (pe_callTy (cTuple (K := K)) (by rfl) T.tuple (by decide +kernel) (pa_cons (pv 3) pa_nil)))))), ?_⟩
  walk_at "rd"
  intro l H1 n1 h1 k1
  have nlr : l ≠ r := fun z => hR.ne (z ▸ n1)
  have nls : l ≠ so := fun z => by rw [z, hso] at n1; cases n1
  have hap1 := (keep_ts0 k1).sqT hap
  walk_at "rd"
  refine forT (xs := xp) (fun i σ H' => ∃ (x4 x5 x6 x7 : Option V) (xs : List V) (W : List (List Str)), σ = [some (.ref r), some (.ref ap), some (.ref so), some (.ref l), x4, x5, x6, x7] ∧ Row K H' r ∧ Keep [r] H H' ∧ Tst H H' ∧ H' l = some (.lst xs) ∧ H' so = some (.lst (opts.map V.str)) ∧ Rps K H' xs (W.map fun ws => .tuple (ws.map PyData.str)) ∧ W.length = i ∧
    ∀ (i : Nat) (w : Wk) (ws : List Str), P[i]? = some w → W[i]? = some ws → ws.length = w.params ∧ ∀ x ∈ ws, x ∈ opts)
    ⟨none, none, none, none, [], [], rfl, hR.keep0 k1, k1.mono (by simp), keep_ts0 k1, h1, k1 _ _ hso (by simp), .nil, rfl, fun i w ws _ e => by simp at e⟩ (fun i σ H' _ hp => ?_) (fun i x σ H' hx hp => ?_) (fun σ H' hp => ?_)
  · obtain ⟨x4, x5, x6, x7, xs, W, rfl, R2, k2, t2, h2, s2, w2, lw, ow⟩ := hp
    exact t2.sqT hap
  · obtain ⟨x4, x5, x6, x7, xs, W, rfl, R2, k2, t2, h2, s2, w2, lw, ow⟩ := hp
    have hi : i < P.length := by have := (List.getElem?_eq_some_iff.mp hx).1; omega
    obtain ⟨d, ed, rd⟩ := hxp.get' hx
    rw [List.getElem?_map, List.getElem?_eq_getElem hi] at ed
    cases ed
    obtain ⟨aw, xw, rfl, haw, hxw⟩ := rd.tup_inv
    obtain ⟨v1, r1, rfl, g1, gr1⟩ := hxw.inv
    obtain ⟨v2, r2, rfl, g2, gr2⟩ := gr1.inv
    obtain ⟨v3, r3, rfl, g3, gr3⟩ := gr2.inv
    cases gr3.inv0
    cases g1.int_inv
    cases g2.int_inv
    have haw2 := t2.sqT haw
    have lxs : xs.length ≤ 10 := by rw [w2.length, List.length_map]; omega
    have p3i := p3 _ (List.getElem_mem hi)
    walk_at "rd"
    refine lcR (fun E j H3 => ∃ ys : List Str, Row K H3 r ∧ Keep [r] H H3 ∧ Tst H' H3 ∧ H E = none ∧ E ≠ r ∧ E ≠ so ∧ E ≠ l ∧ H3 E = some (.lst (ys.map V.str)) ∧ H3 l = some (.lst xs) ∧ H3 so = some (.lst (opts.map V.str)) ∧ ys.length = j ∧ ∀ x ∈ ys, x ∈ opts)
      (fun E H3 n3 h3 k3 => ?_) (fun E j H3 hj hp => ?_) (fun E H3 hp => ?_)
    · exact ⟨[], R2.keep0 k3, k2.by0 k3, keep_ts0 k3, k2.free (fun x hx => by cases List.mem_singleton.mp hx; exact R2.ne) n3, fun z => R2.ne (z ▸ n3), (fun z => by rw [z, s2] at n3; cases n3), (fun z => by rw [z, h2] at n3; cases n3), h3, k3 _ _ h2 (by simp), k3 _ _ s2 (by simp), rfl, by simp⟩
    · obtain ⟨ys, R3, k3, t3, e1, e2, e3, e4, h3, l3, s3, ly, oy⟩ := hp
      have ly' : (ys.map V.str).length ≤ 10 := by rw [List.length_map]; omega
      walk_at "rd"
      refine ⟨rfl, ?_⟩
      walk_at "rd"
      refine ask ⟨r, _, rfl, by rw [List.length_map]; omega, by rw [List.length_map]; omega, R3, fun v4 H4 v40 v41 k4 R4 => ?_⟩
      rw [List.length_map] at v41
      obtain ⟨z, ez, oz⟩ := atI_strs v40 v41
      have h4 := k4 _ _ h3 (by simpa using e2)
      have l4 := k4 _ _ l3 (by simpa using nlr)
      have s4 := k4 _ _ s3 (by simpa using nso)
      walk_at "rd"
      intro H5 h5 k5
      have t5 : Tst H4 H5 := k5.ts fun x hx => by cases List.mem_singleton.mp hx; exact .inl ⟨_, h4⟩
      refine ⟨ys ++ [z], R4.keep k5 (by simpa using Ne.symm e2) t5, (k3.trans k4).fresh1 k5 e1, (t3.trans (R3.ts k4)).trans t5, e1, e2, e3, e4, by rw [List.map_append]; exact h5, k5 _ _ l4 (by simpa using Ne.symm e4), k5 _ _ s4 (by simpa using Ne.symm e3), by rw [List.length_append, ly]; rfl, fun x hx => ?_⟩
      rcases List.mem_append.mp hx with hx | hx
      · exact oy x hx
      · cases List.mem_singleton.mp hx
        exact oz
    · obtain ⟨ys, R3, k3, t3, e1, e2, e3, e4, h3, l3, s3, ly, oy⟩ := hp
      walk_at "rd"
      intro pt H4 n4 h4 k4
      have l4 := k4 _ _ l3 (by simp)
      walk_at "rd"
      intro H5 h5 k5
      have t5 : Tst H4 H5 := k5.ts fun x hx => by cases List.mem_singleton.mp hx; exact .inl ⟨_, l4⟩
      have t35 := (keep_ts0 k4).trans t5
      have nl0 : H l = none := n1
      refine ⟨_, _, _, _, xs ++ [.ref pt], W ++ [ys], rfl, (R3.keep0 k4).keep k5 (by simpa using Ne.symm nlr) t5, (k3.by0 k4).fresh1 k5 nl0, (t2.trans t3).trans t35, h5, k5 _ _ (k4 _ _ s3 (by simp)) (by simpa using Ne.symm nls), ?_, by rw [List.length_append, lw]; rfl, fun j w ws e1 e2 => ?_⟩
      · rw [List.map_append]
        exact (w2.ts (t3.trans t35)).append (.cons (.tup (t5.sqT (SqT.of h4)) (Rps.strs ys)) .nil)
      · by_cases hj : j < W.length
        · rw [List.getElem?_append_left hj] at e2
          exact ow j w ws e1 e2
        · rw [List.getElem?_append_right (by omega)] at e2
          have hj2 := (List.getElem?_eq_some_iff.mp e2).1
          simp at hj2
          have ej : j = i := by omega
          have ez : j - W.length = 0 := by omega
          rw [ez] at e2
          cases e2
          rw [ej, List.getElem?_eq_getElem hi] at e1
          cases e1
          exact ⟨by rw [ly]; exact Int.toNat_natCast _, oy⟩
  · obtain ⟨x4, x5, x6, x7, xs, W, rfl, R2, k2, t2, h2, s2, w2, lw, ow⟩ := hp
    walk_at "rd"
    intro pt H4 n4 h4 k4
    exact q _ W _ (.tup (SqT.of h4) (w2.ts (keep_ts0 k4))) ⟨by omega, ow⟩ (k2.by0 k4) (R2.keep0 k4)
/-! ### all tuples of three numbers -/
def cellsOf (k : Nat) : List V := [.int ((k : Int) / 9), .int ((k : Int) / 3 % 3), .int ((k : Int) % 3)]
def Cells (K : PySem.W.Frag) (H : Hp) (p : Addr) : Prop := ∃ xs : List V, H p = some (.lst xs) ∧ xs.length = 27 ∧ ∀ (i : Nat) (v : V), xs[i]? = some v → ∃ t : Addr, v = .ref t ∧ SqT K H t (cellsOf i)
def spCells (K : PySem.W.Frag) : Sp := fun vs H Q _ => vs = [] ∧ ∀ (p : Addr) (H' : Hp), H p = none → Keep [] H H' → Cells K H' p → Q (.ref p) H'
theorem okCells (D : DefAt K mg "_law_cells" sL_cells pL_cells) (T : Blt mg) : Callee P w K mg base "_law_cells" 1 pL_cells (spCells K) := by
  refine D.ok scL_cells (fun vs H Q E h => ?_) (fun f cdv A outer s H vs Q E hr h => ?_)
  · obtain ⟨rfl, _⟩ := h
    rfl
  obtain ⟨rfl, q⟩ := h
  refine ⟨_, (pss_one (ps_ret (pe_lc (own := [("_law_k", 0)]) (g := gName 0) (by rfl) scL_cells.nd (pi_range1 rfl T.range (pa_cons pe_int pa_nil)) (blkOk_by (own := [("_law_k", 0)]) (N := nL_cells) (sc := defScope sL_cells) (by decide +kernel)) (fun _ _ _ _ _ => (pg_name (i := 0) scL_cells.nd rfl (Or.inl rfl))) (fun _ _ _ _ _ => pts_nil) (fun _ _ _ _ _ => (pe_tup (pa_cons (pe_op op_fdiv (pv 0) pe_int) (pa_cons (pe_op op_mod (pe_op op_fdiv (pv 0) pe_int) pe_int) (pa_cons (pe_op op_mod (pv 0) pe_int) pa_nil)))))))), ?_⟩
  walk_at "rd"
  refine lcR (fun E j H3 => H E = none ∧ Keep [] H H3 ∧ ∃ xs : List V, H3 E = some (.lst xs) ∧ xs.length = j ∧ ∀ (i : Nat) (v : V), xs[i]? = some v → ∃ t : Addr, v = .ref t ∧ SqT K H3 t (cellsOf i))
      (fun E H3 n3 h3 k3 => ?_) (fun E j H3 hj hp => ?_) (fun E H3 hp => ?_)
  · exact ⟨n3, k3, [], h3, rfl, fun i v e => by simp at e⟩
  · obtain ⟨n3, k3, xs, h3, lx, hx⟩ := hp
    have lb : xs.length ≤ 30 := by rw [lx]; exact Nat.le_trans (Nat.le_of_lt hj) (by decide)
    walk_at "rd"
    refine ⟨rfl, ?_⟩
    walk_at "rd"
    intro pt H4 n4 h4 k4
    have h34 := k4 _ _ h3 (by simp)
    walk_at "rd"
    intro H5 h5 k5
    have t5 : Tst H4 H5 := k5.ts fun x hx => by cases List.mem_singleton.mp hx; exact .inl ⟨_, h34⟩
    refine ⟨n3, (k3.trans k4).fresh1 k5 n3, _, h5, by rw [List.length_append, lx]; rfl, fun i v e => ?_⟩
    by_cases hi : i < xs.length
    · rw [List.getElem?_append_left hi] at e
      obtain ⟨t, e1, e2⟩ := hx i v e
      exact ⟨t, e1, t5.sqT ((keep_ts0 k4).sqT e2)⟩
    · rw [List.getElem?_append_right (by omega)] at e
      have hj2 := (List.getElem?_eq_some_iff.mp e).1
      simp at hj2
      have ej : i = j := by omega
      have ez : i - xs.length = 0 := by omega
      rw [ez] at e
      cases e
      rw [ej]
      exact ⟨pt, rfl, t5.sqT (SqT.of h4)⟩
  · obtain ⟨n3, k3, xs, h3, lx, hx⟩ := hp
    exact q E H3 n3 k3 ⟨xs, h3, lx, hx⟩
end
end Hw
namespace Hw
open PySem PySem.Spec PyProof.Rows L2
local macro_rules | `(tactic| walk_at "sz") => `(tactic| first | exact Nat.le_of_ble_eq_true rfl | exact small (by first | omega | (simp; done) | (simp; omega)))
local macro_rules | `(tactic| walk_at "szT") => `(tactic| first | exact Nat.lt_of_lt_of_le (Nat.lt_succ_self _) (Nat.le_of_ble_eq_true rfl) | exact smallT (by first | omega | (simp; done) | (simp; omega)))
local macro_rules | `(tactic| walk_at "cond") => `(tactic| first | decide | omega | (dsimp only; omega) | exact ⟨by omega, by omega⟩ | exact .inr ⟨by decide, by decide⟩)
local macro_rules | `(tactic| walk_at "sq") => `(tactic| first | assumption | exact SqL.of (by assumption) | exact SqT.of (by assumption))
local macro_rules | `(tactic| walk_at "ty") => `(tactic| first | (with_reducible assumption) | exact .base (.int _) | exact .base (.str _) | exact .base (.bl _) | exact .base .non | exact tyT (by walk_at "sq") | exact tyL (by walk_at "sq"))
local macro_rules | `(tactic| walk_at "rd1") => `(tactic| first
  | ((with_reducible apply r_seq))
  | ((with_reducible apply r_asg))
  | ((with_reducible apply r_name))
  | ((with_reducible apply r_op))
  | ((with_reducible apply r_var); exact rfl)
  | ((with_reducible apply r_c))
  | ((with_reducible apply r_ixT); (walk_at "sq"); first | exact rfl | assumption)
  | ((with_reducible apply r_ixL); (walk_at "sq"); first | exact rfl | assumption)
  | ((with_reducible apply r_ixA); (first | exact .inl (by walk_at "sq") | exact .inr (by walk_at "sq")); first | exact rfl | assumption)
  | ((with_reducible apply r_isi); (walk_at "ty"); (decide +kernel))
  | ((with_reducible apply r_isiT2); assumption; (walk_at "ty"); (decide +kernel); (decide +kernel))
  | ((with_reducible apply r_I0))
  | ((with_reducible apply r_I); (walk_at "cond"))
  | ((with_reducible apply r_eq); exact rfl)
  | ((with_reducible apply r_ne); exact rfl)
  | ((with_reducible apply r_test))
  | ((with_reducible apply r_bl))
  | ((with_reducible apply r_if))
  | ((with_reducible apply r_nil))
  | ((with_reducible apply r_cons))
  | ((with_reducible apply r_call))
  | ((with_reducible apply r_cb))
  | ((with_reducible apply r_tup))
  | ((with_reducible apply r_lst))
  | ((with_reducible apply new); (walk_at "sz"))
  | ((with_reducible apply r_ret))
  | ((with_reducible apply r_retN))
  | ((with_reducible apply r_next))
  | ((with_reducible apply r_drop))
  | ((with_reducible apply r_lenL); (walk_at "sq"))
  | ((with_reducible apply r_lenT); (walk_at "sq"))
  | ((with_reducible apply r_int))
  | ((with_reducible apply r_intB))
  | ((with_reducible apply r_isN))
  | ((with_reducible apply r_notN))
  | ((with_reducible apply r_B))
  | ((with_reducible apply r_not))
  | ((with_reducible apply r_notV))
  | ((with_reducible apply r_andV))
  | ((with_reducible apply r_orV))
  | ((with_reducible apply r_ifE))
  | ((with_reducible apply r_chain))
  | ((with_reducible apply ite_t); (first | (with_reducible exact nRN) | (with_reducible exact nIN) | (with_reducible exact dNN) | decide +kernel))
  | ((with_reducible apply ite_f); (first | (with_reducible exact dRN) | (with_reducible exact dIN) | (with_reducible exact nNN) | decide +kernel))
  | ((with_reducible apply r_in); (first | exact .inl (by walk_at "sq") | exact .inr (by walk_at "sq")); exact rfl; (first | exact nums_flat | exact rfl))
  | ((with_reducible apply turn))
  | ((with_reducible apply r_for))
  | ((with_reducible apply r_iRng1))
  | ((with_reducible apply r_rng); (first | decide | omega | (simp; omega)); (first | decide | omega | (simp; omega)))
  | ((with_reducible apply r_iList))
  | ((with_reducible apply r_iTup))
  | ((with_reducible apply r_overL); (walk_at "sq"))
  | ((with_reducible apply r_overT); (walk_at "sq"))
  | ((with_reducible apply r_lc))
  | ((with_reducible apply acc); assumption; (walk_at "szT"))
  | ((with_reducible apply r_sub))
  | ((with_reducible apply r_setL); assumption; exact rfl)
  | ((with_reducible apply r_gtup); (walk_at "sq"); rfl)
  | ((with_reducible apply r_gnil))
  | ((with_reducible apply r_gcons))
  | ((with_reducible apply r_par))
  | ((with_reducible apply r_par2))
  | ((with_reducible apply r_sl))
  | ((with_reducible apply r_part))
  | ((with_reducible apply r_part1))
  | ((with_reducible apply r_noPart))
  | ((with_reducible apply r_slL); (walk_at "sq"))
  | ((with_reducible apply r_slA); (walk_at "sq"))
  | ((with_reducible apply r_tupL); (walk_at "sq"))
  | ((with_reducible apply r_tupT); (walk_at "sq"))
  | ((with_reducible apply r_lstL); (walk_at "sq"))
  | ((with_reducible apply r_lstT); (walk_at "sq"))
  | ((with_reducible apply r_append))
  | ((with_reducible apply r_isL); (walk_at "sq"))
  | ((with_reducible apply r_app); assumption; (walk_at "szT"))
  | ((with_reducible apply r_dget))
  | ((with_reducible apply r_dgetS); assumption; (walk_at "dk"))
  | ((with_reducible apply r_dput))
  | ((with_reducible apply r_dputS); assumption; (walk_at "szT"))
  | ((with_reducible apply r_disp))
  | ((with_reducible apply r_pnil))
  | ((with_reducible apply r_pcons))
  | ((with_reducible apply r_fld))
  | ((with_reducible apply r_fld1); assumption; assumption; assumption; (first | exact rfl | assumption))
  | ((with_reducible apply r_sfld))
  | ((with_reducible apply r_sfld1); assumption; assumption; assumption; exact (by decide)))
local macro_rules | `(tactic| walk_at "rd") => `(tactic| repeat walk_at "rd1")
section
variable {P : Program} {w : World} {K : PySem.W.Frag} {mg : Str → Option Value} {base : Heap}
/-! ### the same data -/
section
variable {H H1 : Hp}
mutual
theorem Dp.keep0 (k : Keep [] H H1) : ∀ {d : PyData} {v : V}, Dp K H v d → Dp K H1 v d
  | .none, _, h => by cases h; exact .non
  | .bool b, _, h => by cases h; exact .bl b
  | .int i, _, h => by cases h; exact .int i
  | .str x, _, h => by cases h; exact .str x
  | .tuple ds, _, h => by
    cases h with
    | tup hs ha => exact .tup ((keep_ts0 k).sqT hs) (DpAll.keep0 k ha)
  | .list ds, _, h => by
    cases h with
    | lst hs ha => exact .lst (k.sqL (by simp) hs) (DpAll.keep0 k ha)
  | .dict _, _, h => by cases h
theorem DpAll.keep0 (k : Keep [] H H1) : ∀ {ds : List PyData} {vs : List V}, DpAll K H vs ds → DpAll K H1 vs ds
  | [], _, h => by cases h; exact .nil
  | d :: ds, _, h => by
    cases h with
    | cons h1 h2 => exact .cons (Dp.keep0 k h1) (DpAll.keep0 k h2)
end
theorem DpAll.length : ∀ {ds : List PyData} {vs : List V}, DpAll K H vs ds → vs.length = ds.length
  | [], _, h => by cases h; rfl
  | d :: ds, _, h => by
    cases h with
    | cons h1 h2 => rw [List.length_cons, List.length_cons, DpAll.length h2]
theorem DpAll.get : ∀ {ds : List PyData} {vs : List V} {i : Nat} {d : PyData}, DpAll K H vs ds → ds[i]? = some d → ∃ v, vs[i]? = some v ∧ Dp K H v d
  | [], _, _, _, _, e => by simp at e
  | d :: ds, _, 0, _, h, e => by
    cases h with
    | cons h1 h2 =>
      simp at e
      subst e
      exact ⟨_, rfl, h1⟩
  | d :: ds, _, i + 1, d', h, e => by
    cases h with
    | cons h1 h2 =>
      obtain ⟨v, q1, q2⟩ := DpAll.get (i := i) h2 (by simpa using e)
      exact ⟨v, by simpa using q1, q2⟩
end
def plain : Nat → PyData → Prop
  | 0, _ => False
  | n + 1, .list ds => ds.length ≤ 90000 ∧ ∀ e ∈ ds, plain n e
  | n + 1, .tuple ds => ds.length ≤ 90000 ∧ ∀ e ∈ ds, plain n e
  | _ + 1, .dict _ => False
  | _ + 1, _ => True
def spAlike (K : PySem.W.Frag) (n : Nat) : Sp := fun vs H Q _ => ∃ (x y : V) (d : PyData), vs = [x, y] ∧ Dp K H x d ∧ Dp K H y d ∧ plain n d ∧ ∀ H', Keep [] H H' → Q (.bl true) H'
end
end Hw
namespace Hw
open PySem PySem.Spec PyProof.Rows L2
local macro_rules | `(tactic| walk_at "sz") => `(tactic| first | exact Nat.le_of_ble_eq_true rfl | exact small (by first | omega | (simp; done) | (simp; omega)))
local macro_rules | `(tactic| walk_at "szT") => `(tactic| first | exact Nat.lt_of_lt_of_le (Nat.lt_succ_self _) (Nat.le_of_ble_eq_true rfl) | exact smallT (by first | omega | (simp; done) | (simp; omega)))
local macro_rules | `(tactic| walk_at "cond") => `(tactic| first | decide | omega | (dsimp only; omega) | exact ⟨by omega, by omega⟩ | exact .inr ⟨by decide, by decide⟩)
local macro_rules | `(tactic| walk_at "sq") => `(tactic| first | assumption | exact SqL.of (by assumption) | exact SqT.of (by assumption))
local macro_rules | `(tactic| walk_at "ty") => `(tactic| first | (with_reducible assumption) | exact .base (.int _) | exact .base (.str _) | exact .base (.bl _) | exact .base .non | exact tyT (by walk_at "sq") | exact tyL (by walk_at "sq"))
local macro_rules | `(tactic| walk_at "rd1") => `(tactic| first
  | ((with_reducible apply r_seq))
  | ((with_reducible apply r_asg))
  | ((with_reducible apply r_name))
  | ((with_reducible apply r_op))
  | ((with_reducible apply r_var); exact rfl)
  | ((with_reducible apply r_c))
  | ((with_reducible apply r_ixT); (walk_at "sq"); first | exact rfl | assumption)
  | ((with_reducible apply r_ixL); (walk_at "sq"); first | exact rfl | assumption)
  | ((with_reducible apply r_ixA); (first | exact .inl (by walk_at "sq") | exact .inr (by walk_at "sq")); first | exact rfl | assumption)
  | ((with_reducible apply r_isi); (walk_at "ty"); (decide +kernel))
  | ((with_reducible apply r_isiT2); assumption; (walk_at "ty"); (decide +kernel); (decide +kernel))
  | ((with_reducible apply r_I0))
  | ((with_reducible apply r_I); (walk_at "cond"))
  | ((with_reducible apply r_eq); exact rfl)
  | ((with_reducible apply r_ne); exact rfl)
  | ((with_reducible apply r_test))
  | ((with_reducible apply r_bl))
  | ((with_reducible apply r_if))
  | ((with_reducible apply r_nil))
  | ((with_reducible apply r_cons))
  | ((with_reducible apply r_call))
  | ((with_reducible apply r_cb))
  | ((with_reducible apply r_tup))
  | ((with_reducible apply r_lst))
  | ((with_reducible apply new); (walk_at "sz"))
  | ((with_reducible apply r_ret))
  | ((with_reducible apply r_retN))
  | ((with_reducible apply r_next))
  | ((with_reducible apply r_drop))
  | ((with_reducible apply r_lenL); (walk_at "sq"))
  | ((with_reducible apply r_lenT); (walk_at "sq"))
  | ((with_reducible apply r_int))
  | ((with_reducible apply r_intB))
  | ((with_reducible apply r_isN))
  | ((with_reducible apply r_notN))
  | ((with_reducible apply r_B))
  | ((with_reducible apply r_not))
  | ((with_reducible apply r_notV))
  | ((with_reducible apply r_andV))
  | ((with_reducible apply r_orV))
  | ((with_reducible apply r_ifE))
  | ((with_reducible apply r_chain))
  | ((with_reducible apply ite_t); (first | (with_reducible exact nRN) | (with_reducible exact nIN) | (with_reducible exact dNN) | decide +kernel))
  | ((with_reducible apply ite_f); (first | (with_reducible exact dRN) | (with_reducible exact dIN) | (with_reducible exact nNN) | decide +kernel))
  | ((with_reducible apply r_in); (first | exact .inl (by walk_at "sq") | exact .inr (by walk_at "sq")); exact rfl; (first | exact nums_flat | exact rfl))
  | ((with_reducible apply turn))
  | ((with_reducible apply r_for))
  | ((with_reducible apply r_iRng1))
  | ((with_reducible apply r_rng); (first | decide | omega | (simp; omega)); (first | decide | omega | (simp; omega)))
  | ((with_reducible apply r_iList))
  | ((with_reducible apply r_iTup))
  | ((with_reducible apply r_overL); (walk_at "sq"))
  | ((with_reducible apply r_overT); (walk_at "sq"))
  | ((with_reducible apply r_lc))
  | ((with_reducible apply acc); assumption; (walk_at "szT"))
  | ((with_reducible apply r_sub))
  | ((with_reducible apply r_setL); assumption; exact rfl)
  | ((with_reducible apply r_gtup); (walk_at "sq"); rfl)
  | ((with_reducible apply r_gnil))
  | ((with_reducible apply r_gcons))
  | ((with_reducible apply r_par))
  | ((with_reducible apply r_par2))
  | ((with_reducible apply r_sl))
  | ((with_reducible apply r_part))
  | ((with_reducible apply r_part1))
  | ((with_reducible apply r_noPart))
  | ((with_reducible apply r_slL); (walk_at "sq"))
  | ((with_reducible apply r_slA); (walk_at "sq"))
  | ((with_reducible apply r_tupL); (walk_at "sq"))
  | ((with_reducible apply r_tupT); (walk_at "sq"))
  | ((with_reducible apply r_lstL); (walk_at "sq"))
  | ((with_reducible apply r_lstT); (walk_at "sq"))
  | ((with_reducible apply r_append))
  | ((with_reducible apply r_isL); (walk_at "sq"))
  | ((with_reducible apply r_app); assumption; (walk_at "szT"))
  | ((with_reducible apply r_dget))
  | ((with_reducible apply r_dgetS); assumption; (walk_at "dk"))
  | ((with_reducible apply r_dput))
  | ((with_reducible apply r_dputS); assumption; (walk_at "szT"))
  | ((with_reducible apply r_disp))
  | ((with_reducible apply r_pnil))
  | ((with_reducible apply r_pcons))
  | ((with_reducible apply r_fld))
  | ((with_reducible apply r_fld1); assumption; assumption; assumption; (first | exact rfl | assumption))
  | ((with_reducible apply r_sfld))
  | ((with_reducible apply r_sfld1); assumption; assumption; assumption; exact (by decide)))
local macro_rules | `(tactic| walk_at "rd") => `(tactic| repeat walk_at "rd1")
/-! short words -/
section
variable {K : PySem.W.Frag}
theorem kts0 {H H1 : Hp} (k : Keep [] H H1) : Tst H H1 := k.ts fun _ z => nomatch z
theorem free0 {H H1 : Hp} {p : Addr} (k : Keep [] H H1) (h : H1 p = none) : H p = none := k.free (fun _ z => nomatch z) h
theorem at0 {x : V} {r : List V} : atI (x :: r) 0 = some x := atI_nat (xs := x :: r) (j := 0) rfl
theorem at1 {x y : V} {r : List V} : atI (x :: y :: r) 1 = some y := atI_nat (xs := x :: y :: r) (j := 1) rfl
theorem at2 {x y z : V} {r : List V} : atI (x :: y :: z :: r) 2 = some z := atI_nat (xs := x :: y :: z :: r) (j := 2) rfl
theorem at3 {x y z u : V} {r : List V} : atI (x :: y :: z :: u :: r) 3 = some u := atI_nat (xs := x :: y :: z :: u :: r) (j := 3) rfl
end
section
variable {P : Program} {w : World} {K : PySem.W.Frag} {mg : Str → Option Value} {base : Heap}
/-! ### programs.py: the small looks, at what is well -/
/-- the program's own numbers -/
structure Nrs (tk : Nat → Tok) (mg : Str → Option Value) : Prop extends Blt mg where
  NUMBERS : mg "NUMBERS" = some (.int 3 (tk 0))
  MOST_WORKS : mg "MOST_WORKS" = some (.int 4 (tk 1))
  MOST_PARAMS : mg "MOST_PARAMS" = some (.int 3 (tk 2))
  MOST_OWNS : mg "MOST_OWNS" = some (.int 99 (tk 3))
  MOST_STEPS : mg "MOST_STEPS" = some (.int 100 (tk 4))
  MOST_OTHERS : mg "MOST_OTHERS" = some (.int 4 (tk 5))
  COMMON_CELLS : mg "COMMON_CELLS" = some (.int 3 (tk 6))
def belowD (k : Int) : PyData → Bool
  | .int n => decide (0 ≤ n) && decide (n < k)
  | _ => false
def spIsBelow (K : PySem.W.Frag) : Sp := fun vs H Q _ => ∃ (v : V) (d : PyData) (k : Int), vs = [v, .int k] ∧ Dp K H v d ∧ Q (.bl (belowD k d)) H
def spIsNumber (K : PySem.W.Frag) : Sp := fun vs H Q _ => ∃ (v : V) (d : PyData), vs = [v] ∧ Dp K H v d ∧ Q (.bl (belowD 3 d)) H
abbrev sis_below : Stmt := top 13
abbrev nis_below : List Str := ["value", "limit"]
abbrev pis_below : List Str := ["value", "limit"]
theorem scis_below : FnScope nis_below pis_below (defScope sis_below) := ⟨rfl, rfl, rfl, by decide +kernel, rfl, by decide +kernel, by decide +kernel⟩
abbrev sis_number : Stmt := top 14
abbrev nis_number : List Str := ["value"]
abbrev pis_number : List Str := ["value"]
theorem scis_number : FnScope nis_number pis_number (defScope sis_number) := ⟨rfl, rfl, rfl, by decide +kernel, rfl, by decide +kernel, by decide +kernel⟩
abbrev sis_shaped : Stmt := top 15
abbrev nis_shaped : List Str := ["value", "word", "size"]
abbrev pis_shaped : List Str := ["value", "word", "size"]
theorem scis_shaped : FnScope nis_shaped pis_shaped (defScope sis_shaped) := ⟨rfl, rfl, rfl, by decide +kernel, rfl, by decide +kernel, by decide +kernel⟩
theorem cases_b {C : Prop} (b : Bool) (h : b = true → C) (h' : b = false → C) : C := by
  cases b with
  | true => exact h rfl
  | false => exact h' rfl
theorem okIsBelow (D : DefAt K mg "is_below" sis_below pis_below) (T : Blt mg) : Callee P w K mg base "is_below" 1 pis_below (spIsBelow K) := by
  refine D.ok scis_below (fun vs H Q E h => ?_) (fun f cdv A outer s H vs Q E hr h => ?_)
  · obtain ⟨v, d, k, rfl, _⟩ := h
    rfl
  obtain ⟨v, d, k, rfl, hd, q⟩ := h
  refine ⟨_, (pss_cons (ps_if (PW.pt (pw_or (pt_val (pe_callB (cIsi (K := K)) (by rfl) T.isinstance (by decide +kernel) (pa_cons (pv 0) (pa_cons (pe_bltn rfl T.bool (by decide +kernel) (v := .ty "bool") rfl) pa_nil)))) (pw_or1 (pt_not (pt_val (pe_callB (cIsi (K := K)) (by rfl) T.isinstance (by decide +kernel) (pa_cons (pv 0) (pa_cons (pe_bltn rfl T.int (by decide +kernel) (v := .ty "int") rfl) pa_nil)))))))) (pss_one (ps_ret pe_bl)) pss_nil)
  (pss_one (ps_ret (pe_chain op_le op_lt pe_int (pv 0) (pv 1))))), ?_⟩
  walk_at "rd"
  cases d with
  | none =>
    cases hd
    refine r_orP (a := kb "NoneType" "bool") (b := !kb "NoneType" "int") (fun R hr => by walk_at "rd"; exact hr) (fun _ R hr => by walk_at "rd"; exact hr) ?_
    rw [if_pos (by decide +kernel)]
    walk_at "rd"
    exact q
  | bool b =>
    cases hd
    refine r_orP (a := kb "bool" "bool") (b := !kb "bool" "int") (fun R hr => by walk_at "rd"; exact hr) (fun _ R hr => by walk_at "rd"; exact hr) ?_
    rw [if_pos (by decide +kernel)]
    walk_at "rd"
    exact q
  | str x =>
    cases hd
    refine r_orP (a := kb "str" "bool") (b := !kb "str" "int") (fun R hr => by walk_at "rd"; exact hr) (fun _ R hr => by walk_at "rd"; exact hr) ?_
    rw [if_pos (by decide +kernel)]
    walk_at "rd"
    exact q
  | int n =>
    cases hd
    refine r_orP (a := kb "int" "bool") (b := !kb "int" "int") (fun R hr => by walk_at "rd"; exact hr) (fun _ R hr => by walk_at "rd"; exact hr) ?_
    rw [if_neg (by decide +kernel)]
    walk_at "rd"
    refine cases_b (decide (0 ≤ n)) (fun c => ?_) (fun c => ?_)
    · rw [if_pos c]
      walk_at "rd"
      have e : belowD k (.int n) = (decide (0 ≤ n) && decide (n < k)) := rfl
      rw [e, c, Bool.true_and] at q
      exact q
    · rw [if_neg (by rw [c]; exact Bool.false_ne_true)]
      have e : belowD k (.int n) = (decide (0 ≤ n) && decide (n < k)) := rfl
      rw [e, c, Bool.false_and] at q
      exact q
  | tuple ds =>
    cases hd with
    | tup hs ha =>
      refine r_orP (a := kb "tuple" "bool") (b := !kb "tuple" "int") (fun R hr => by walk_at "rd"; exact hr) (fun _ R hr => by walk_at "rd"; exact hr) ?_
      rw [if_pos (by decide +kernel)]
      walk_at "rd"
      exact q
  | list ds =>
    cases hd with
    | lst hs ha =>
      refine r_orP (a := kb "list" "bool") (b := !kb "list" "int") (fun R hr => by walk_at "rd"; exact hr) (fun _ R hr => by walk_at "rd"; exact hr) ?_
      rw [if_pos (by decide +kernel)]
      walk_at "rd"
      exact q
  | dict _ => cases hd
theorem okIsNumber {tk : Nat → Tok} (D : DefAt K mg "is_number" sis_number pis_number) (T : Nrs tk mg) (C_is_below : Callee P w K mg base "is_below" 1 pis_below (spIsBelow K)) :
    Callee P w K mg base "is_number" 2 pis_number (spIsNumber K) := by
  refine D.ok scis_number (fun vs H Q E h => ?_) (fun f cdv A outer s H vs Q E hr h => ?_)
  · obtain ⟨v, d, rfl, _⟩ := h
    rfl
  obtain ⟨v, d, rfl, hd, q⟩ := h
  refine ⟨_, (pss_one (ps_ret (pcall C_is_below (hr.mono (by omega)) rfl (pa_cons (pv 0) (pa_cons (pe_glob (v := .int 3) rfl T.NUMBERS ⟨_, rfl⟩) pa_nil))))), ?_⟩
  walk_at "rd"
  refine ask ⟨v, d, 3, rfl, hd, ?_⟩
  exact q
def shapedD (wd : PyData) (k : Int) : PyData → Bool
  | .tuple ds => decide ((ds.length : Int) = k) && ((ds.head?.map fun d => PyData.eqv d wd).getD false)
  | _ => false
def headOk : PyData → Prop
  | .tuple (d :: _) => SeqAt.shaped d = true
  | _ => True
def spIsShaped (K : PySem.W.Frag) : Sp := fun vs H Q _ => ∃ (v : V) (d : PyData) (x : Str) (k : Int), vs = [v, .str x, .int k] ∧ Dp K H v d ∧ headOk d ∧ SeqAt.shaped (.str x) = true ∧ 0 < k ∧ Q (.bl (shapedD (.str x) k d)) H
theorem okIsShaped (D : DefAt K mg "is_shaped" sis_shaped pis_shaped) (T : Blt mg) : Callee P w K mg base "is_shaped" 1 pis_shaped (spIsShaped K) := by
  refine D.ok scis_shaped (fun vs H Q E h => ?_) (fun f cdv A outer s H vs Q E hr h => ?_)
  · obtain ⟨v, d, x, k, rfl, _⟩ := h
    rfl
  obtain ⟨v, d, x, k, rfl, hd, ho, hw, k0, q⟩ := h
  refine ⟨_, (pss_one (ps_ret (pe_and (pe_callB (cIsi (K := K)) (by rfl) T.isinstance (by decide +kernel) (pa_cons (pv 0) (pa_cons (pe_bltn rfl T.tuple (by decide +kernel) (v := .ty "tuple") rfl) pa_nil))) (pe_and (pe_cmpR op_eq (pe_callB (cLen (K := K)) (by rfl) T.len PySem.boot_len (pa_cons (pv 0) pa_nil)) (pv 2) (nomark _)) (pe_one (pe_cmpR (opEqD (K := K) hr.units) (pe_ix (ixT (K := K)) (pv 0) pe_int (fun _ _ => rfl)) (pv 1) (nomark _))))))), ?_⟩
  walk_at "rd"
  cases d with
  | none =>
    cases hd
    walk_at "rd"
    exact q
  | bool b =>
    cases hd
    walk_at "rd"
    exact q
  | int n =>
    cases hd
    walk_at "rd"
    exact q
  | str y =>
    cases hd
    walk_at "rd"
    exact q
  | list ds =>
    cases hd with
    | lst hs ha =>
      walk_at "rd"
      exact q
  | tuple ds =>
    cases hd with
    | @tup p xs _ hs ha =>
      have len := DpAll.length ha
      walk_at "rd"
      by_cases c : (xs.length : Int) = k
      · rw [if_pos (decide_eq_true (congrArg V.int c))]
        cases ds with
        | nil =>
          rw [len] at c
          exact absurd c (by simp; omega)
        | cons d0 ds =>
          cases ha with
          | @cons v0 vs _ _ h0 h1 =>
            have e0 : atI (v0 :: vs) 0 = some v0 := atI_nat (xs := v0 :: vs) (j := 0) rfl
            walk_at "rd"
            refine ⟨d0, .str x, h0, .str x, ho, hw, ?_⟩
            have e : shapedD (.str x) k (.tuple (d0 :: ds)) = PyData.eqv d0 (.str x) := by
              rw [len] at c
              show (decide (((d0 :: ds).length : Int) = k) && _) = _
              rw [decide_eq_true c]
              rfl
            rw [e] at q
            exact q
      · rw [if_neg (by
          rw [decide_eq_false (fun z => c (V.int.inj z))]
          exact Bool.false_ne_true)]
        have e : shapedD (.str x) k (.tuple ds) = false := by
          rw [len] at c
          show (decide ((ds.length : Int) = k) && _) = _
          rw [decide_eq_false c]
          rfl
        rw [e] at q
        exact q
  | dict _ => cases hd
end
end Hw
namespace Hw
open PySem PySem.Spec PyProof.Rows L2
local macro_rules | `(tactic| walk_at "sz") => `(tactic| first | exact Nat.le_of_ble_eq_true rfl | exact small (by first | omega | (simp; done) | (simp; omega)))
local macro_rules | `(tactic| walk_at "szT") => `(tactic| first | exact Nat.lt_of_lt_of_le (Nat.lt_succ_self _) (Nat.le_of_ble_eq_true rfl) | exact smallT (by first | omega | (simp; done) | (simp; omega)))
local macro_rules | `(tactic| walk_at "cond") => `(tactic| first | decide | omega | (dsimp only; omega) | exact ⟨by omega, by omega⟩ | exact .inr ⟨by decide, by decide⟩)
local macro_rules | `(tactic| walk_at "sq") => `(tactic| first | assumption | exact SqL.of (by assumption) | exact SqT.of (by assumption))
local macro_rules | `(tactic| walk_at "ty") => `(tactic| first | (with_reducible assumption) | exact .base (.int _) | exact .base (.str _) | exact .base (.bl _) | exact .base .non | exact tyT (by walk_at "sq") | exact tyL (by walk_at "sq"))
local macro_rules | `(tactic| walk_at "rd1") => `(tactic| first
  | ((with_reducible apply r_seq))
  | ((with_reducible apply r_asg))
  | ((with_reducible apply r_name))
  | ((with_reducible apply r_op))
  | ((with_reducible apply r_var); exact rfl)
  | ((with_reducible apply r_c))
  | ((with_reducible apply r_ixT); (walk_at "sq"); first | exact rfl | assumption)
  | ((with_reducible apply r_ixL); (walk_at "sq"); first | exact rfl | assumption)
  | ((with_reducible apply r_ixA); (first | exact .inl (by walk_at "sq") | exact .inr (by walk_at "sq")); first | exact rfl | assumption)
  | ((with_reducible apply r_isi); (walk_at "ty"); (decide +kernel))
  | ((with_reducible apply r_isiT2); assumption; (walk_at "ty"); (decide +kernel); (decide +kernel))
  | ((with_reducible apply r_I0))
  | ((with_reducible apply r_I); (walk_at "cond"))
  | ((with_reducible apply r_eq); exact rfl)
  | ((with_reducible apply r_ne); exact rfl)
  | ((with_reducible apply r_test))
  | ((with_reducible apply r_bl))
  | ((with_reducible apply r_if))
  | ((with_reducible apply r_nil))
  | ((with_reducible apply r_cons))
  | ((with_reducible apply r_call))
  | ((with_reducible apply r_cb))
  | ((with_reducible apply r_tup))
  | ((with_reducible apply r_lst))
  | ((with_reducible apply new); (walk_at "sz"))
  | ((with_reducible apply r_ret))
  | ((with_reducible apply r_retN))
  | ((with_reducible apply r_next))
  | ((with_reducible apply r_drop))
  | ((with_reducible apply r_lenL); (walk_at "sq"))
  | ((with_reducible apply r_lenT); (walk_at "sq"))
  | ((with_reducible apply r_int))
  | ((with_reducible apply r_intB))
  | ((with_reducible apply r_isN))
  | ((with_reducible apply r_notN))
  | ((with_reducible apply r_B))
  | ((with_reducible apply r_not))
  | ((with_reducible apply r_notV))
  | ((with_reducible apply r_andV))
  | ((with_reducible apply r_orV))
  | ((with_reducible apply r_ifE))
  | ((with_reducible apply r_chain))
  | ((with_reducible apply ite_t); (first | (with_reducible exact nRN) | (with_reducible exact nIN) | (with_reducible exact dNN) | decide +kernel))
  | ((with_reducible apply ite_f); (first | (with_reducible exact dRN) | (with_reducible exact dIN) | (with_reducible exact nNN) | decide +kernel))
  | ((with_reducible apply r_in); (first | exact .inl (by walk_at "sq") | exact .inr (by walk_at "sq")); exact rfl; (first | exact nums_flat | exact rfl))
  | ((with_reducible apply turn))
  | ((with_reducible apply r_for))
  | ((with_reducible apply r_iRng1))
  | ((with_reducible apply r_rng); (first | decide | omega | (simp; omega)); (first | decide | omega | (simp; omega)))
  | ((with_reducible apply r_iList))
  | ((with_reducible apply r_iTup))
  | ((with_reducible apply r_overL); (walk_at "sq"))
  | ((with_reducible apply r_overT); (walk_at "sq"))
  | ((with_reducible apply r_lc))
  | ((with_reducible apply acc); assumption; (walk_at "szT"))
  | ((with_reducible apply r_sub))
  | ((with_reducible apply r_setL); assumption; exact rfl)
  | ((with_reducible apply r_gtup); (walk_at "sq"); rfl)
  | ((with_reducible apply r_gnil))
  | ((with_reducible apply r_gcons))
  | ((with_reducible apply r_par))
  | ((with_reducible apply r_par2))
  | ((with_reducible apply r_sl))
  | ((with_reducible apply r_part))
  | ((with_reducible apply r_part1))
  | ((with_reducible apply r_noPart))
  | ((with_reducible apply r_slL); (walk_at "sq"))
  | ((with_reducible apply r_slA); (walk_at "sq"))
  | ((with_reducible apply r_tupL); (walk_at "sq"))
  | ((with_reducible apply r_tupT); (walk_at "sq"))
  | ((with_reducible apply r_lstL); (walk_at "sq"))
  | ((with_reducible apply r_lstT); (walk_at "sq"))
  | ((with_reducible apply r_append))
  | ((with_reducible apply r_isL); (walk_at "sq"))
  | ((with_reducible apply r_app); assumption; (walk_at "szT"))
  | ((with_reducible apply r_dget))
  | ((with_reducible apply r_dgetS); assumption; (walk_at "dk"))
  | ((with_reducible apply r_dput))
  | ((with_reducible apply r_dputS); assumption; (walk_at "szT"))
  | ((with_reducible apply r_disp))
  | ((with_reducible apply r_pnil))
  | ((with_reducible apply r_pcons))
  | ((with_reducible apply r_fld))
  | ((with_reducible apply r_fld1); assumption; assumption; assumption; (first | exact rfl | assumption))
  | ((with_reducible apply r_sfld))
  | ((with_reducible apply r_sfld1); assumption; assumption; assumption; exact (by decide)))
local macro_rules | `(tactic| walk_at "rd") => `(tactic| repeat walk_at "rd1")
section
variable {P : Program} {w : World} {K : PySem.W.Frag} {mg : Str → Option Value} {base : Heap}
/-! ### programs.py: is_plain -/
def item1 : PyData → PyData
  | .tuple (_ :: d :: _) => d
  | _ => .none
theorem shaped2 {H : Hp} {v : V} {d wd : PyData} (hd : Dp K H v d) (e : shapedD wd 2 d = true) : ∃ (p : Addr) (v0 v1 : V), v = .ref p ∧ SqT K H p [v0, v1] ∧ atI [v0, v1] 1 = some v1 ∧ Dp K H v1 (item1 d) := by
  cases d with
  | tuple ds =>
    have e1 : (decide ((ds.length : Int) = 2) && ((ds.head?.map fun d => PyData.eqv d wd).getD false)) = true := e
    have e2 : (ds.length : Int) = 2 := of_decide_eq_true (Bool.and_eq_true_iff.mp e1).1
    cases hd with
    | @tup p xs _ hs ha =>
      cases ha with
      | nil => cases e2
      | @cons v0 vs _ _ h0 h1 =>
        cases h1 with
        | nil => cases e2
        | @cons v1 vs1 _ _ h1 h2 =>
          cases h2 with
          | nil => exact ⟨p, v0, v1, rfl, hs, atI_nat (xs := [v0, v1]) (j := 1) rfl, h1⟩
          | cons h2 h3 =>
            simp at e2
            omega
  | _ => cases e
def plainD (ps os : Int) (d : PyData) : Bool :=
  if shapedD (.str "num") 2 d then belowD 3 (item1 d) else if shapedD (.str "own") 2 d then belowD os (item1 d) else shapedD (.str "par") 2 d && belowD ps (item1 d)
def spIsPlain (K : PySem.W.Frag) : Sp := fun vs H Q _ => ∃ (wp : Addr) (v b : V) (d : PyData) (ps os : Int), vs = [.ref wp, v] ∧ SqT K H wp [.int ps, .int os, b] ∧ Dp K H v d ∧ headOk d ∧ Q (.bl (plainD ps os d)) H
abbrev sis_plain : Stmt := top 23
abbrev nis_plain : List Str := ["work", "thing"]
abbrev pis_plain : List Str := ["work", "thing"]
theorem scis_plain : FnScope nis_plain pis_plain (defScope sis_plain) := ⟨rfl, rfl, rfl, by decide +kernel, rfl, by decide +kernel, by decide +kernel⟩
theorem okIsPlain (D : DefAt K mg "is_plain" sis_plain pis_plain) (T : Blt mg) (C_is_below : Callee P w K mg base "is_below" 1 pis_below (spIsBelow K))
    (C_is_number : Callee P w K mg base "is_number" 2 pis_number (spIsNumber K)) (C_is_shaped : Callee P w K mg base "is_shaped" 1 pis_shaped (spIsShaped K)) :
    Callee P w K mg base "is_plain" 3 pis_plain (spIsPlain K) := by
  refine D.ok scis_plain (fun vs H Q E h => ?_) (fun f cdv A outer s H vs Q E hr h => ?_)
  · obtain ⟨wp, v, b, d, ps, os, rfl, _⟩ := h
    rfl
  obtain ⟨wp, v, b, d, ps, os, rfl, hW, hd, ho, q⟩ := h
  have a0 : atI [.int ps, .int os, b] 0 = some (.int ps) := atI_nat (xs := [.int ps, .int os, b]) (j := 0) rfl
  have a1 : atI [.int ps, .int os, b] 1 = some (.int os) := atI_nat (xs := [.int ps, .int os, b]) (j := 1) rfl
  refine ⟨_, (pss_cons (ps_if (pt_val (pcall C_is_shaped (hr.mono (by omega)) rfl (pa_cons (pv 1) (pa_cons pe_str (pa_cons pe_int pa_nil))))) (pss_one (ps_ret (pcall C_is_number (hr.mono (by omega)) rfl (pa_cons (pe_ix (ixT (K := K)) (pv 1) pe_int (fun _ _ => rfl)) pa_nil)))) pss_nil)
  (pss_cons (ps_if (pt_val (pcall C_is_shaped (hr.mono (by omega)) rfl (pa_cons (pv 1) (pa_cons pe_str (pa_cons pe_int pa_nil))))) (pss_one (ps_ret (pcall C_is_below (hr.mono (by omega)) rfl (pa_cons (pe_ix (ixT (K := K)) (pv 1) pe_int (fun _ _ => rfl)) (pa_cons (pe_ix (ixT (K := K)) (pv 0) pe_int (fun _ _ => rfl)) pa_nil))))) pss_nil)
  (pss_one (ps_ret (pe_and (pcall C_is_shaped (hr.mono (by omega)) rfl (pa_cons (pv 1) (pa_cons pe_str (pa_cons pe_int pa_nil)))) (pe_one (pcall C_is_below (hr.mono (by omega)) rfl (pa_cons (pe_ix (ixT (K := K)) (pv 1) pe_int (fun _ _ => rfl)) (pa_cons (pe_ix (ixT (K := K)) (pv 0) pe_int (fun _ _ => rfl)) pa_nil))))))))), ?_⟩
  walk_at "rd"
  refine ask ⟨v, d, "num", 2, rfl, hd, ho, by decide +kernel, by decide, ?_⟩
  walk_at "rd"
  refine ite2 (fun c => ?_) (fun c => ?_)
  · obtain ⟨p, v0, v1, rfl, hT, at1, h1⟩ := shaped2 hd c
    walk_at "rd"
    refine ask ⟨v1, item1 d, rfl, h1, ?_⟩
    have e : plainD ps os d = belowD 3 (item1 d) := if_pos c
    rw [e] at q
    walk_at "rd"
    exact q
  have e : plainD ps os d = if shapedD (.str "own") 2 d then belowD os (item1 d) else shapedD (.str "par") 2 d && belowD ps (item1 d) := if_neg c
  rw [e] at q
  walk_at "rd"
  refine ask ⟨v, d, "own", 2, rfl, hd, ho, by decide +kernel, by decide, ?_⟩
  walk_at "rd"
  refine ite2 (fun c => ?_) (fun c => ?_)
  · obtain ⟨p, v0, v1, rfl, hT, at1, h1⟩ := shaped2 hd c
    walk_at "rd"
    refine ask ⟨v1, item1 d, os, rfl, h1, ?_⟩
    rw [if_pos c] at q
    walk_at "rd"
    exact q
  rw [if_neg c] at q
  walk_at "rd"
  refine ask ⟨v, d, "par", 2, rfl, hd, ho, by decide +kernel, by decide, ?_⟩
  walk_at "rd"
  refine ite2 (fun c => ?_) (fun c => ?_)
  · obtain ⟨p, v0, v1, rfl, hT, at1, h1⟩ := shaped2 hd c
    rw [c, Bool.true_and] at q
    walk_at "rd"
    refine ask ⟨v1, item1 d, ps, rfl, h1, ?_⟩
    walk_at "rd"
    exact q
  · rw [Bool.eq_false_iff.mpr c, Bool.false_and] at q
    walk_at "rd"
    exact q
end
end Hw
namespace Hw
open PySem PySem.Spec PyProof.Rows L2
local macro_rules | `(tactic| walk_at "sz") => `(tactic| first | exact Nat.le_of_ble_eq_true rfl | exact small (by first | omega | (simp; done) | (simp; omega)))
local macro_rules | `(tactic| walk_at "szT") => `(tactic| first | exact Nat.lt_of_lt_of_le (Nat.lt_succ_self _) (Nat.le_of_ble_eq_true rfl) | exact smallT (by first | omega | (simp; done) | (simp; omega)))
local macro_rules | `(tactic| walk_at "cond") => `(tactic| first | decide | omega | (dsimp only; omega) | exact ⟨by omega, by omega⟩ | exact .inr ⟨by decide, by decide⟩)
local macro_rules | `(tactic| walk_at "sq") => `(tactic| first | assumption | exact SqL.of (by assumption) | exact SqT.of (by assumption))
local macro_rules | `(tactic| walk_at "ty") => `(tactic| first | (with_reducible assumption) | exact .base (.int _) | exact .base (.str _) | exact .base (.bl _) | exact .base .non | exact tyT (by walk_at "sq") | exact tyL (by walk_at "sq"))
local macro_rules | `(tactic| walk_at "rd1") => `(tactic| first
  | ((with_reducible apply r_seq))
  | ((with_reducible apply r_asg))
  | ((with_reducible apply r_name))
  | ((with_reducible apply r_op))
  | ((with_reducible apply r_var); exact rfl)
  | ((with_reducible apply r_c))
  | ((with_reducible apply r_ixT); (walk_at "sq"); first | exact rfl | assumption)
  | ((with_reducible apply r_ixL); (walk_at "sq"); first | exact rfl | assumption)
  | ((with_reducible apply r_ixA); (first | exact .inl (by walk_at "sq") | exact .inr (by walk_at "sq")); first | exact rfl | assumption)
  | ((with_reducible apply r_isi); (walk_at "ty"); (decide +kernel))
  | ((with_reducible apply r_isiT2); assumption; (walk_at "ty"); (decide +kernel); (decide +kernel))
  | ((with_reducible apply r_I0))
  | ((with_reducible apply r_I); (walk_at "cond"))
  | ((with_reducible apply r_eq); exact rfl)
  | ((with_reducible apply r_ne); exact rfl)
  | ((with_reducible apply r_test))
  | ((with_reducible apply r_bl))
  | ((with_reducible apply r_if))
  | ((with_reducible apply r_nil))
  | ((with_reducible apply r_cons))
  | ((with_reducible apply r_call))
  | ((with_reducible apply r_cb))
  | ((with_reducible apply r_tup))
  | ((with_reducible apply r_lst))
  | ((with_reducible apply new); (walk_at "sz"))
  | ((with_reducible apply r_ret))
  | ((with_reducible apply r_retN))
  | ((with_reducible apply r_next))
  | ((with_reducible apply r_drop))
  | ((with_reducible apply r_lenL); (walk_at "sq"))
  | ((with_reducible apply r_lenT); (walk_at "sq"))
  | ((with_reducible apply r_int))
  | ((with_reducible apply r_intB))
  | ((with_reducible apply r_isN))
  | ((with_reducible apply r_notN))
  | ((with_reducible apply r_B))
  | ((with_reducible apply r_not))
  | ((with_reducible apply r_notV))
  | ((with_reducible apply r_andV))
  | ((with_reducible apply r_orV))
  | ((with_reducible apply r_ifE))
  | ((with_reducible apply r_chain))
  | ((with_reducible apply ite_t); (first | (with_reducible exact nRN) | (with_reducible exact nIN) | (with_reducible exact dNN) | decide +kernel))
  | ((with_reducible apply ite_f); (first | (with_reducible exact dRN) | (with_reducible exact dIN) | (with_reducible exact nNN) | decide +kernel))
  | ((with_reducible apply r_in); (first | exact .inl (by walk_at "sq") | exact .inr (by walk_at "sq")); exact rfl; (first | exact nums_flat | exact rfl))
  | ((with_reducible apply turn))
  | ((with_reducible apply r_for))
  | ((with_reducible apply r_iRng1))
  | ((with_reducible apply r_rng); (first | decide | omega | (simp; omega)); (first | decide | omega | (simp; omega)))
  | ((with_reducible apply r_iList))
  | ((with_reducible apply r_iTup))
  | ((with_reducible apply r_overL); (walk_at "sq"))
  | ((with_reducible apply r_overT); (walk_at "sq"))
  | ((with_reducible apply r_lc))
  | ((with_reducible apply acc); assumption; (walk_at "szT"))
  | ((with_reducible apply r_sub))
  | ((with_reducible apply r_setL); assumption; exact rfl)
  | ((with_reducible apply r_gtup); (walk_at "sq"); rfl)
  | ((with_reducible apply r_gnil))
  | ((with_reducible apply r_gcons))
  | ((with_reducible apply r_par))
  | ((with_reducible apply r_par2))
  | ((with_reducible apply r_sl))
  | ((with_reducible apply r_part))
  | ((with_reducible apply r_part1))
  | ((with_reducible apply r_noPart))
  | ((with_reducible apply r_slL); (walk_at "sq"))
  | ((with_reducible apply r_slA); (walk_at "sq"))
  | ((with_reducible apply r_tupL); (walk_at "sq"))
  | ((with_reducible apply r_tupT); (walk_at "sq"))
  | ((with_reducible apply r_lstL); (walk_at "sq"))
  | ((with_reducible apply r_lstT); (walk_at "sq"))
  | ((with_reducible apply r_append))
  | ((with_reducible apply r_isL); (walk_at "sq"))
  | ((with_reducible apply r_app); assumption; (walk_at "szT"))
  | ((with_reducible apply r_dget))
  | ((with_reducible apply r_dgetS); assumption; (walk_at "dk"))
  | ((with_reducible apply r_dput))
  | ((with_reducible apply r_dputS); assumption; (walk_at "szT"))
  | ((with_reducible apply r_disp))
  | ((with_reducible apply r_pnil))
  | ((with_reducible apply r_pcons))
  | ((with_reducible apply r_fld))
  | ((with_reducible apply r_fld1); assumption; assumption; assumption; (first | exact rfl | assumption))
  | ((with_reducible apply r_sfld))
  | ((with_reducible apply r_sfld1); assumption; assumption; assumption; exact (by decide)))
local macro_rules | `(tactic| walk_at "rd") => `(tactic| repeat walk_at "rd1")
section
variable {P : Program} {w : World} {K : PySem.W.Frag} {mg : Str → Option Value} {base : Heap}
/-! ### programs.py: need_thing, of what is a thing -/
section
variable {H : Hp}
mutual
theorem Rp.dp : ∀ {d : PyData} {v : V}, Rp K H v d → Dp K H v d
  | .none, _, h => by cases h; exact .non
  | .bool b, _, h => by cases h; exact .bl b
  | .int i, _, h => by cases h; exact .int i
  | .str x, _, h => by cases h; exact .str x
  | .tuple ds, _, h => by
    cases h with
    | tup hs ha => exact .tup hs (Rps.dp ha)
  | .list _, _, h => by cases h
  | .dict _, _, h => by cases h
theorem Rps.dp : ∀ {ds : List PyData} {vs : List V}, Rps K H vs ds → DpAll K H vs ds
  | [], _, h => by cases h; exact .nil
  | d :: ds, _, h => by
    cases h with
    | cons h1 h2 => exact .cons (Rp.dp h1) (Rps.dp h2)
end
end
def Th.size : Th → Int
  | .sum _ _ => 3
  | _ => 2
theorem shapedD_str {y x : Str} {ds : List PyData} {k : Int} : shapedD (.str x) k (.tuple (.str y :: ds)) = (decide (((PyData.str y :: ds).length : Int) = k) && (y == x)) := rfl
theorem Th.shaped {x : Str} {k : Int} : ∀ t : Th, shapedD (.str x) k t.enc = (decide (t.size = k) && (t.word == x))
  | .num _ => shapedD_str
  | .sum _ _ => shapedD_str
  | .cell _ => shapedD_str
  | .own _ => shapedD_str
  | .par _ => shapedD_str
theorem Th.headOk : ∀ t : Th, headOk t.enc
  | .num _ => (by decide +kernel : SeqAt.shaped (.str "num") = true)
  | .sum _ _ => (by decide +kernel : SeqAt.shaped (.str "sum") = true)
  | .cell _ => (by decide +kernel : SeqAt.shaped (.str "cell") = true)
  | .own _ => (by decide +kernel : SeqAt.shaped (.str "own") = true)
  | .par _ => (by decide +kernel : SeqAt.shaped (.str "par") = true)
theorem sd_sum_sum (a b : Th) : shapedD (.str "sum") 3 (Th.sum a b).enc = true :=
  (Th.shaped _).trans (show (decide ((3 : Int) = 3) && (("sum" : Str) == "sum")) = true by decide +kernel)
theorem sd_sum_cell (a b : Th) : shapedD (.str "cell") 2 (Th.sum a b).enc = false :=
  (Th.shaped _).trans (show (decide ((3 : Int) = 2) && (("sum" : Str) == "cell")) = false by decide +kernel)
theorem sd_sum_num (a b : Th) : shapedD (.str "num") 2 (Th.sum a b).enc = false :=
  (Th.shaped _).trans (show (decide ((3 : Int) = 2) && (("sum" : Str) == "num")) = false by decide +kernel)
theorem sd_sum_own (a b : Th) : shapedD (.str "own") 2 (Th.sum a b).enc = false :=
  (Th.shaped _).trans (show (decide ((3 : Int) = 2) && (("sum" : Str) == "own")) = false by decide +kernel)
theorem sd_sum_par (a b : Th) : shapedD (.str "par") 2 (Th.sum a b).enc = false :=
  (Th.shaped _).trans (show (decide ((3 : Int) = 2) && (("sum" : Str) == "par")) = false by decide +kernel)
theorem sd_cell_sum (a : Th) : shapedD (.str "sum") 3 (Th.cell a).enc = false :=
  (Th.shaped _).trans (show (decide ((2 : Int) = 3) && (("cell" : Str) == "sum")) = false by decide +kernel)
theorem sd_cell_cell (a : Th) : shapedD (.str "cell") 2 (Th.cell a).enc = true :=
  (Th.shaped _).trans (show (decide ((2 : Int) = 2) && (("cell" : Str) == "cell")) = true by decide +kernel)
theorem sd_cell_num (a : Th) : shapedD (.str "num") 2 (Th.cell a).enc = false :=
  (Th.shaped _).trans (show (decide ((2 : Int) = 2) && (("cell" : Str) == "num")) = false by decide +kernel)
theorem sd_cell_own (a : Th) : shapedD (.str "own") 2 (Th.cell a).enc = false :=
  (Th.shaped _).trans (show (decide ((2 : Int) = 2) && (("cell" : Str) == "own")) = false by decide +kernel)
theorem sd_cell_par (a : Th) : shapedD (.str "par") 2 (Th.cell a).enc = false :=
  (Th.shaped _).trans (show (decide ((2 : Int) = 2) && (("cell" : Str) == "par")) = false by decide +kernel)
theorem sd_num_sum (k : Nat) : shapedD (.str "sum") 3 (Th.num k).enc = false :=
  (Th.shaped _).trans (show (decide ((2 : Int) = 3) && (("num" : Str) == "sum")) = false by decide +kernel)
theorem sd_num_cell (k : Nat) : shapedD (.str "cell") 2 (Th.num k).enc = false :=
  (Th.shaped _).trans (show (decide ((2 : Int) = 2) && (("num" : Str) == "cell")) = false by decide +kernel)
theorem sd_num_num (k : Nat) : shapedD (.str "num") 2 (Th.num k).enc = true :=
  (Th.shaped _).trans (show (decide ((2 : Int) = 2) && (("num" : Str) == "num")) = true by decide +kernel)
theorem sd_num_own (k : Nat) : shapedD (.str "own") 2 (Th.num k).enc = false :=
  (Th.shaped _).trans (show (decide ((2 : Int) = 2) && (("num" : Str) == "own")) = false by decide +kernel)
theorem sd_num_par (k : Nat) : shapedD (.str "par") 2 (Th.num k).enc = false :=
  (Th.shaped _).trans (show (decide ((2 : Int) = 2) && (("num" : Str) == "par")) = false by decide +kernel)
theorem sd_own_sum (k : Nat) : shapedD (.str "sum") 3 (Th.own k).enc = false :=
  (Th.shaped _).trans (show (decide ((2 : Int) = 3) && (("own" : Str) == "sum")) = false by decide +kernel)
theorem sd_own_cell (k : Nat) : shapedD (.str "cell") 2 (Th.own k).enc = false :=
  (Th.shaped _).trans (show (decide ((2 : Int) = 2) && (("own" : Str) == "cell")) = false by decide +kernel)
theorem sd_own_num (k : Nat) : shapedD (.str "num") 2 (Th.own k).enc = false :=
  (Th.shaped _).trans (show (decide ((2 : Int) = 2) && (("own" : Str) == "num")) = false by decide +kernel)
theorem sd_own_own (k : Nat) : shapedD (.str "own") 2 (Th.own k).enc = true :=
  (Th.shaped _).trans (show (decide ((2 : Int) = 2) && (("own" : Str) == "own")) = true by decide +kernel)
theorem sd_own_par (k : Nat) : shapedD (.str "par") 2 (Th.own k).enc = false :=
  (Th.shaped _).trans (show (decide ((2 : Int) = 2) && (("own" : Str) == "par")) = false by decide +kernel)
theorem sd_par_sum (k : Nat) : shapedD (.str "sum") 3 (Th.par k).enc = false :=
  (Th.shaped _).trans (show (decide ((2 : Int) = 3) && (("par" : Str) == "sum")) = false by decide +kernel)
theorem sd_par_cell (k : Nat) : shapedD (.str "cell") 2 (Th.par k).enc = false :=
  (Th.shaped _).trans (show (decide ((2 : Int) = 2) && (("par" : Str) == "cell")) = false by decide +kernel)
theorem sd_par_num (k : Nat) : shapedD (.str "num") 2 (Th.par k).enc = false :=
  (Th.shaped _).trans (show (decide ((2 : Int) = 2) && (("par" : Str) == "num")) = false by decide +kernel)
theorem sd_par_own (k : Nat) : shapedD (.str "own") 2 (Th.par k).enc = false :=
  (Th.shaped _).trans (show (decide ((2 : Int) = 2) && (("par" : Str) == "own")) = false by decide +kernel)
theorem sd_par_par (k : Nat) : shapedD (.str "par") 2 (Th.par k).enc = true :=
  (Th.shaped _).trans (show (decide ((2 : Int) = 2) && (("par" : Str) == "par")) = true by decide +kernel)
theorem below_nat {k m : Nat} (h : k < m) : belowD (m : Int) (.int (k : Int)) = true :=
  (show (decide (0 ≤ (k : Int)) && decide ((k : Int) < m)) = true from Bool.and_eq_true_iff.mpr ⟨decide_eq_true (by omega), decide_eq_true (by omega)⟩)
theorem plain_num {p o k : Nat} (h : k < 3) : plainD (p : Int) (o : Int) (Th.num k).enc = true := by
  unfold plainD
  rw [sd_num_num, if_pos rfl]
  exact below_nat h
theorem plain_own {p o k : Nat} (h : k < o) : plainD (p : Int) (o : Int) (Th.own k).enc = true := by
  unfold plainD
  rw [sd_own_num, if_neg Bool.false_ne_true, sd_own_own, if_pos rfl]
  exact below_nat h
theorem plain_par {p o k : Nat} (h : k < p) : plainD (p : Int) (o : Int) (Th.par k).enc = true := by
  unfold plainD
  rw [sd_par_num, if_neg Bool.false_ne_true, sd_par_own, if_neg Bool.false_ne_true, sd_par_par, Bool.true_and]
  exact below_nat h
def spNeedThing (K : PySem.W.Frag) (n : Nat) : Sp := fun vs H Q _ => ∃ (wp : Addr) (v b : V) (t : Th) (p o i d : Nat), vs = [.ref wp, v, .int (i : Int)] ∧ SqT K H wp [.int (p : Int), .int (o : Int), b] ∧ Rp K H v t.enc ∧ Th.ok p o d t ∧ i + d ≤ 4 ∧ d < n ∧ Q .non H
abbrev sneed_thing : Stmt := top 22
abbrev nneed_thing : List Str := ["work", "thing", "others"]
abbrev pneed_thing : List Str := ["work", "thing", "others"]
theorem scneed_thing : FnScope nneed_thing pneed_thing (defScope sneed_thing) := ⟨rfl, rfl, rfl, by decide +kernel, rfl, by decide +kernel, by decide +kernel⟩
theorem okNeedThing {tk : Nat → Tok} (D : DefAt K mg "need_thing" sneed_thing pneed_thing) (T : Nrs tk mg) (C_is_shaped : Callee P w K mg base "is_shaped" 1 pis_shaped (spIsShaped K))
    (C_is_plain : Callee P w K mg base "is_plain" 3 pis_plain (spIsPlain K)) : ∀ n : Nat, Callee P w K mg base "need_thing" (n + 4) pneed_thing (spNeedThing K n)
  | 0 => D.none fun vs H Q E h => by
    obtain ⟨wp, v, b, t, p, o, i, d, rfl, _, _, _, _, h, _⟩ := h
    omega
  | n + 1 => by
    have C_need_thing := okNeedThing D T C_is_shaped C_is_plain n
    refine D.ok scneed_thing (fun vs H Q E h => ?_) (fun f cdv A outer s H vs Q E hr h => ?_)
    · obtain ⟨wp, v, b, t, p, o, i, d, rfl, _⟩ := h
      rfl
    obtain ⟨wp, v, b, t, p, o, i, d, rfl, hW, hR, ok, id, dn, q⟩ := h
    refine ⟨_, (pss_cons (ps_if (pt_cmpR op_gt (pv 2) (pe_glob (v := .int 4) rfl T.MOST_OTHERS ⟨_, rfl⟩) (nomark _)) pss_never pss_nil)
  (pss_one (ps_if (pt_val (pcall C_is_shaped (hr.mono (by omega)) rfl (pa_cons (pv 1) (pa_cons pe_str (pa_cons pe_int pa_nil))))) (pss_cons (ps_expr (pcall C_need_thing (hr.mono (by omega)) rfl (pa_cons (pv 0) (pa_cons (pe_ix (ixT (K := K)) (pv 1) pe_int (fun _ _ => rfl)) (pa_cons (pe_op op_add (pv 2) pe_int) pa_nil)))))
  (pss_one (ps_expr (pcall C_need_thing (hr.mono (by omega)) rfl (pa_cons (pv 0) (pa_cons (pe_ix (ixT (K := K)) (pv 1) pe_int (fun _ _ => rfl)) (pa_cons (pe_op op_add (pv 2) pe_int) pa_nil))))))) (pss_one (ps_if (pt_val (pcall C_is_shaped (hr.mono (by omega)) rfl (pa_cons (pv 1) (pa_cons pe_str (pa_cons pe_int pa_nil))))) (pss_one (ps_expr (pcall C_need_thing (hr.mono (by omega)) rfl (pa_cons (pv 0) (pa_cons (pe_ix (ixT (K := K)) (pv 1) pe_int (fun _ _ => rfl)) (pa_cons (pe_op op_add (pv 2) pe_int) pa_nil)))))) (pss_one (ps_if (pt_not (pt_val (pcall C_is_plain (hr.mono (by omega)) rfl (pa_cons (pv 0) (pa_cons (pv 1) pa_nil))))) pss_never pss_nil))))))), ?_⟩
    walk_at "rd"
    refine ite2 (fun c => absurd (of_decide_eq_true c) (by omega)) (fun _ => ?_)
    walk_at "rd"
    refine ask ⟨v, t.enc, "sum", 3, rfl, hR.dp, t.headOk, by decide +kernel, by decide, ?_⟩
    walk_at "rd"
    have step : ∀ (x : V) (u : Th) (e : Nat) (Q0 : VK), Rp K H x u.enc → Th.ok p o e u → e < d → Q0 .non H → spNeedThing K n [.ref wp, x, .int ((i : Int) + 1)] H Q0 E0 := fun x u e Q0 hx hu he hq =>
      ⟨wp, x, b, u, p, o, i + 1, e, by rw [Int.natCast_add]; rfl, hW, hx, hu, by omega, by omega, hq⟩
    cases t with
    | sum t1 t2 =>
      obtain ⟨a, v1, v2, rfl, hT, h1, h2⟩ := Th.inv_sum hR
      cases d with
      | zero => exact ok.elim
      | succ d =>
        have at1 : atI [.str "sum", v1, v2] 1 = some v1 := atI_nat (xs := [.str "sum", v1, v2]) (j := 1) rfl
        have at2 : atI [.str "sum", v1, v2] 2 = some v2 := atI_nat (xs := [.str "sum", v1, v2]) (j := 2) rfl
        rw [sd_sum_sum, if_pos rfl]
        walk_at "rd"
        refine ask (step v1 t1 d _ h1 ok.1 (by omega) ?_)
        walk_at "rd"
        refine ask (step v2 t2 d _ h2 ok.2 (by omega) ?_)
        walk_at "rd"
        exact q
    | cell t1 =>
      obtain ⟨a, v1, rfl, hT, h1⟩ := Th.inv_cell hR
      cases d with
      | zero => exact ok.elim
      | succ d =>
        have at1 : atI [.str "cell", v1] 1 = some v1 := atI_nat (xs := [.str "cell", v1]) (j := 1) rfl
        rw [sd_cell_sum, if_neg Bool.false_ne_true]
        walk_at "rd"
        refine ask ⟨_, _, "cell", 2, rfl, hR.dp, Th.headOk _, by decide +kernel, by decide, ?_⟩
        walk_at "rd"
        rw [sd_cell_cell, if_pos rfl]
        walk_at "rd"
        refine ask (step v1 t1 d _ h1 ok (by omega) ?_)
        walk_at "rd"
        exact q
    | num k =>
      rw [sd_num_sum, if_neg Bool.false_ne_true]
      walk_at "rd"
      refine ask ⟨_, _, "cell", 2, rfl, hR.dp, Th.headOk _, by decide +kernel, by decide, ?_⟩
      walk_at "rd"
      rw [sd_num_cell, if_neg Bool.false_ne_true]
      walk_at "rd"
      refine ask ⟨wp, v, b, _, p, o, rfl, hW, hR.dp, Th.headOk _, ?_⟩
      walk_at "rd"
      rw [if_neg (by rw [plain_num (by cases d <;> exact ok)]; exact Bool.false_ne_true)]
      walk_at "rd"
      exact q
    | own k =>
      rw [sd_own_sum, if_neg Bool.false_ne_true]
      walk_at "rd"
      refine ask ⟨_, _, "cell", 2, rfl, hR.dp, Th.headOk _, by decide +kernel, by decide, ?_⟩
      walk_at "rd"
      rw [sd_own_cell, if_neg Bool.false_ne_true]
      walk_at "rd"
      refine ask ⟨wp, v, b, _, p, o, rfl, hW, hR.dp, Th.headOk _, ?_⟩
      walk_at "rd"
      rw [if_neg (by rw [plain_own (by cases d <;> exact ok)]; exact Bool.false_ne_true)]
      walk_at "rd"
      exact q
    | par k =>
      rw [sd_par_sum, if_neg Bool.false_ne_true]
      walk_at "rd"
      refine ask ⟨_, _, "cell", 2, rfl, hR.dp, Th.headOk _, by decide +kernel, by decide, ?_⟩
      walk_at "rd"
      rw [sd_par_cell, if_neg Bool.false_ne_true]
      walk_at "rd"
      refine ask ⟨wp, v, b, _, p, o, rfl, hW, hR.dp, Th.headOk _, ?_⟩
      walk_at "rd"
      rw [if_neg (by rw [plain_par (by cases d <;> exact ok)]; exact Bool.false_ne_true)]
      walk_at "rd"
      exact q
end
end Hw
namespace Hw
open PySem PySem.Spec PyProof.Rows L2
local macro_rules | `(tactic| walk_at "sz") => `(tactic| first | exact Nat.le_of_ble_eq_true rfl | exact small (by first | omega | (simp; done) | (simp; omega)))
local macro_rules | `(tactic| walk_at "szT") => `(tactic| first | exact Nat.lt_of_lt_of_le (Nat.lt_succ_self _) (Nat.le_of_ble_eq_true rfl) | exact smallT (by first | omega | (simp; done) | (simp; omega)))
local macro_rules | `(tactic| walk_at "cond") => `(tactic| first | decide | omega | (dsimp only; omega) | exact ⟨by omega, by omega⟩ | exact .inr ⟨by decide, by decide⟩)
local macro_rules | `(tactic| walk_at "sq") => `(tactic| first | assumption | exact SqL.of (by assumption) | exact SqT.of (by assumption))
local macro_rules | `(tactic| walk_at "ty") => `(tactic| first | (with_reducible assumption) | exact .base (.int _) | exact .base (.str _) | exact .base (.bl _) | exact .base .non | exact tyT (by walk_at "sq") | exact tyL (by walk_at "sq"))
local macro_rules | `(tactic| walk_at "rd1") => `(tactic| first
  | ((with_reducible apply r_seq))
  | ((with_reducible apply r_asg))
  | ((with_reducible apply r_name))
  | ((with_reducible apply r_op))
  | ((with_reducible apply r_var); exact rfl)
  | ((with_reducible apply r_c))
  | ((with_reducible apply r_ixT); (walk_at "sq"); first | exact rfl | assumption)
  | ((with_reducible apply r_ixL); (walk_at "sq"); first | exact rfl | assumption)
  | ((with_reducible apply r_ixA); (first | exact .inl (by walk_at "sq") | exact .inr (by walk_at "sq")); first | exact rfl | assumption)
  | ((with_reducible apply r_isi); (walk_at "ty"); (decide +kernel))
  | ((with_reducible apply r_isiT2); assumption; (walk_at "ty"); (decide +kernel); (decide +kernel))
  | ((with_reducible apply r_I0))
  | ((with_reducible apply r_I); (walk_at "cond"))
  | ((with_reducible apply r_eq); exact rfl)
  | ((with_reducible apply r_ne); exact rfl)
  | ((with_reducible apply r_test))
  | ((with_reducible apply r_bl))
  | ((with_reducible apply r_if))
  | ((with_reducible apply r_nil))
  | ((with_reducible apply r_cons))
  | ((with_reducible apply r_call))
  | ((with_reducible apply r_cb))
  | ((with_reducible apply r_tup))
  | ((with_reducible apply r_lst))
  | ((with_reducible apply new); (walk_at "sz"))
  | ((with_reducible apply r_ret))
  | ((with_reducible apply r_retN))
  | ((with_reducible apply r_next))
  | ((with_reducible apply r_drop))
  | ((with_reducible apply r_lenL); (walk_at "sq"))
  | ((with_reducible apply r_lenT); (walk_at "sq"))
  | ((with_reducible apply r_int))
  | ((with_reducible apply r_intB))
  | ((with_reducible apply r_isN))
  | ((with_reducible apply r_notN))
  | ((with_reducible apply r_B))
  | ((with_reducible apply r_not))
  | ((with_reducible apply r_notV))
  | ((with_reducible apply r_andV))
  | ((with_reducible apply r_orV))
  | ((with_reducible apply r_ifE))
  | ((with_reducible apply r_chain))
  | ((with_reducible apply ite_t); (first | (with_reducible exact nRN) | (with_reducible exact nIN) | (with_reducible exact dNN) | decide +kernel))
  | ((with_reducible apply ite_f); (first | (with_reducible exact dRN) | (with_reducible exact dIN) | (with_reducible exact nNN) | decide +kernel))
  | ((with_reducible apply r_in); (first | exact .inl (by walk_at "sq") | exact .inr (by walk_at "sq")); exact rfl; (first | exact nums_flat | exact rfl))
  | ((with_reducible apply turn))
  | ((with_reducible apply r_for))
  | ((with_reducible apply r_iRng1))
  | ((with_reducible apply r_rng); (first | decide | omega | (simp; omega)); (first | decide | omega | (simp; omega)))
  | ((with_reducible apply r_iList))
  | ((with_reducible apply r_iTup))
  | ((with_reducible apply r_overL); (walk_at "sq"))
  | ((with_reducible apply r_overT); (walk_at "sq"))
  | ((with_reducible apply r_lc))
  | ((with_reducible apply acc); assumption; (walk_at "szT"))
  | ((with_reducible apply r_sub))
  | ((with_reducible apply r_setL); assumption; exact rfl)
  | ((with_reducible apply r_gtup); (walk_at "sq"); rfl)
  | ((with_reducible apply r_gnil))
  | ((with_reducible apply r_gcons))
  | ((with_reducible apply r_par))
  | ((with_reducible apply r_par2))
  | ((with_reducible apply r_sl))
  | ((with_reducible apply r_part))
  | ((with_reducible apply r_part1))
  | ((with_reducible apply r_noPart))
  | ((with_reducible apply r_slL); (walk_at "sq"))
  | ((with_reducible apply r_slA); (walk_at "sq"))
  | ((with_reducible apply r_tupL); (walk_at "sq"))
  | ((with_reducible apply r_tupT); (walk_at "sq"))
  | ((with_reducible apply r_lstL); (walk_at "sq"))
  | ((with_reducible apply r_lstT); (walk_at "sq"))
  | ((with_reducible apply r_append))
  | ((with_reducible apply r_isL); (walk_at "sq"))
  | ((with_reducible apply r_app); assumption; (walk_at "szT"))
  | ((with_reducible apply r_dget))
  | ((with_reducible apply r_dgetS); assumption; (walk_at "dk"))
  | ((with_reducible apply r_dput))
  | ((with_reducible apply r_dputS); assumption; (walk_at "szT"))
  | ((with_reducible apply r_disp))
  | ((with_reducible apply r_pnil))
  | ((with_reducible apply r_pcons))
  | ((with_reducible apply r_fld))
  | ((with_reducible apply r_fld1); assumption; assumption; assumption; (first | exact rfl | assumption))
  | ((with_reducible apply r_sfld))
  | ((with_reducible apply r_sfld1); assumption; assumption; assumption; exact (by decide)))
local macro_rules | `(tactic| walk_at "rd") => `(tactic| repeat walk_at "rd1")
section
variable {P : Program} {w : World} {K : PySem.W.Frag} {mg : Str → Option Value} {base : Heap}
/-! ### programs.py: need_place, need_call, of what is well -/
/-- the program's own numbers and tuples -/
structure Cst (K : PySem.W.Frag) (tk : Nat → Tok) (aP aW : Addr) (mg : Str → Option Value) : Prop extends Nrs tk mg where
  PLACES : mg "PLACES" = some (.ref aP)
  WAYS : mg "WAYS" = some (.ref aW)
  sqP : SqT K (fun _ => none) aP [.str "cell", .str "own", .str "par"]
  sqW : SqT K (fun _ => none) aW [.str "copy", .str "place", .str "back", .str "want"]
theorem sqT_of_none {a : Addr} {xs : List V} {H : Hp} (h : SqT K (fun _ => none) a xs) : SqT K H a xs := by
  rcases h with (h | ⟨o, h⟩) | h
  · cases h
  · cases h
  · exact .inr h
def spNeedPlace (K : PySem.W.Frag) : Sp := fun vs H Q _ => ∃ (wp : Addr) (v b : V) (t : Th) (p o : Nat), vs = [.ref wp, v] ∧ SqT K H wp [.int (p : Int), .int (o : Int), b] ∧ Rp K H v t.enc ∧ Th.ok p o 4 t ∧ t.isPlace = true ∧ Q .non H
abbrev sneed_place : Stmt := top 21
abbrev nneed_place : List Str := ["work", "place"]
abbrev pneed_place : List Str := ["work", "place"]
theorem scneed_place : FnScope nneed_place pneed_place (defScope sneed_place) := ⟨rfl, rfl, rfl, by decide +kernel, rfl, by decide +kernel, by decide +kernel⟩
abbrev sneed_call : Stmt := top 20
abbrev nneed_call : List Str := ["program", "at", "called", "things", "thing"]
abbrev pneed_call : List Str := ["program", "at", "called", "things"]
theorem scneed_call : FnScope nneed_call pneed_call (defScope sneed_call) := ⟨rfl, rfl, rfl, by decide +kernel, rfl, by decide +kernel, by decide +kernel⟩
theorem okNeedPlace {tk : Nat → Tok} {aP aW : Addr} (D : DefAt K mg "need_place" sneed_place pneed_place) (T : Cst K tk aP aW mg) (C_need_thing : Callee P w K mg base "need_thing" 9 pneed_thing (spNeedThing K 5)) :
    Callee P w K mg base "need_place" 10 pneed_place (spNeedPlace K) := by
  refine D.ok scneed_place (fun vs H Q E h => ?_) (fun f cdv A outer s H vs Q E hr h => ?_)
  · obtain ⟨wp, v, b, t, p, o, rfl, _⟩ := h
    rfl
  obtain ⟨wp, v, b, t, p, o, rfl, hW, hR, ok, ip, q⟩ := h
  refine ⟨_, (pss_cons (ps_expr (pcall C_need_thing (hr.mono (by omega)) rfl (pa_cons (pv 0) (pa_cons (pv 1) (pa_cons pe_int pa_nil)))))
  (pss_one (ps_if (pt_cmpR (opNotIn (K := K)) (pe_ix (ixT (K := K)) (pv 1) pe_int (fun _ _ => rfl)) (pe_glob (v := .ref _) rfl T.PLACES rfl) (by with_unfolding_all rfl)) pss_never pss_nil))), ?_⟩
  walk_at "rd"
  refine ask ⟨wp, v, b, t, p, o, 0, 4, rfl, hW, hR, ok, by omega, by omega, ?_⟩
  obtain ⟨a, r, rfl, hT⟩ := Th.head hR
  have hP : SqT K H aP [.str "cell", .str "own", .str "par"] := sqT_of_none T.sqP
  have at0 : atI (.str t.word :: r) 0 = some (.str t.word) := atI_nat (xs := .str t.word :: r) (j := 0) rfl
  walk_at "rd"
  rw [if_pos rfl, if_neg (by cases t <;> first | (cases ip; done) | exact (by decide +kernel : ¬ (!inV (V.str "cell") [V.str "cell", V.str "own", V.str "par"]) = true) | exact (by decide +kernel : ¬ (!inV (V.str "own") [V.str "cell", V.str "own", V.str "par"]) = true) | exact (by decide +kernel : ¬ (!inV (V.str "par") [V.str "cell", V.str "own", V.str "par"]) = true))]
  walk_at "rd"
  exact q
theorem encP_at {H : Hp} {v : V} {P : List Wk} (h : Rp K H v (encP P)) : ∃ a xs, v = .ref a ∧ SqT K H a xs ∧ xs.length = P.length ∧ ∀ (i : Nat) (wk : Wk), P[i]? = some wk → ∃ wp b, atI xs (i : Int) = some (.ref wp) ∧ SqT K H wp [.int (wk.params : Int), .int (wk.owns : Int), b] ∧ Rp K H b (.tuple wk.body.encs) := by
  obtain ⟨a, xs, rfl, hT, hx⟩ := h.tup_inv
  refine ⟨a, xs, rfl, hT, hx.length.trans (List.length_map _), fun i wk e => ?_⟩
  obtain ⟨u, eu, hu⟩ := hx.get (i := i) (d := wk.enc) (by rw [List.getElem?_map, e]; rfl)
  obtain ⟨wp, ys, rfl, hW, hy⟩ := Rp.tup_inv hu
  obtain ⟨v0, r0, rfl, g0, gr⟩ := hy.inv
  obtain ⟨v1, r1, rfl, g1, gr1⟩ := gr.inv
  obtain ⟨v2, r2, rfl, g2, gr2⟩ := gr1.inv
  cases gr2.inv0
  cases g0.int_inv
  cases g1.int_inv
  exact ⟨wp, v2, atI_nat eu, hW, g2⟩
def spNeedCall (K : PySem.W.Frag) : Sp := fun vs H Q _ => ∃ (pp : Addr) (P : List Wk) (i c : Nat) (wk wc : Wk) (v : V) (ts : List Th), vs = [.ref pp, .int (i : Int), .int (c : Int), v] ∧ Rp K H (.ref pp) (encP P) ∧ P[i]? = some wk ∧ P[c]? = some wc ∧ i < c ∧ Rp K H v (.tuple (ts.map Th.enc)) ∧ ts.length = wc.params ∧
  (∀ t ∈ ts, Th.ok wk.params wk.owns 4 t) ∧ Q .non H
theorem okNeedCall {tk : Nat → Tok} {aP aW : Addr} (D : DefAt K mg "need_call" sneed_call pneed_call) (T : Cst K tk aP aW mg) (C_is_below : Callee P w K mg base "is_below" 1 pis_below (spIsBelow K)) (C_need_thing : Callee P w K mg base "need_thing" 9 pneed_thing (spNeedThing K 5)) :
    Callee P w K mg base "need_call" 10 pneed_call (spNeedCall K) := by
  refine D.ok scneed_call (fun vs H Q E h => ?_) (fun f cdv A outer s H vs Q E hr h => ?_)
  · obtain ⟨pp, P, i, c, wk, wc, v, ts, rfl, _⟩ := h
    rfl
  obtain ⟨pp, P, i, c, wk, wc, v, ts, rfl, hP, ei, ec, ic, hR, lt, okt, q⟩ := h
  obtain ⟨a, xs, eA, hT, hl, hat⟩ := encP_at hP
  cases eA
  obtain ⟨wp, b, eW, hW, _⟩ := hat i wk ei
  obtain ⟨cp, bc, eC, hC, _⟩ := hat c wc ec
  obtain ⟨tp, vs, rfl, hV, hvs⟩ := hR.tup_inv
  have cl : c < xs.length := by
    rw [hl]
    exact (List.getElem?_eq_some_iff.mp ec).1
  have at0 : atI [.int (wc.params : Int), .int (wc.owns : Int), bc] 0 = some (.int (wc.params : Int)) := atI_nat (xs := [.int (wc.params : Int), .int (wc.owns : Int), bc]) (j := 0) rfl
  refine ⟨_, (pss_cons (ps_if (PW.pt (pw_or (pt_not (pt_val (pcall C_is_below (hr.mono (by omega)) rfl (pa_cons (pv 2) (pa_cons (pe_callB (cLen (K := K)) (by rfl) T.len PySem.boot_len (pa_cons (pv 0) pa_nil)) pa_nil))))) (pw_or1 (pt_cmpR op_le (pv 2) (pv 1) (nomark _))))) pss_never pss_nil)
  (pss_cons (ps_if (PW.pt (pw_or (pt_not (pt_val (pe_callB (cIsi (K := K)) (by rfl) T.isinstance (by decide +kernel) (pa_cons (pv 3) (pa_cons (pe_bltn rfl T.tuple (by decide +kernel) (v := .ty "tuple") rfl) pa_nil))))) (pw_or1 (pt_cmpR op_ne (pe_callB (cLen (K := K)) (by rfl) T.len PySem.boot_len (pa_cons (pv 3) pa_nil)) (pe_ix (ixT (K := K)) (pe_ix (ixT (K := K)) (pv 0) (pv 2) (fun _ _ => rfl)) pe_int (fun _ _ => rfl)) (nomark _))))) pss_never pss_nil)
  (pss_one (ps_for PassesOwn.never rfl (piTup (K := K) (pv 3)) (pg_name (i := 4) scneed_call.nd rfl (Or.inl rfl))
   (pss_one (ps_expr (pcall C_need_thing (hr.mono (by omega)) rfl (pa_cons (pe_ix (ixT (K := K)) (pv 0) (pv 1) (fun _ _ => rfl)) (pa_cons (pv 4) (pa_cons pe_int pa_nil)))))))))), ?_⟩
  walk_at "rd"
  refine r_orI (a := false) (fun R hr => ?_) (fun _ => ?_) (fun z => nomatch z)
  · walk_at "rd"
    refine ask ⟨.int (c : Int), .int (c : Int), ((xs.length : Nat) : Int), rfl, .int _, ?_⟩
    rw [below_nat cl]
    walk_at "rd"
    exact hr
  walk_at "rd"
  rw [if_neg (by rw [decide_eq_false (by omega)]; exact Bool.false_ne_true)]
  walk_at "rd"
  have lv : vs.length = wc.params := by
    rw [hvs.length, List.length_map, lt]
  refine r_orP (a := !kb "tuple" "tuple") (b := !decide ((V.int (vs.length : Int)) = V.int (wc.params : Int))) (fun R hr => by walk_at "rd"; exact hr) (fun _ R hr => by walk_at "rd"; exact hr) ?_
  rw [if_neg (by
    rw [decide_eq_true (by rw [lv])]
    exact (by decide +kernel : ¬ (!kb "tuple" "tuple" || !true) = true))]
  walk_at "rd"
  refine forT (xs := vs) (fun j σ H' => H' = H ∧ ∃ x4 : Option V, σ = [some (.ref pp), some (.int (i : Int)), some (.int (c : Int)), some (.ref tp), x4]) ⟨rfl, none, rfl⟩ (fun j σ H' _ hp => ?_) (fun j x σ H' hx hp => ?_) (fun σ H' hp => ?_)
  · obtain ⟨rfl, x4, rfl⟩ := hp
    exact hV
  · obtain ⟨rfl, x4, rfl⟩ := hp
    obtain ⟨d, ed, rd⟩ := hvs.get' hx
    rw [List.getElem?_map] at ed
    obtain ⟨t, et, rfl⟩ := Option.map_eq_some_iff.mp ed
    walk_at "rd"
    refine ask ⟨wp, x, b, t, wk.params, wk.owns, 0, 4, rfl, hW, rd, okt t (List.mem_of_getElem? et), by omega, by omega, ?_⟩
    walk_at "rd"
    exact ⟨rfl, _, rfl⟩
  · obtain ⟨rfl, x4, rfl⟩ := hp
    exact q
end
end Hw
namespace Hw
open PySem PySem.Spec PyProof.Rows L2
local macro_rules | `(tactic| walk_at "sz") => `(tactic| first | exact Nat.le_of_ble_eq_true rfl | exact small (by first | omega | (simp; done) | (simp; omega)))
local macro_rules | `(tactic| walk_at "szT") => `(tactic| first | exact Nat.lt_of_lt_of_le (Nat.lt_succ_self _) (Nat.le_of_ble_eq_true rfl) | exact smallT (by first | omega | (simp; done) | (simp; omega)))
local macro_rules | `(tactic| walk_at "cond") => `(tactic| first | decide | omega | (dsimp only; omega) | exact ⟨by omega, by omega⟩ | exact .inr ⟨by decide, by decide⟩)
local macro_rules | `(tactic| walk_at "sq") => `(tactic| first | assumption | exact SqL.of (by assumption) | exact SqT.of (by assumption))
local macro_rules | `(tactic| walk_at "ty") => `(tactic| first | (with_reducible assumption) | exact .base (.int _) | exact .base (.str _) | exact .base (.bl _) | exact .base .non | exact tyT (by walk_at "sq") | exact tyL (by walk_at "sq"))
local macro_rules | `(tactic| walk_at "rd1") => `(tactic| first
  | ((with_reducible apply r_seq))
  | ((with_reducible apply r_asg))
  | ((with_reducible apply r_name))
  | ((with_reducible apply r_op))
  | ((with_reducible apply r_var); exact rfl)
  | ((with_reducible apply r_c))
  | ((with_reducible apply r_ixT); (walk_at "sq"); first | exact rfl | assumption)
  | ((with_reducible apply r_ixL); (walk_at "sq"); first | exact rfl | assumption)
  | ((with_reducible apply r_ixA); (first | exact .inl (by walk_at "sq") | exact .inr (by walk_at "sq")); first | exact rfl | assumption)
  | ((with_reducible apply r_isi); (walk_at "ty"); (decide +kernel))
  | ((with_reducible apply r_isiT2); assumption; (walk_at "ty"); (decide +kernel); (decide +kernel))
  | ((with_reducible apply r_I0))
  | ((with_reducible apply r_I); (walk_at "cond"))
  | ((with_reducible apply r_eq); exact rfl)
  | ((with_reducible apply r_ne); exact rfl)
  | ((with_reducible apply r_test))
  | ((with_reducible apply r_bl))
  | ((with_reducible apply r_if))
  | ((with_reducible apply r_nil))
  | ((with_reducible apply r_cons))
  | ((with_reducible apply r_call))
  | ((with_reducible apply r_cb))
  | ((with_reducible apply r_tup))
  | ((with_reducible apply r_lst))
  | ((with_reducible apply new); (walk_at "sz"))
  | ((with_reducible apply r_ret))
  | ((with_reducible apply r_retN))
  | ((with_reducible apply r_next))
  | ((with_reducible apply r_drop))
  | ((with_reducible apply r_lenL); (walk_at "sq"))
  | ((with_reducible apply r_lenT); (walk_at "sq"))
  | ((with_reducible apply r_int))
  | ((with_reducible apply r_intB))
  | ((with_reducible apply r_isN))
  | ((with_reducible apply r_notN))
  | ((with_reducible apply r_B))
  | ((with_reducible apply r_not))
  | ((with_reducible apply r_notV))
  | ((with_reducible apply r_andV))
  | ((with_reducible apply r_orV))
  | ((with_reducible apply r_ifE))
  | ((with_reducible apply r_chain))
  | ((with_reducible apply ite_t); (first | (with_reducible exact nRN) | (with_reducible exact nIN) | (with_reducible exact dNN) | decide +kernel))
  | ((with_reducible apply ite_f); (first | (with_reducible exact dRN) | (with_reducible exact dIN) | (with_reducible exact nNN) | decide +kernel))
  | ((with_reducible apply r_in); (first | exact .inl (by walk_at "sq") | exact .inr (by walk_at "sq")); exact rfl; (first | exact nums_flat | exact rfl))
  | ((with_reducible apply turn))
  | ((with_reducible apply r_for))
  | ((with_reducible apply r_iRng1))
  | ((with_reducible apply r_rng); (first | decide | omega | (simp; omega)); (first | decide | omega | (simp; omega)))
  | ((with_reducible apply r_iList))
  | ((with_reducible apply r_iTup))
  | ((with_reducible apply r_overL); (walk_at "sq"))
  | ((with_reducible apply r_overT); (walk_at "sq"))
  | ((with_reducible apply r_lc))
  | ((with_reducible apply acc); assumption; (walk_at "szT"))
  | ((with_reducible apply r_sub))
  | ((with_reducible apply r_setL); assumption; exact rfl)
  | ((with_reducible apply r_gtup); (walk_at "sq"); rfl)
  | ((with_reducible apply r_gnil))
  | ((with_reducible apply r_gcons))
  | ((with_reducible apply r_par))
  | ((with_reducible apply r_par2))
  | ((with_reducible apply r_sl))
  | ((with_reducible apply r_part))
  | ((with_reducible apply r_part1))
  | ((with_reducible apply r_noPart))
  | ((with_reducible apply r_slL); (walk_at "sq"))
  | ((with_reducible apply r_slA); (walk_at "sq"))
  | ((with_reducible apply r_tupL); (walk_at "sq"))
  | ((with_reducible apply r_tupT); (walk_at "sq"))
  | ((with_reducible apply r_lstL); (walk_at "sq"))
  | ((with_reducible apply r_lstT); (walk_at "sq"))
  | ((with_reducible apply r_append))
  | ((with_reducible apply r_isL); (walk_at "sq"))
  | ((with_reducible apply r_app); assumption; (walk_at "szT"))
  | ((with_reducible apply r_dget))
  | ((with_reducible apply r_dgetS); assumption; (walk_at "dk"))
  | ((with_reducible apply r_dput))
  | ((with_reducible apply r_dputS); assumption; (walk_at "szT"))
  | ((with_reducible apply r_disp))
  | ((with_reducible apply r_pnil))
  | ((with_reducible apply r_pcons))
  | ((with_reducible apply r_fld))
  | ((with_reducible apply r_fld1); assumption; assumption; assumption; (first | exact rfl | assumption))
  | ((with_reducible apply r_sfld))
  | ((with_reducible apply r_sfld1); assumption; assumption; assumption; exact (by decide)))
local macro_rules | `(tactic| walk_at "rd") => `(tactic| repeat walk_at "rd1")
section
variable {P : Program} {w : World} {K : PySem.W.Frag} {mg : Str → Option Value} {base : Heap}
/-! ### programs.py: need_step, need_body, of what is well -/
theorem St.headOk : ∀ s : St, headOk s.enc
  | .set _ _ => (by decide +kernel : SeqAt.shaped (.str "set") = true)
  | .say _ => (by decide +kernel : SeqAt.shaped (.str "say") = true)
  | .ite _ _ _ => (by decide +kernel : SeqAt.shaped (.str "if") = true)
  | .call _ _ => (by decide +kernel : SeqAt.shaped (.str "call") = true)
theorem ss_set_set (p t : Th) : shapedD (.str "set") 3 (St.set p t).enc = true :=
  shapedD_str.trans (show (decide ((3 : Int) = 3) && (("set" : Str) == "set")) = true by decide +kernel)
theorem ss_set_say (p t : Th) : shapedD (.str "say") 2 (St.set p t).enc = false :=
  shapedD_str.trans (show (decide ((3 : Int) = 2) && (("set" : Str) == "say")) = false by decide +kernel)
theorem ss_set_ite (p t : Th) : shapedD (.str "if") 4 (St.set p t).enc = false :=
  shapedD_str.trans (show (decide ((3 : Int) = 4) && (("set" : Str) == "if")) = false by decide +kernel)
theorem ss_set_call (p t : Th) : shapedD (.str "call") 3 (St.set p t).enc = false :=
  shapedD_str.trans (show (decide ((3 : Int) = 3) && (("set" : Str) == "call")) = false by decide +kernel)
theorem ss_say_set (t : Th) : shapedD (.str "set") 3 (St.say t).enc = false :=
  shapedD_str.trans (show (decide ((2 : Int) = 3) && (("say" : Str) == "set")) = false by decide +kernel)
theorem ss_say_say (t : Th) : shapedD (.str "say") 2 (St.say t).enc = true :=
  shapedD_str.trans (show (decide ((2 : Int) = 2) && (("say" : Str) == "say")) = true by decide +kernel)
theorem ss_say_ite (t : Th) : shapedD (.str "if") 4 (St.say t).enc = false :=
  shapedD_str.trans (show (decide ((2 : Int) = 4) && (("say" : Str) == "if")) = false by decide +kernel)
theorem ss_say_call (t : Th) : shapedD (.str "call") 3 (St.say t).enc = false :=
  shapedD_str.trans (show (decide ((2 : Int) = 3) && (("say" : Str) == "call")) = false by decide +kernel)
theorem ss_ite_set (t : Th) (a b : Sts) : shapedD (.str "set") 3 (St.ite t a b).enc = false :=
  shapedD_str.trans (show (decide ((4 : Int) = 3) && (("if" : Str) == "set")) = false by decide +kernel)
theorem ss_ite_say (t : Th) (a b : Sts) : shapedD (.str "say") 2 (St.ite t a b).enc = false :=
  shapedD_str.trans (show (decide ((4 : Int) = 2) && (("if" : Str) == "say")) = false by decide +kernel)
theorem ss_ite_ite (t : Th) (a b : Sts) : shapedD (.str "if") 4 (St.ite t a b).enc = true :=
  shapedD_str.trans (show (decide ((4 : Int) = 4) && (("if" : Str) == "if")) = true by decide +kernel)
theorem ss_ite_call (t : Th) (a b : Sts) : shapedD (.str "call") 3 (St.ite t a b).enc = false :=
  shapedD_str.trans (show (decide ((4 : Int) = 3) && (("if" : Str) == "call")) = false by decide +kernel)
theorem ss_call_set (k : Nat) (ts : List Th) : shapedD (.str "set") 3 (St.call k ts).enc = false :=
  shapedD_str.trans (show (decide ((3 : Int) = 3) && (("call" : Str) == "set")) = false by decide +kernel)
theorem ss_call_say (k : Nat) (ts : List Th) : shapedD (.str "say") 2 (St.call k ts).enc = false :=
  shapedD_str.trans (show (decide ((3 : Int) = 2) && (("call" : Str) == "say")) = false by decide +kernel)
theorem ss_call_ite (k : Nat) (ts : List Th) : shapedD (.str "if") 4 (St.call k ts).enc = false :=
  shapedD_str.trans (show (decide ((3 : Int) = 4) && (("call" : Str) == "if")) = false by decide +kernel)
theorem ss_call_call (k : Nat) (ts : List Th) : shapedD (.str "call") 3 (St.call k ts).enc = true :=
  shapedD_str.trans (show (decide ((3 : Int) = 3) && (("call" : Str) == "call")) = true by decide +kernel)
theorem shapes_at {P : List Wk} {i : Nat} {wk : Wk} (e : P[i]? = some wk) : (shapes P).getD i (0, 0) = (wk.params, wk.owns) := by
  rw [List.getD_eq_getElem?_getD]
  unfold shapes
  rw [List.getElem?_map, e]
  rfl
theorem St.ok_set' {sh : List (Nat × Nat)} {i d : Nat} {p t : Th} (h : St.ok sh i d (.set p t)) : p.isPlace = true ∧ Th.ok (sh.getD i (0, 0)).1 (sh.getD i (0, 0)).2 4 p ∧ Th.ok (sh.getD i (0, 0)).1 (sh.getD i (0, 0)).2 4 t := by
  cases d <;> (unfold St.ok at h; exact h)
theorem St.ok_say' {sh : List (Nat × Nat)} {i d : Nat} {t : Th} (h : St.ok sh i d (.say t)) : Th.ok (sh.getD i (0, 0)).1 (sh.getD i (0, 0)).2 4 t := by
  cases d <;> (unfold St.ok at h; exact h)
theorem St.ok_call' {sh : List (Nat × Nat)} {i d k : Nat} {ts : List Th} (h : St.ok sh i d (.call k ts)) : i < k ∧ k < sh.length ∧ ts.length = (sh.getD k (0, 0)).1 ∧ ∀ t ∈ ts, Th.ok (sh.getD i (0, 0)).1 (sh.getD i (0, 0)).2 4 t := by
  cases d <;> (unfold St.ok at h; exact h)
def spNeedStep (K : PySem.W.Frag) (n : Nat) : Sp := fun vs H Q _ => ∃ (pp : Addr) (P : List Wk) (i d h c : Nat) (wk : Wk) (v : V) (s : St), vs = [.ref pp, .int (i : Int), v, .int (h : Int), .int ((c : Int) + 1)] ∧ Rp K H (.ref pp) (encP P) ∧ P[i]? = some wk ∧ Rp K H v s.enc ∧
  St.ok (shapes P) i d s ∧ h + d ≤ 4 ∧ d < n ∧ c + s.many ≤ 100 ∧ Q (.int ((c + s.many : Nat) : Int)) H
def spNeedBody (K : PySem.W.Frag) (n : Nat) : Sp := fun vs H Q _ => ∃ (pp : Addr) (P : List Wk) (i d h c : Nat) (wk : Wk) (v : V) (s : Sts), vs = [.ref pp, .int (i : Int), v, .int (h : Int), .int (c : Int)] ∧ Rp K H (.ref pp) (encP P) ∧ P[i]? = some wk ∧ Rp K H v (.tuple s.encs) ∧
  Sts.ok (shapes P) i d s ∧ h + d ≤ 4 ∧ d < n ∧ c + s.many ≤ 100 ∧ Q (.int ((c + s.many : Nat) : Int)) H
abbrev sneed_step : Stmt := top 19
abbrev nneed_step : List Str := ["program", "at", "step", "others", "count", "work"]
abbrev pneed_step : List Str := ["program", "at", "step", "others", "count"]
theorem scneed_step : FnScope nneed_step pneed_step (defScope sneed_step) := ⟨rfl, rfl, rfl, by decide +kernel, rfl, by decide +kernel, by decide +kernel⟩
abbrev sneed_body : Stmt := top 18
abbrev nneed_body : List Str := ["program", "at", "body", "others", "count", "step"]
abbrev pneed_body : List Str := ["program", "at", "body", "others", "count"]
theorem scneed_body : FnScope nneed_body pneed_body (defScope sneed_body) := ⟨rfl, rfl, rfl, by decide +kernel, rfl, by decide +kernel, by decide +kernel⟩
theorem okNeedStep {tk : Nat → Tok} {aP aW : Addr} {n : Nat} (D : DefAt K mg "need_step" sneed_step pneed_step) (T : Cst K tk aP aW mg) (C_is_shaped : Callee P w K mg base "is_shaped" 1 pis_shaped (spIsShaped K))
    (C_need_thing : Callee P w K mg base "need_thing" 9 pneed_thing (spNeedThing K 5)) (C_need_place : Callee P w K mg base "need_place" 10 pneed_place (spNeedPlace K)) (C_need_call : Callee P w K mg base "need_call" 10 pneed_call (spNeedCall K))
    (C_need_body : Callee P w K mg base "need_body" (2 * n + 11) pneed_body (spNeedBody K n)) : Callee P w K mg base "need_step" (2 * n + 12) pneed_step (spNeedStep K (n + 1)) := by
  refine D.ok scneed_step (fun vs H Q E h => ?_) (fun f cdv A outer s H vs Q E hr h => ?_)
  · obtain ⟨pp, P, i, d, h, c, wk, v, st, rfl, _⟩ := h
    rfl
  obtain ⟨pp, P, i, d, h, c, wk, v, st, rfl, hP, ei, hR, ok, hd, dn, cm, q⟩ := h
  obtain ⟨a, xs, eA, hT, hl, hat⟩ := encP_at hP
  cases eA
  obtain ⟨wp, b, eW, hW, _⟩ := hat i wk ei
  have sa := shapes_at ei
  have m1 : 1 ≤ st.many := by cases st <;> (unfold St.many; omega)
  refine ⟨_, (pss_cons (ps_if (PW.pt (pw_or (pt_cmpR op_gt (pv 3) (pe_glob (v := .int 4) rfl T.MOST_OTHERS ⟨_, rfl⟩) (nomark _)) (pw_or1 (pt_cmpR op_gt (pv 4) (pe_glob (v := .int 100) rfl T.MOST_STEPS ⟨_, rfl⟩) (nomark _))))) pss_never pss_nil)
  (pss_cons (ps_set (i := 5) scneed_step.nd rfl (Or.inl rfl) (pe_ix (ixT (K := K)) (pv 0) (pv 1) (fun _ _ => rfl)))
  (pss_cons (ps_if (pt_val (pcall C_is_shaped (hr.mono (by omega)) rfl (pa_cons (pv 2) (pa_cons pe_str (pa_cons pe_int pa_nil))))) (pss_cons (ps_expr (pcall C_need_place (hr.mono (by omega)) rfl (pa_cons (pv 5) (pa_cons (pe_ix (ixT (K := K)) (pv 2) pe_int (fun _ _ => rfl)) pa_nil))))
  (pss_one (ps_expr (pcall C_need_thing (hr.mono (by omega)) rfl (pa_cons (pv 5) (pa_cons (pe_ix (ixT (K := K)) (pv 2) pe_int (fun _ _ => rfl)) (pa_cons pe_int pa_nil))))))) (pss_one (ps_if (pt_val (pcall C_is_shaped (hr.mono (by omega)) rfl (pa_cons (pv 2) (pa_cons pe_str (pa_cons pe_int pa_nil))))) (pss_one (ps_expr (pcall C_need_thing (hr.mono (by omega)) rfl (pa_cons (pv 5) (pa_cons (pe_ix (ixT (K := K)) (pv 2) pe_int (fun _ _ => rfl)) (pa_cons pe_int pa_nil)))))) (pss_one (ps_if (pt_val (pcall C_is_shaped (hr.mono (by omega)) rfl (pa_cons (pv 2) (pa_cons pe_str (pa_cons pe_int pa_nil))))) (pss_cons (ps_expr (pcall C_need_thing (hr.mono (by omega)) rfl (pa_cons (pv 5) (pa_cons (pe_ix (ixT (K := K)) (pv 2) pe_int (fun _ _ => rfl)) (pa_cons pe_int pa_nil)))))
  (pss_cons (ps_set (i := 4) scneed_step.nd rfl (Or.inl rfl) (pcall C_need_body (hr.mono (by omega)) rfl (pa_cons (pv 0) (pa_cons (pv 1) (pa_cons (pe_ix (ixT (K := K)) (pv 2) pe_int (fun _ _ => rfl)) (pa_cons (pe_op op_add (pv 3) pe_int) (pa_cons (pv 4) pa_nil)))))))
  (pss_one (ps_set (i := 4) scneed_step.nd rfl (Or.inl rfl) (pcall C_need_body (hr.mono (by omega)) rfl (pa_cons (pv 0) (pa_cons (pv 1) (pa_cons (pe_ix (ixT (K := K)) (pv 2) pe_int (fun _ _ => rfl)) (pa_cons (pe_op op_add (pv 3) pe_int) (pa_cons (pv 4) pa_nil)))))))))) (pss_one (ps_if (pt_val (pcall C_is_shaped (hr.mono (by omega)) rfl (pa_cons (pv 2) (pa_cons pe_str (pa_cons pe_int pa_nil))))) (pss_one (ps_expr (pcall C_need_call (hr.mono (by omega)) rfl (pa_cons (pv 0) (pa_cons (pv 1) (pa_cons (pe_ix (ixT (K := K)) (pv 2) pe_int (fun _ _ => rfl)) (pa_cons (pe_ix (ixT (K := K)) (pv 2) pe_int (fun _ _ => rfl)) pa_nil))))))) pss_never)))))))
  (pss_one (ps_ret (pv 4)))))), ?_⟩
  walk_at "rd"
  refine r_orP (a := decide ((4 : Int) < (h : Int))) (b := decide ((100 : Int) < (c : Int) + 1)) (fun R hr => by walk_at "rd"; exact hr) (fun _ R hr => by walk_at "rd"; exact hr) ?_
  rw [if_neg (by
    rw [decide_eq_false (by omega), decide_eq_false (by omega)]
    exact Bool.false_ne_true)]
  walk_at "rd"
  refine ask ⟨v, st.enc, "set", 3, rfl, hR.dp, st.headOk, by decide +kernel, by decide, ?_⟩
  walk_at "rd"
  have thing : ∀ (x : V) (u : Th) (Q0 : VK), Rp K H x u.enc → Th.ok wk.params wk.owns 4 u → Q0 .non H → spNeedThing K 5 [.ref wp, x, .int 0] H Q0 E0 := fun x u Q0 hx hu hq =>
    ⟨wp, x, b, u, wk.params, wk.owns, 0, 4, rfl, hW, hx, hu, by omega, by omega, hq⟩
  cases st with
  | set p t =>
    obtain ⟨a1, u, x, rfl, hS, hu, hx⟩ := St.inv_set hR
    obtain ⟨ip, okp, okt⟩ := St.ok_set' ok
    rw [sa] at okp okt
    have at1 : atI [.str "set", u, x] 1 = some u := atI_nat (xs := [.str "set", u, x]) (j := 1) rfl
    have at2 : atI [.str "set", u, x] 2 = some x := atI_nat (xs := [.str "set", u, x]) (j := 2) rfl
    rw [ss_set_set, if_pos rfl]
    walk_at "rd"
    refine ask ⟨wp, u, b, p, wk.params, wk.owns, rfl, hW, hu, okp, ip, ?_⟩
    walk_at "rd"
    refine ask (thing x t _ hx okt ?_)
    walk_at "rd"
    exact q
  | say t =>
    obtain ⟨a1, u, rfl, hS, hu⟩ := St.inv_say hR
    have okt := St.ok_say' ok
    rw [sa] at okt
    have at1 : atI [.str "say", u] 1 = some u := atI_nat (xs := [.str "say", u]) (j := 1) rfl
    rw [ss_say_set, if_neg Bool.false_ne_true]
    walk_at "rd"
    refine ask ⟨_, _, "say", 2, rfl, hR.dp, St.headOk _, by decide +kernel, by decide, ?_⟩
    walk_at "rd"
    rw [ss_say_say, if_pos rfl]
    walk_at "rd"
    refine ask (thing u t _ hu okt ?_)
    walk_at "rd"
    exact q
  | ite t b1 b2 =>
    cases d with
    | zero => exact (by unfold St.ok at ok; exact ok : False).elim
    | succ d =>
      obtain ⟨a1, u, x, y, rfl, hS, hu, hx, hy⟩ := St.inv_ite hR
      have ok' : Th.ok ((shapes P).getD i (0, 0)).1 ((shapes P).getD i (0, 0)).2 4 t ∧ Sts.ok (shapes P) i d b1 ∧ Sts.ok (shapes P) i d b2 := by
        unfold St.ok at ok
        exact ok
      obtain ⟨okt, o1, o2⟩ := ok'
      rw [sa] at okt
      have many : (St.ite t b1 b2).many = 1 + b1.many + b2.many := by unfold St.many; rfl
      rw [many] at cm q
      have at1 : atI [.str "if", u, x, y] 1 = some u := atI_nat (xs := [.str "if", u, x, y]) (j := 1) rfl
      have at2 : atI [.str "if", u, x, y] 2 = some x := atI_nat (xs := [.str "if", u, x, y]) (j := 2) rfl
      have at3 : atI [.str "if", u, x, y] 3 = some y := atI_nat (xs := [.str "if", u, x, y]) (j := 3) rfl
      rw [ss_ite_set, if_neg Bool.false_ne_true]
      walk_at "rd"
      refine ask ⟨_, _, "say", 2, rfl, hR.dp, St.headOk _, by decide +kernel, by decide, ?_⟩
      walk_at "rd"
      rw [ss_ite_say, if_neg Bool.false_ne_true]
      walk_at "rd"
      refine ask ⟨_, _, "if", 4, rfl, hR.dp, St.headOk _, by decide +kernel, by decide, ?_⟩
      walk_at "rd"
      rw [ss_ite_ite, if_pos rfl]
      walk_at "rd"
      refine ask (thing u t _ hu okt ?_)
      walk_at "rd"
      refine ask ⟨pp, P, i, d, h + 1, c + 1, wk, x, b1, by rw [Int.natCast_add, Int.natCast_add]; rfl, hP, ei, hx, o1, by omega, by omega, by omega, ?_⟩
      walk_at "rd"
      refine ask ⟨pp, P, i, d, h + 1, c + 1 + b1.many, wk, y, b2, by rw [Int.natCast_add h 1]; rfl, hP, ei, hy, o2, by omega, by omega, by omega, ?_⟩
      walk_at "rd"
      have e : c + 1 + b1.many + b2.many = c + (1 + b1.many + b2.many) := by omega
      rw [← e] at q
      exact q
  | call k ts =>
    obtain ⟨a1, x, rfl, hS, hx⟩ := St.inv_call hR
    obtain ⟨ik, kl, lt, okt⟩ := St.ok_call' ok
    rw [sa] at okt
    have kl' : k < P.length := by
      unfold shapes at kl
      rw [List.length_map] at kl
      exact kl
    have ek : P[k]? = some P[k] := List.getElem?_eq_getElem kl'
    rw [shapes_at ek] at lt
    have at1 : atI [.str "call", .int (k : Int), x] 1 = some (.int (k : Int)) := atI_nat (xs := [.str "call", .int (k : Int), x]) (j := 1) rfl
    have at2 : atI [.str "call", .int (k : Int), x] 2 = some x := atI_nat (xs := [.str "call", .int (k : Int), x]) (j := 2) rfl
    rw [ss_call_set, if_neg Bool.false_ne_true]
    walk_at "rd"
    refine ask ⟨_, _, "say", 2, rfl, hR.dp, St.headOk _, by decide +kernel, by decide, ?_⟩
    walk_at "rd"
    rw [ss_call_say, if_neg Bool.false_ne_true]
    walk_at "rd"
    refine ask ⟨_, _, "if", 4, rfl, hR.dp, St.headOk _, by decide +kernel, by decide, ?_⟩
    walk_at "rd"
    rw [ss_call_ite, if_neg Bool.false_ne_true]
    walk_at "rd"
    refine ask ⟨_, _, "call", 3, rfl, hR.dp, St.headOk _, by decide +kernel, by decide, ?_⟩
    walk_at "rd"
    rw [ss_call_call, if_pos rfl]
    walk_at "rd"
    refine ask ⟨pp, P, i, k, wk, P[k], x, ts, rfl, hP, ei, ek, ik, hx, lt, okt, ?_⟩
    walk_at "rd"
    exact q
theorem many_cons {s : St} {r : Sts} : (Sts.cons s r).many = s.many + r.many := rfl
theorem okNeedBody {tk : Nat → Tok} {n : Nat} (D : DefAt K mg "need_body" sneed_body pneed_body) (T : Nrs tk mg) (C_need_step : Callee P w K mg base "need_step" (2 * n + 12) pneed_step (spNeedStep K (n + 1))) :
    Callee P w K mg base "need_body" (2 * n + 13) pneed_body (spNeedBody K (n + 1)) := by
  refine D.ok scneed_body (fun vs H Q E h => ?_) (fun f cdv A outer s H vs Q E hr h => ?_)
  · obtain ⟨pp, P, i, d, h, c, wk, v, st, rfl, _⟩ := h
    rfl
  obtain ⟨pp, P, i, d, h, c, wk, v, ss, rfl, hP, ei, hR, ok, hd, dn, cm, q⟩ := h
  obtain ⟨tp, vs, rfl, hV, hvs⟩ := hR.tup_inv
  refine ⟨_, (pss_cons (ps_if (pt_not (pt_val (pe_callB (cIsi (K := K)) (by rfl) T.isinstance (by decide +kernel) (pa_cons (pv 2) (pa_cons (pe_bltn rfl T.tuple (by decide +kernel) (v := .ty "tuple") rfl) pa_nil))))) pss_never pss_nil)
  (pss_cons (ps_for PassesOwn.never rfl (piTup (K := K) (pv 2)) (pg_name (i := 5) scneed_body.nd rfl (Or.inl rfl))
   (pss_one (ps_set (i := 4) scneed_body.nd rfl (Or.inl rfl) (pcall C_need_step (hr.mono (by omega)) rfl (pa_cons (pv 0) (pa_cons (pv 1) (pa_cons (pv 5) (pa_cons (pv 3) (pa_cons (pe_op op_add (pv 4) pe_int) pa_nil)))))))))
  (pss_one (ps_ret (pv 4))))), ?_⟩
  walk_at "rd"
  refine forT (xs := vs) (fun j σ H' => H' = H ∧ ∃ (x5 : Option V) (c' : Nat), σ = [some (.ref pp), some (.int (i : Int)), some (.ref tp), some (.int (h : Int)), some (.int (c' : Int)), x5] ∧ c' + (ss.drop j).many = c + ss.many ∧ Sts.ok (shapes P) i d (ss.drop j)) ⟨rfl, none, c, rfl, rfl, ok⟩ (fun j σ H' _ hp => ?_) (fun j x σ H' hx hp => ?_) (fun σ H' hp => ?_)
  · obtain ⟨rfl, x5, c', rfl, ec, okd⟩ := hp
    exact hV
  · obtain ⟨rfl, x5, c', rfl, ec, okd⟩ := hp
    obtain ⟨dd, ed, rd⟩ := hvs.get' hx
    obtain ⟨st, rfl, est⟩ := Sts.drop_get ed
    rw [est] at ec okd
    have okd' : St.ok (shapes P) i d st ∧ Sts.ok (shapes P) i d (ss.drop (j + 1)) := by
      unfold Sts.ok at okd
      exact okd
    have mc : (Sts.cons st (ss.drop (j + 1))).many = st.many + (ss.drop (j + 1)).many := many_cons
    rw [mc] at ec
    walk_at "rd"
    refine ask ⟨pp, P, i, d, h, c', wk, x, st, rfl, hP, ei, rd, okd'.1, hd, dn, by omega, ?_⟩
    walk_at "rd"
    exact ⟨rfl, _, c' + st.many, rfl, by omega, okd'.2⟩
  · obtain ⟨rfl, x5, c', rfl, ec, okd⟩ := hp
    have lv : vs.length = ss.encs.length := hvs.length
    rw [lv, Sts.drop_all] at ec
    have e0 : Sts.nil.many = 0 := by unfold Sts.many; rfl
    rw [e0] at ec
    have e1 : c' = c + ss.many := by omega
    walk_at "rd"
    rw [e1]
    exact q
end
end Hw
namespace Hw
open PySem PySem.Spec PyProof.Rows L2
local macro_rules | `(tactic| walk_at "sz") => `(tactic| first | exact Nat.le_of_ble_eq_true rfl | exact small (by first | omega | (simp; done) | (simp; omega)))
local macro_rules | `(tactic| walk_at "szT") => `(tactic| first | exact Nat.lt_of_lt_of_le (Nat.lt_succ_self _) (Nat.le_of_ble_eq_true rfl) | exact smallT (by first | omega | (simp; done) | (simp; omega)))
local macro_rules | `(tactic| walk_at "cond") => `(tactic| first | decide | omega | (dsimp only; omega) | exact ⟨by omega, by omega⟩ | exact .inr ⟨by decide, by decide⟩)
local macro_rules | `(tactic| walk_at "sq") => `(tactic| first | assumption | exact SqL.of (by assumption) | exact SqT.of (by assumption))
local macro_rules | `(tactic| walk_at "ty") => `(tactic| first | (with_reducible assumption) | exact .base (.int _) | exact .base (.str _) | exact .base (.bl _) | exact .base .non | exact tyT (by walk_at "sq") | exact tyL (by walk_at "sq"))
local macro_rules | `(tactic| walk_at "rd1") => `(tactic| first
  | ((with_reducible apply r_seq))
  | ((with_reducible apply r_asg))
  | ((with_reducible apply r_name))
  | ((with_reducible apply r_op))
  | ((with_reducible apply r_var); exact rfl)
  | ((with_reducible apply r_c))
  | ((with_reducible apply r_ixT); (walk_at "sq"); first | exact rfl | assumption)
  | ((with_reducible apply r_ixL); (walk_at "sq"); first | exact rfl | assumption)
  | ((with_reducible apply r_ixA); (first | exact .inl (by walk_at "sq") | exact .inr (by walk_at "sq")); first | exact rfl | assumption)
  | ((with_reducible apply r_isi); (walk_at "ty"); (decide +kernel))
  | ((with_reducible apply r_isiT2); assumption; (walk_at "ty"); (decide +kernel); (decide +kernel))
  | ((with_reducible apply r_I0))
  | ((with_reducible apply r_I); (walk_at "cond"))
  | ((with_reducible apply r_eq); exact rfl)
  | ((with_reducible apply r_ne); exact rfl)
  | ((with_reducible apply r_test))
  | ((with_reducible apply r_bl))
  | ((with_reducible apply r_if))
  | ((with_reducible apply r_nil))
  | ((with_reducible apply r_cons))
  | ((with_reducible apply r_call))
  | ((with_reducible apply r_cb))
  | ((with_reducible apply r_tup))
  | ((with_reducible apply r_lst))
  | ((with_reducible apply new); (walk_at "sz"))
  | ((with_reducible apply r_ret))
  | ((with_reducible apply r_retN))
  | ((with_reducible apply r_next))
  | ((with_reducible apply r_drop))
  | ((with_reducible apply r_lenL); (walk_at "sq"))
  | ((with_reducible apply r_lenT); (walk_at "sq"))
  | ((with_reducible apply r_int))
  | ((with_reducible apply r_intB))
  | ((with_reducible apply r_isN))
  | ((with_reducible apply r_notN))
  | ((with_reducible apply r_B))
  | ((with_reducible apply r_not))
  | ((with_reducible apply r_notV))
  | ((with_reducible apply r_andV))
  | ((with_reducible apply r_orV))
  | ((with_reducible apply r_ifE))
  | ((with_reducible apply r_chain))
  | ((with_reducible apply ite_t); (first | (with_reducible exact nRN) | (with_reducible exact nIN) | (with_reducible exact dNN) | decide +kernel))
  | ((with_reducible apply ite_f); (first | (with_reducible exact dRN) | (with_reducible exact dIN) | (with_reducible exact nNN) | decide +kernel))
  | ((with_reducible apply r_in); (first | exact .inl (by walk_at "sq") | exact .inr (by walk_at "sq")); exact rfl; (first | exact nums_flat | exact rfl))
  | ((with_reducible apply turn))
  | ((with_reducible apply r_for))
  | ((with_reducible apply r_iRng1))
  | ((with_reducible apply r_rng); (first | decide | omega | (simp; omega)); (first | decide | omega | (simp; omega)))
  | ((with_reducible apply r_iList))
  | ((with_reducible apply r_iTup))
  | ((with_reducible apply r_overL); (walk_at "sq"))
  | ((with_reducible apply r_overT); (walk_at "sq"))
  | ((with_reducible apply r_lc))
  | ((with_reducible apply acc); assumption; (walk_at "szT"))
  | ((with_reducible apply r_sub))
  | ((with_reducible apply r_setL); assumption; exact rfl)
  | ((with_reducible apply r_gtup); (walk_at "sq"); rfl)
  | ((with_reducible apply r_gnil))
  | ((with_reducible apply r_gcons))
  | ((with_reducible apply r_par))
  | ((with_reducible apply r_par2))
  | ((with_reducible apply r_sl))
  | ((with_reducible apply r_part))
  | ((with_reducible apply r_part1))
  | ((with_reducible apply r_noPart))
  | ((with_reducible apply r_slL); (walk_at "sq"))
  | ((with_reducible apply r_slA); (walk_at "sq"))
  | ((with_reducible apply r_tupL); (walk_at "sq"))
  | ((with_reducible apply r_tupT); (walk_at "sq"))
  | ((with_reducible apply r_lstL); (walk_at "sq"))
  | ((with_reducible apply r_lstT); (walk_at "sq"))
  | ((with_reducible apply r_append))
  | ((with_reducible apply r_isL); (walk_at "sq"))
  | ((with_reducible apply r_app); assumption; (walk_at "szT"))
  | ((with_reducible apply r_dget))
  | ((with_reducible apply r_dgetS); assumption; (walk_at "dk"))
  | ((with_reducible apply r_dput))
  | ((with_reducible apply r_dputS); assumption; (walk_at "szT"))
  | ((with_reducible apply r_disp))
  | ((with_reducible apply r_pnil))
  | ((with_reducible apply r_pcons))
  | ((with_reducible apply r_fld))
  | ((with_reducible apply r_fld1); assumption; assumption; assumption; (first | exact rfl | assumption))
  | ((with_reducible apply r_sfld))
  | ((with_reducible apply r_sfld1); assumption; assumption; assumption; exact (by decide)))
local macro_rules | `(tactic| walk_at "rd") => `(tactic| repeat walk_at "rd1")
section
variable {P : Program} {w : World} {K : PySem.W.Frag} {mg : Str → Option Value} {base : Heap}
/-! ### programs.py: need_head, of what is well -/
theorem okNeedBodies {tk : Nat → Tok} {aP aW : Addr} (D : DefAt K mg "need_body" sneed_body pneed_body) (Ds : DefAt K mg "need_step" sneed_step pneed_step) (T : Cst K tk aP aW mg) (C_is_shaped : Callee P w K mg base "is_shaped" 1 pis_shaped (spIsShaped K))
    (C_need_thing : Callee P w K mg base "need_thing" 9 pneed_thing (spNeedThing K 5)) (C_need_place : Callee P w K mg base "need_place" 10 pneed_place (spNeedPlace K)) (C_need_call : Callee P w K mg base "need_call" 10 pneed_call (spNeedCall K)) :
    ∀ n : Nat, Callee P w K mg base "need_body" (2 * n + 11) pneed_body (spNeedBody K n)
  | 0 => D.none fun vs H Q E h => by
    obtain ⟨pp, P, i, d, h, c, wk, v, st, rfl, _, _, _, _, _, z, _⟩ := h
    omega
  | n + 1 => okNeedBody D T.toNrs (okNeedStep Ds T C_is_shaped C_need_thing C_need_place C_need_call (okNeedBodies D Ds T C_is_shaped C_need_thing C_need_place C_need_call n))
theorem below_int {k m : Int} (h : 0 ≤ k) (g : k < m) : belowD m (.int k) = true :=
  (show (decide (0 ≤ k) && decide (k < m)) = true from Bool.and_eq_true_iff.mpr ⟨decide_eq_true h, decide_eq_true g⟩)
def spNeedHead (K : PySem.W.Frag) : Sp := fun vs H Q _ => ∃ (wp : Addr) (b : V) (i p o : Nat), vs = [.int (i : Int), .ref wp] ∧ SqT K H wp [.int (p : Int), .int (o : Int), b] ∧ p ≤ 3 ∧ (i = 0 → p = 0) ∧ o ≤ 99 ∧ Q .non H
abbrev sneed_head : Stmt := top 17
abbrev nneed_head : List Str := ["at", "work", "most"]
abbrev pneed_head : List Str := ["at", "work"]
theorem scneed_head : FnScope nneed_head pneed_head (defScope sneed_head) := ⟨rfl, rfl, rfl, by decide +kernel, rfl, by decide +kernel, by decide +kernel⟩
theorem okNeedHead {tk : Nat → Tok} (D : DefAt K mg "need_head" sneed_head pneed_head) (T : Nrs tk mg) (C_is_below : Callee P w K mg base "is_below" 1 pis_below (spIsBelow K)) : Callee P w K mg base "need_head" 2 pneed_head (spNeedHead K) := by
  refine D.ok scneed_head (fun vs H Q E h => ?_) (fun f cdv A outer s H vs Q E hr h => ?_)
  · obtain ⟨wp, b, i, p, o, rfl, _⟩ := h
    rfl
  obtain ⟨wp, b, i, p, o, rfl, hW, p3, p0, o9, q⟩ := h
  have at0 : atI [.int (p : Int), .int (o : Int), b] 0 = some (.int (p : Int)) := atI_nat (xs := [.int (p : Int), .int (o : Int), b]) (j := 0) rfl
  have at1 : atI [.int (p : Int), .int (o : Int), b] 1 = some (.int (o : Int)) := atI_nat (xs := [.int (p : Int), .int (o : Int), b]) (j := 1) rfl
  refine ⟨_, (pss_cons (ps_if (PW.pt (pw_or (pt_not (pt_val (pe_callB (cIsi (K := K)) (by rfl) T.isinstance (by decide +kernel) (pa_cons (pv 1) (pa_cons (pe_bltn rfl T.tuple (by decide +kernel) (v := .ty "tuple") rfl) pa_nil))))) (pw_or1 (pt_cmpR op_ne (pe_callB (cLen (K := K)) (by rfl) T.len PySem.boot_len (pa_cons (pv 1) pa_nil)) pe_int (nomark _))))) pss_never pss_nil)
  (pss_cons (ps_set (i := 2) scneed_head.nd rfl (Or.inl rfl) (pe_ifExp (pt_cmpR op_eq (pv 0) pe_int (nomark _)) pe_int (pe_glob (v := .int 3) rfl T.MOST_PARAMS ⟨_, rfl⟩)))
  (pss_cons (ps_if (pt_not (pt_val (pcall C_is_below (hr.mono (by omega)) rfl (pa_cons (pe_ix (ixT (K := K)) (pv 1) pe_int (fun _ _ => rfl)) (pa_cons (pe_op op_add (pv 2) pe_int) pa_nil))))) pss_never pss_nil)
  (pss_one (ps_if (pt_not (pt_val (pcall C_is_below (hr.mono (by omega)) rfl (pa_cons (pe_ix (ixT (K := K)) (pv 1) pe_int (fun _ _ => rfl)) (pa_cons (pe_op op_add (pe_glob (v := .int 99) rfl T.MOST_OWNS ⟨_, rfl⟩) pe_int) pa_nil))))) pss_never pss_nil))))), ?_⟩
  walk_at "rd"
  refine r_orP (a := !kb "tuple" "tuple") (b := !decide ((V.int (([V.int (p : Int), V.int (o : Int), b] : List V).length : Int)) = V.int 3)) (fun R hr => by walk_at "rd"; exact hr) (fun _ R hr => by walk_at "rd"; exact hr) ?_
  rw [if_neg (by
    rw [decide_eq_true (by rfl)]
    exact (by decide +kernel : ¬ (!kb "tuple" "tuple" || !true) = true))]
  walk_at "rd"
  refine ite2 (fun c => ?_) (fun c => ?_)
  · walk_at "rd"
    refine ask ⟨.int (p : Int), .int (p : Int), 0 + 1, rfl, .int _, ?_⟩
    rw [below_int (k := (p : Int)) (m := 0 + 1) (by omega) (by have := V.int.inj (of_decide_eq_true c); have := p0 (by omega); omega)]
    walk_at "rd"
    refine ask ⟨.int (o : Int), .int (o : Int), 99 + 1, rfl, .int _, ?_⟩
    rw [below_int (k := (o : Int)) (m := 99 + 1) (by omega) (by omega)]
    walk_at "rd"
    exact q
  · walk_at "rd"
    refine ask ⟨.int (p : Int), .int (p : Int), 3 + 1, rfl, .int _, ?_⟩
    rw [below_int (k := (p : Int)) (m := 3 + 1) (by omega) (by omega)]
    walk_at "rd"
    refine ask ⟨.int (o : Int), .int (o : Int), 99 + 1, rfl, .int _, ?_⟩
    rw [below_int (k := (o : Int)) (m := 99 + 1) (by omega) (by omega)]
    walk_at "rd"
    exact q
end
end Hw
namespace Hw
open PySem PySem.Spec PyProof.Rows L2
local macro_rules | `(tactic| walk_at "sz") => `(tactic| first | exact Nat.le_of_ble_eq_true rfl | exact small (by first | omega | (simp; done) | (simp; omega)))
local macro_rules | `(tactic| walk_at "szT") => `(tactic| first | exact Nat.lt_of_lt_of_le (Nat.lt_succ_self _) (Nat.le_of_ble_eq_true rfl) | exact smallT (by first | omega | (simp; done) | (simp; omega)))
local macro_rules | `(tactic| walk_at "cond") => `(tactic| first | decide | omega | (dsimp only; omega) | exact ⟨by omega, by omega⟩ | exact .inr ⟨by decide, by decide⟩)
local macro_rules | `(tactic| walk_at "sq") => `(tactic| first | assumption | exact SqL.of (by assumption) | exact SqT.of (by assumption))
local macro_rules | `(tactic| walk_at "ty") => `(tactic| first | (with_reducible assumption) | exact .base (.int _) | exact .base (.str _) | exact .base (.bl _) | exact .base .non | exact tyT (by walk_at "sq") | exact tyL (by walk_at "sq"))
local macro_rules | `(tactic| walk_at "rd1") => `(tactic| first
  | ((with_reducible apply r_seq))
  | ((with_reducible apply r_asg))
  | ((with_reducible apply r_name))
  | ((with_reducible apply r_op))
  | ((with_reducible apply r_var); exact rfl)
  | ((with_reducible apply r_c))
  | ((with_reducible apply r_ixT); (walk_at "sq"); first | exact rfl | assumption)
  | ((with_reducible apply r_ixL); (walk_at "sq"); first | exact rfl | assumption)
  | ((with_reducible apply r_ixA); (first | exact .inl (by walk_at "sq") | exact .inr (by walk_at "sq")); first | exact rfl | assumption)
  | ((with_reducible apply r_isi); (walk_at "ty"); (decide +kernel))
  | ((with_reducible apply r_isiT2); assumption; (walk_at "ty"); (decide +kernel); (decide +kernel))
  | ((with_reducible apply r_I0))
  | ((with_reducible apply r_I); (walk_at "cond"))
  | ((with_reducible apply r_eq); exact rfl)
  | ((with_reducible apply r_ne); exact rfl)
  | ((with_reducible apply r_test))
  | ((with_reducible apply r_bl))
  | ((with_reducible apply r_if))
  | ((with_reducible apply r_nil))
  | ((with_reducible apply r_cons))
  | ((with_reducible apply r_call))
  | ((with_reducible apply r_cb))
  | ((with_reducible apply r_tup))
  | ((with_reducible apply r_lst))
  | ((with_reducible apply new); (walk_at "sz"))
  | ((with_reducible apply r_ret))
  | ((with_reducible apply r_retN))
  | ((with_reducible apply r_next))
  | ((with_reducible apply r_drop))
  | ((with_reducible apply r_lenL); (walk_at "sq"))
  | ((with_reducible apply r_lenT); (walk_at "sq"))
  | ((with_reducible apply r_int))
  | ((with_reducible apply r_intB))
  | ((with_reducible apply r_isN))
  | ((with_reducible apply r_notN))
  | ((with_reducible apply r_B))
  | ((with_reducible apply r_not))
  | ((with_reducible apply r_notV))
  | ((with_reducible apply r_andV))
  | ((with_reducible apply r_orV))
  | ((with_reducible apply r_ifE))
  | ((with_reducible apply r_chain))
  | ((with_reducible apply ite_t); (first | (with_reducible exact nRN) | (with_reducible exact nIN) | (with_reducible exact dNN) | decide +kernel))
  | ((with_reducible apply ite_f); (first | (with_reducible exact dRN) | (with_reducible exact dIN) | (with_reducible exact nNN) | decide +kernel))
  | ((with_reducible apply r_in); (first | exact .inl (by walk_at "sq") | exact .inr (by walk_at "sq")); exact rfl; (first | exact nums_flat | exact rfl))
  | ((with_reducible apply turn))
  | ((with_reducible apply r_for))
  | ((with_reducible apply r_iRng1))
  | ((with_reducible apply r_rng); (first | decide | omega | (simp; omega)); (first | decide | omega | (simp; omega)))
  | ((with_reducible apply r_iList))
  | ((with_reducible apply r_iTup))
  | ((with_reducible apply r_overL); (walk_at "sq"))
  | ((with_reducible apply r_overT); (walk_at "sq"))
  | ((with_reducible apply r_lc))
  | ((with_reducible apply acc); assumption; (walk_at "szT"))
  | ((with_reducible apply r_sub))
  | ((with_reducible apply r_setL); assumption; exact rfl)
  | ((with_reducible apply r_gtup); (walk_at "sq"); rfl)
  | ((with_reducible apply r_gnil))
  | ((with_reducible apply r_gcons))
  | ((with_reducible apply r_par))
  | ((with_reducible apply r_par2))
  | ((with_reducible apply r_sl))
  | ((with_reducible apply r_part))
  | ((with_reducible apply r_part1))
  | ((with_reducible apply r_noPart))
  | ((with_reducible apply r_slL); (walk_at "sq"))
  | ((with_reducible apply r_slA); (walk_at "sq"))
  | ((with_reducible apply r_tupL); (walk_at "sq"))
  | ((with_reducible apply r_tupT); (walk_at "sq"))
  | ((with_reducible apply r_lstL); (walk_at "sq"))
  | ((with_reducible apply r_lstT); (walk_at "sq"))
  | ((with_reducible apply r_append))
  | ((with_reducible apply r_isL); (walk_at "sq"))
  | ((with_reducible apply r_app); assumption; (walk_at "szT"))
  | ((with_reducible apply r_dget))
  | ((with_reducible apply r_dgetS); assumption; (walk_at "dk"))
  | ((with_reducible apply r_dput))
  | ((with_reducible apply r_dputS); assumption; (walk_at "szT"))
  | ((with_reducible apply r_disp))
  | ((with_reducible apply r_pnil))
  | ((with_reducible apply r_pcons))
  | ((with_reducible apply r_fld))
  | ((with_reducible apply r_fld1); assumption; assumption; assumption; (first | exact rfl | assumption))
  | ((with_reducible apply r_sfld))
  | ((with_reducible apply r_sfld1); assumption; assumption; assumption; exact (by decide)))
local macro_rules | `(tactic| walk_at "rd") => `(tactic| repeat walk_at "rd1")
local macro_rules | `(tactic| walk_at "lk") => `(tactic| first | (with_reducible exact cell_number) | (with_reducible exact cell_loans) | (with_reducible exact frame_owns) | (with_reducible exact frame_handed) | (with_reducible exact frame_roads) | (with_reducible exact want_thing) | (with_reducible exact want_frame) | (with_reducible exact run_program) | (with_reducible exact run_ways) | (with_reducible exact run_commons) | (with_reducible exact run_said) | (with_reducible exact run_lent) | (with_reducible exact run_mixed))
local macro_rules | `(tactic| walk_at "rd1") => `(tactic| first
  | ((with_reducible apply r_enumT))
  | ((with_reducible apply r_overE); (walk_at "sq"))
  | ((with_reducible apply r_zipA))
  | ((with_reducible apply r_zipT); (walk_at "sq"); (walk_at "sq"))
  | ((with_reducible apply r_zip3))
  | ((with_reducible apply r_overZ3); (walk_at "sq"); (walk_at "sq"); (walk_at "sq"))
  | ((with_reducible apply r_make))
  | ((with_reducible apply r_isiC); assumption; assumption; assumption)
  | ((with_reducible apply r_popM))
  | ((with_reducible apply r_pop); assumption)
  | ((with_reducible apply r_tru))
  | ((with_reducible apply r_truL); (walk_at "sq"))
  | ((with_reducible apply r_fld1); assumption; assumption; assumption; (walk_at "lk"))
  | ((with_reducible apply r_sfld1); assumption; assumption; assumption; exact Nat.le_of_ble_eq_true rfl))
section
variable {P : Program} {w : World} {K : PySem.W.Frag} {mg : Str → Option Value} {base : Heap}
/-! ### programs.py: need_program, of what is well -/
def spNeedProgram (K : PySem.W.Frag) : Sp := fun vs H Q _ => ∃ (v : V) (P : List Wk) (m : Nat), vs = [v] ∧ Rp K H v (encP P) ∧ Good P m ∧ m ≤ 100 ∧ ∀ H', Keep [] H H' → Q .non H'
abbrev sneed_program : Stmt := top 16
abbrev nneed_program : List Str := ["program", "at", "work"]
abbrev pneed_program : List Str := ["program"]
theorem scneed_program : FnScope nneed_program pneed_program (defScope sneed_program) := ⟨rfl, rfl, rfl, by decide +kernel, rfl, by decide +kernel, by decide +kernel⟩
theorem okNeedProgram {tk : Nat → Tok} {aP aW : Addr} (D : DefAt K mg "need_program" sneed_program pneed_program) (T : Cst K tk aP aW mg) (C_need_head : Callee P w K mg base "need_head" 2 pneed_head (spNeedHead K)) (C_need_body : Callee P w K mg base "need_body" 17 pneed_body (spNeedBody K 3)) :
    Callee P w K mg base "need_program" 18 pneed_program (spNeedProgram K) := by
  refine D.ok scneed_program (fun vs H Q E h => ?_) (fun f cdv A outer s H vs Q E hr h => ?_)
  · obtain ⟨v, P, m, rfl, _⟩ := h
    rfl
  obtain ⟨v, P, m, rfl, hP, gd, m1, q⟩ := h
  obtain ⟨a, xs, rfl, hT, hl, hat⟩ := encP_at hP
  refine ⟨_, (pss_cons (ps_if (PW.pt (pw_or (pt_not (pt_val (pe_callB (cIsi (K := K)) (by rfl) T.isinstance (by decide +kernel) (pa_cons (pv 0) (pa_cons (pe_bltn rfl T.tuple (by decide +kernel) (v := .ty "tuple") rfl) pa_nil))))) (pw_or1 (pt_not (pt_chain op_le op_le pe_int (pe_callB (cLen (K := K)) (by rfl) T.len PySem.boot_len (pa_cons (pv 0) pa_nil)) (pe_glob (v := .int 4) rfl T.MOST_WORKS ⟨_, rfl⟩)))))) pss_never pss_nil)
  (pss_cons (ps_for PassesOwn.never rfl (pi_enumT (K := K) rfl T.enumerate (pa_cons (pv 0) pa_nil)) (pgTup (K := K) (by rfl) (pgs_cons (pg_name (i := 1) scneed_program.nd rfl (Or.inl rfl)) (pgs_cons (pg_name (i := 2) scneed_program.nd rfl (Or.inl rfl)) pgs_nil)))
   (pss_one (ps_expr (pcall C_need_head (hr.mono (by omega)) rfl (pa_cons (pv 1) (pa_cons (pv 2) pa_nil))))))
  (pss_one (ps_for PassesOwn.never rfl (pi_enumT (K := K) rfl T.enumerate (pa_cons (pv 0) pa_nil)) (pgTup (K := K) (by rfl) (pgs_cons (pg_name (i := 1) scneed_program.nd rfl (Or.inl rfl)) (pgs_cons (pg_name (i := 2) scneed_program.nd rfl (Or.inl rfl)) pgs_nil)))
   (pss_one (ps_expr (pcall C_need_body (hr.mono (by omega)) rfl (pa_cons (pv 0) (pa_cons (pv 1) (pa_cons (pe_ix (ixT (K := K)) (pv 2) pe_int (fun _ _ => rfl)) (pa_cons pe_int (pa_cons pe_int pa_nil)))))))))))), ?_⟩
  have lx : ((xs.length : Nat) : Int) = (P.length : Int) := by rw [hl]
  have g1 := gd.one
  have g4 := gd.few
  walk_at "rd"
  refine r_orP (a := !kb "tuple" "tuple") (b := false) (fun R hr => by walk_at "rd"; exact hr) (fun _ R hr => ?_) ?_
  · walk_at "rd"
    rw [if_pos (decide_eq_true (by omega))]
    walk_at "rd"
    rw [decide_eq_true (by omega)]
    exact hr
  rw [if_neg (by decide +kernel : ¬ (!kb "tuple" "tuple" || false) = true)]
  walk_at "rd"
  have at_i : ∀ (i : Nat) (x : V), xs[i]? = some x → ∃ (wk : Wk) (wp : Addr) (b : V), P[i]? = some wk ∧ x = .ref wp ∧ SqT K H wp [.int (wk.params : Int), .int (wk.owns : Int), b] ∧ Rp K H b (.tuple wk.body.encs) := fun i x hx => by
    have hi : i < P.length := by
      have := (List.getElem?_eq_some_iff.mp hx).1
      omega
    obtain ⟨wp, b, e, h1, h2⟩ := hat i P[i] (List.getElem?_eq_getElem hi)
    rw [atI_nat hx] at e
    exact ⟨P[i], wp, b, List.getElem?_eq_getElem hi, Option.some.inj e, h1, h2⟩
  refine forE (xs := xs) (fun i σ H' => ∃ x1 x2 : Option V, σ = [some (.ref a), x1, x2] ∧ Keep [] H H') ⟨_, _, rfl, Keep.refl⟩ (fun i σ H' _ hp => ?_) (fun i x T σ H' H1 hx hp nT hT1 k1 => ?_) (fun σ H' hp => ?_)
  · obtain ⟨x1, x2, rfl, k⟩ := hp
    exact (keep_ts0 k).sqT hT
  · obtain ⟨x1, x2, rfl, k⟩ := hp
    obtain ⟨wk, wp, b, ei, rfl, hW, hB⟩ := at_i i x hx
    have hTT := SqT.of (K := K) hT1
    walk_at "rd"
    refine ask ⟨wp, b, i, wk.params, wk.owns, rfl, ((keep_ts0 k).trans (keep_ts0 k1)).sqT hW, gd.params wk (List.mem_of_getElem? ei), fun z => by rw [z] at ei; exact gd.first wk ei, by have := gd.owns wk (List.mem_of_getElem? ei); omega, ?_⟩
    exact ⟨_, _, rfl, k.trans k1⟩
  obtain ⟨x1, x2, rfl, k0⟩ := hp
  have hT0 := (keep_ts0 k0).sqT hT
  walk_at "rd"
  refine forE (xs := xs) (fun i σ H' => ∃ x1 x2 : Option V, σ = [some (.ref a), x1, x2] ∧ Keep [] H H') ⟨_, _, rfl, k0⟩ (fun i σ H' _ hp => ?_) (fun i x T σ H' H1 hx hp nT hT1 k1 => ?_) (fun σ H' hp => ?_)
  · obtain ⟨x1, x2, rfl, k⟩ := hp
    exact (keep_ts0 k).sqT hT
  · obtain ⟨x1, x2, rfl, k⟩ := hp
    obtain ⟨wk, wp, b, ei, rfl, hW, hB⟩ := at_i i x hx
    have hTT := SqT.of (K := K) hT1
    have t1 := (keep_ts0 k).trans (keep_ts0 k1)
    have hW1 := t1.sqT hW
    have at2 : atI [.int (wk.params : Int), .int (wk.owns : Int), b] 2 = some b := atI_nat (xs := [.int (wk.params : Int), .int (wk.owns : Int), b]) (j := 2) rfl
    walk_at "rd"
    refine ask ⟨a, P, i, 2, 0, 0, wk, b, wk.body, rfl, hP.ts t1, ei, hB.ts t1, gd.body i wk ei, by omega, by omega, by have := gd.many wk (List.mem_of_getElem? ei); omega, ?_⟩
    exact ⟨_, _, rfl, k.trans k1⟩
  obtain ⟨x3, x4, rfl, k2⟩ := hp
  exact q _ k2
end
end Hw
namespace Hw
open PySem PySem.Spec PyProof.Rows L2
local macro_rules | `(tactic| walk_at "sz") => `(tactic| first | exact Nat.le_of_ble_eq_true rfl | exact small (by first | omega | (simp; done) | (simp; omega)))
local macro_rules | `(tactic| walk_at "szT") => `(tactic| first | exact Nat.lt_of_lt_of_le (Nat.lt_succ_self _) (Nat.le_of_ble_eq_true rfl) | exact smallT (by first | omega | (simp; done) | (simp; omega)))
local macro_rules | `(tactic| walk_at "cond") => `(tactic| first | decide | omega | (dsimp only; omega) | exact ⟨by omega, by omega⟩ | exact .inr ⟨by decide, by decide⟩)
local macro_rules | `(tactic| walk_at "sq") => `(tactic| first | assumption | exact SqL.of (by assumption) | exact SqT.of (by assumption))
local macro_rules | `(tactic| walk_at "ty") => `(tactic| first | (with_reducible assumption) | exact .base (.int _) | exact .base (.str _) | exact .base (.bl _) | exact .base .non | exact tyT (by walk_at "sq") | exact tyL (by walk_at "sq"))
local macro_rules | `(tactic| walk_at "rd1") => `(tactic| first
  | ((with_reducible apply r_seq))
  | ((with_reducible apply r_asg))
  | ((with_reducible apply r_name))
  | ((with_reducible apply r_op))
  | ((with_reducible apply r_var); exact rfl)
  | ((with_reducible apply r_c))
  | ((with_reducible apply r_ixT); (walk_at "sq"); first | exact rfl | assumption)
  | ((with_reducible apply r_ixL); (walk_at "sq"); first | exact rfl | assumption)
  | ((with_reducible apply r_ixA); (first | exact .inl (by walk_at "sq") | exact .inr (by walk_at "sq")); first | exact rfl | assumption)
  | ((with_reducible apply r_isi); (walk_at "ty"); (decide +kernel))
  | ((with_reducible apply r_isiT2); assumption; (walk_at "ty"); (decide +kernel); (decide +kernel))
  | ((with_reducible apply r_I0))
  | ((with_reducible apply r_I); (walk_at "cond"))
  | ((with_reducible apply r_eq); exact rfl)
  | ((with_reducible apply r_ne); exact rfl)
  | ((with_reducible apply r_test))
  | ((with_reducible apply r_bl))
  | ((with_reducible apply r_if))
  | ((with_reducible apply r_nil))
  | ((with_reducible apply r_cons))
  | ((with_reducible apply r_call))
  | ((with_reducible apply r_cb))
  | ((with_reducible apply r_tup))
  | ((with_reducible apply r_lst))
  | ((with_reducible apply new); (walk_at "sz"))
  | ((with_reducible apply r_ret))
  | ((with_reducible apply r_retN))
  | ((with_reducible apply r_next))
  | ((with_reducible apply r_drop))
  | ((with_reducible apply r_lenL); (walk_at "sq"))
  | ((with_reducible apply r_lenT); (walk_at "sq"))
  | ((with_reducible apply r_int))
  | ((with_reducible apply r_intB))
  | ((with_reducible apply r_isN))
  | ((with_reducible apply r_notN))
  | ((with_reducible apply r_B))
  | ((with_reducible apply r_not))
  | ((with_reducible apply r_notV))
  | ((with_reducible apply r_andV))
  | ((with_reducible apply r_orV))
  | ((with_reducible apply r_ifE))
  | ((with_reducible apply r_chain))
  | ((with_reducible apply ite_t); (first | (with_reducible exact nRN) | (with_reducible exact nIN) | (with_reducible exact dNN) | decide +kernel))
  | ((with_reducible apply ite_f); (first | (with_reducible exact dRN) | (with_reducible exact dIN) | (with_reducible exact nNN) | decide +kernel))
  | ((with_reducible apply r_in); (first | exact .inl (by walk_at "sq") | exact .inr (by walk_at "sq")); exact rfl; (first | exact nums_flat | exact rfl))
  | ((with_reducible apply turn))
  | ((with_reducible apply r_for))
  | ((with_reducible apply r_iRng1))
  | ((with_reducible apply r_rng); (first | decide | omega | (simp; omega)); (first | decide | omega | (simp; omega)))
  | ((with_reducible apply r_iList))
  | ((with_reducible apply r_iTup))
  | ((with_reducible apply r_overL); (walk_at "sq"))
  | ((with_reducible apply r_overT); (walk_at "sq"))
  | ((with_reducible apply r_lc))
  | ((with_reducible apply acc); assumption; (walk_at "szT"))
  | ((with_reducible apply r_sub))
  | ((with_reducible apply r_setL); assumption; exact rfl)
  | ((with_reducible apply r_gtup); (walk_at "sq"); rfl)
  | ((with_reducible apply r_gnil))
  | ((with_reducible apply r_gcons))
  | ((with_reducible apply r_par))
  | ((with_reducible apply r_par2))
  | ((with_reducible apply r_sl))
  | ((with_reducible apply r_part))
  | ((with_reducible apply r_part1))
  | ((with_reducible apply r_noPart))
  | ((with_reducible apply r_slL); (walk_at "sq"))
  | ((with_reducible apply r_slA); (walk_at "sq"))
  | ((with_reducible apply r_tupL); (walk_at "sq"))
  | ((with_reducible apply r_tupT); (walk_at "sq"))
  | ((with_reducible apply r_lstL); (walk_at "sq"))
  | ((with_reducible apply r_lstT); (walk_at "sq"))
  | ((with_reducible apply r_append))
  | ((with_reducible apply r_isL); (walk_at "sq"))
  | ((with_reducible apply r_app); assumption; (walk_at "szT"))
  | ((with_reducible apply r_dget))
  | ((with_reducible apply r_dgetS); assumption; (walk_at "dk"))
  | ((with_reducible apply r_dput))
  | ((with_reducible apply r_dputS); assumption; (walk_at "szT"))
  | ((with_reducible apply r_disp))
  | ((with_reducible apply r_pnil))
  | ((with_reducible apply r_pcons))
  | ((with_reducible apply r_fld))
  | ((with_reducible apply r_fld1); assumption; assumption; assumption; (first | exact rfl | assumption))
  | ((with_reducible apply r_sfld))
  | ((with_reducible apply r_sfld1); assumption; assumption; assumption; exact (by decide)))
local macro_rules | `(tactic| walk_at "rd") => `(tactic| repeat walk_at "rd1")
local macro_rules | `(tactic| walk_at "lk") => `(tactic| first | (with_reducible exact cell_number) | (with_reducible exact cell_loans) | (with_reducible exact frame_owns) | (with_reducible exact frame_handed) | (with_reducible exact frame_roads) | (with_reducible exact want_thing) | (with_reducible exact want_frame) | (with_reducible exact run_program) | (with_reducible exact run_ways) | (with_reducible exact run_commons) | (with_reducible exact run_said) | (with_reducible exact run_lent) | (with_reducible exact run_mixed))
local macro_rules | `(tactic| walk_at "rd1") => `(tactic| first
  | ((with_reducible apply r_enumT))
  | ((with_reducible apply r_overE); (walk_at "sq"))
  | ((with_reducible apply r_zipA))
  | ((with_reducible apply r_zipT); (walk_at "sq"); (walk_at "sq"))
  | ((with_reducible apply r_zip3))
  | ((with_reducible apply r_overZ3); (walk_at "sq"); (walk_at "sq"); (walk_at "sq"))
  | ((with_reducible apply r_make))
  | ((with_reducible apply r_isiC); assumption; assumption; assumption)
  | ((with_reducible apply r_popM))
  | ((with_reducible apply r_pop); assumption)
  | ((with_reducible apply r_tru))
  | ((with_reducible apply r_truL); (walk_at "sq"))
  | ((with_reducible apply r_fld1); assumption; assumption; assumption; (walk_at "lk"))
  | ((with_reducible apply r_sfld1); assumption; assumption; assumption; exact Nat.le_of_ble_eq_true rfl))
section
variable {P : Program} {w : World} {K : PySem.W.Frag} {mg : Str → Option Value} {base : Heap}
/-! ### need_ways, need_cells, of what is well -/
theorem inV_way {x : Str} (h : x ∈ ways4) : inV (V.str x) [V.str "copy", V.str "place", V.str "back", V.str "want"] = true := by
  unfold ways4 at h
  rcases List.mem_cons.mp h with rfl | h
  · decide +kernel
  rcases List.mem_cons.mp h with rfl | h
  · decide +kernel
  rcases List.mem_cons.mp h with rfl | h
  · decide +kernel
  cases List.mem_singleton.mp h
  decide +kernel
def spNeedWays (K : PySem.W.Frag) : Sp := fun vs H Q _ => ∃ (v u : V) (P : List Wk) (W : List (List Str)) (m : Nat), vs = [v, u] ∧ Rp K H v (encP P) ∧ Rp K H u (encW W) ∧ Good P m ∧ m ≤ 100 ∧ WaysOk P W ways4 ∧ ∀ H', Keep [] H H' → Q .non H'
def spNeedCells (K : PySem.W.Frag) : Sp := fun vs H Q _ => ∃ (ca : Addr) (cells : List Nat), vs = [.ref ca] ∧ SqT K H ca (nums cells) ∧ cells.length = 3 ∧ (∀ n ∈ cells, n < 3) ∧ Q .non H
abbrev sneed_ways : Stmt := top 24
abbrev nneed_ways : List Str := ["program", "ways", "work", "row", "way"]
abbrev pneed_ways : List Str := ["program", "ways"]
theorem scneed_ways : FnScope nneed_ways pneed_ways (defScope sneed_ways) := ⟨rfl, rfl, rfl, by decide +kernel, rfl, by decide +kernel, by decide +kernel⟩
theorem okNeedWays {tk : Nat → Tok} {aP aW : Addr} (D : DefAt K mg "need_ways" sneed_ways pneed_ways) (T : Cst K tk aP aW mg) (C_need_program : Callee P w K mg base "need_program" 18 pneed_program (spNeedProgram K)) :
    Callee P w K mg base "need_ways" 19 pneed_ways (spNeedWays K) := by
  refine D.ok scneed_ways (fun vs H Q E h => ?_) (fun f cdv A outer s H vs Q E hr h => ?_)
  · obtain ⟨v, u, P, W, m, rfl, _⟩ := h
    rfl
  obtain ⟨v, u, P, W, m, rfl, hP, hU, gd, m1, wo, q⟩ := h
  obtain ⟨a, xs, rfl, hT, hl, hat⟩ := encP_at hP
  obtain ⟨b, ys, rfl, hT2, hy⟩ := hU.tup_inv
  have ly : ys.length = P.length := by rw [hy.length, List.length_map]; exact wo.1
  refine ⟨_, (pss_cons (ps_expr (pcall C_need_program (hr.mono (by omega)) rfl (pa_cons (pv 0) pa_nil)))
  (pss_cons (ps_if (PW.pt (pw_or (pt_not (pt_val (pe_callB (cIsi (K := K)) (by rfl) T.isinstance (by decide +kernel) (pa_cons (pv 1) (pa_cons (pe_bltn rfl T.tuple (by decide +kernel) (v := .ty "tuple") rfl) pa_nil))))) (pw_or1 (pt_cmpR op_ne (pe_callB (cLen (K := K)) (by rfl) T.len PySem.boot_len (pa_cons (pv 1) pa_nil)) (pe_callB (cLen (K := K)) (by rfl) T.len PySem.boot_len (pa_cons (pv 0) pa_nil)) (nomark _))))) pss_never pss_nil)
  (pss_one (ps_for PassesOwn.never rfl (piZip (K := K) rfl T.zip (pa_cons (pv 0) (pa_cons (pv 1) pa_nil))) (pgTup (K := K) (by rfl) (pgs_cons (pg_name (i := 2) scneed_ways.nd rfl (Or.inl rfl)) (pgs_cons (pg_name (i := 3) scneed_ways.nd rfl (Or.inl rfl)) pgs_nil)))
   (pss_cons (ps_if (PW.pt (pw_or (pt_not (pt_val (pe_callB (cIsi (K := K)) (by rfl) T.isinstance (by decide +kernel) (pa_cons (pv 3) (pa_cons (pe_bltn rfl T.tuple (by decide +kernel) (v := .ty "tuple") rfl) pa_nil))))) (pw_or1 (pt_cmpR op_ne (pe_callB (cLen (K := K)) (by rfl) T.len PySem.boot_len (pa_cons (pv 3) pa_nil)) (pe_ix (ixT (K := K)) (pv 2) pe_int (fun _ _ => rfl)) (nomark _))))) pss_never pss_nil)
  (pss_one (ps_for PassesOwn.never rfl (piTup (K := K) (pv 3)) (pg_name (i := 4) scneed_ways.nd rfl (Or.inl rfl))
   (pss_one (ps_if (pt_cmpR (opNotIn (K := K)) (pv 4) (pe_glob (v := .ref _) rfl T.WAYS rfl) (by with_unfolding_all rfl)) pss_never pss_nil))))))))), ?_⟩
  walk_at "rd"
  refine ask ⟨_, P, m, rfl, hP, gd, m1, fun H1 k1 => ?_⟩
  have t1 := keep_ts0 k1
  have hT' := t1.sqT hT
  have hT2' := t1.sqT hT2
  walk_at "rd"
  refine r_orP (a := !kb "tuple" "tuple") (b := !decide ((V.int (ys.length : Int)) = V.int (xs.length : Int))) (fun R hr => by walk_at "rd"; exact hr) (fun _ R hr => by walk_at "rd"; exact hr) ?_
  rw [if_neg (by
    rw [decide_eq_true (by rw [ly, hl])]
    exact (by decide +kernel : ¬ (!kb "tuple" "tuple" || !true) = true))]
  walk_at "rd"
  refine forZT (xs := xs) (ys := ys) (by omega) (fun i σ H' => ∃ x2 x3 x4 : Option V, σ = [some (.ref a), some (.ref b), x2, x3, x4] ∧ Keep [] H H') ⟨_, _, _, rfl, k1⟩ (fun i σ H' hp => ?_) (fun i x y T0 σ H' H2 hx hy2 hp nT hT1 k2 => ?_) (fun σ H' hp => ?_)
  · obtain ⟨x2, x3, x4, rfl, k⟩ := hp
    exact ⟨(keep_ts0 k).sqT hT, (keep_ts0 k).sqT hT2⟩
  · obtain ⟨x2, x3, x4, rfl, k⟩ := hp
    have t2 := (keep_ts0 k).trans (keep_ts0 k2)
    have hi : i < P.length := by
      have := (List.getElem?_eq_some_iff.mp hx).1
      omega
    obtain ⟨wp, bb, e, h1, h2⟩ := hat i P[i] (List.getElem?_eq_getElem hi)
    rw [atI_nat hx] at e
    cases e
    obtain ⟨d, ed, hd⟩ := hy.get' hy2
    rw [List.getElem?_map] at ed
    obtain ⟨ws, ew, rfl⟩ := Option.map_eq_some_iff.mp ed
    obtain ⟨wl, wi⟩ := wo.2 i P[i] ws (List.getElem?_eq_getElem hi) ew
    obtain ⟨rp, zs, rfl, hR, hz⟩ := hd.tup_inv
    have hR2 := t2.sqT hR
    have hW2 := t2.sqT h1
    have lz : zs.length = P[i].params := by rw [hz.length, List.length_map]; exact wl
    have at0 : atI [.int (P[i].params : Int), .int (P[i].owns : Int), bb] 0 = some (.int (P[i].params : Int)) := atI_nat (xs := [.int (P[i].params : Int), .int (P[i].owns : Int), bb]) (j := 0) rfl
    have hTT := SqT.of (K := K) hT1
    walk_at "rd"
    refine r_orP (a := !kb "tuple" "tuple") (b := !decide ((V.int (zs.length : Int)) = V.int (P[i].params : Int))) (fun R hr => by walk_at "rd"; exact hr) (fun _ R hr => by walk_at "rd"; exact hr) ?_
    rw [if_neg (by
      rw [decide_eq_true (by rw [lz])]
      exact (by decide +kernel : ¬ (!kb "tuple" "tuple" || !true) = true))]
    walk_at "rd"
    refine forT (xs := zs) (fun j σ H' => H' = H2 ∧ ∃ x4 : Option V, σ = [some (.ref a), some (.ref b), some (.ref wp), some (.ref rp), x4]) ⟨rfl, _, rfl⟩ (fun j σ H3 _ hp => ?_) (fun j x σ H3 hx3 hp => ?_) (fun σ H3 hp => ?_)
    · obtain ⟨rfl, x5, rfl⟩ := hp
      exact hR2
    · obtain ⟨rfl, x5, rfl⟩ := hp
      obtain ⟨d, ed, hd⟩ := hz.get' hx3
      rw [List.getElem?_map] at ed
      obtain ⟨way, eway, rfl⟩ := Option.map_eq_some_iff.mp ed
      cases hd.str_inv
      have hWW : SqT K H3 aW [.str "copy", .str "place", .str "back", .str "want"] := sqT_of_none T.sqW
      walk_at "rd"
      rw [if_pos rfl, inV_way (wi way (List.mem_of_getElem? eway))]
      walk_at "rd"
      exact ⟨rfl, _, rfl⟩
    · obtain ⟨rfl, x5, rfl⟩ := hp
      exact ⟨_, _, _, rfl, k.trans k2⟩
  · obtain ⟨x2, x3, x4, rfl, k⟩ := hp
    exact q _ k
end
end Hw
namespace Hw
open PySem PySem.Spec PyProof.Rows L2
local macro_rules | `(tactic| walk_at "sz") => `(tactic| first | exact Nat.le_of_ble_eq_true rfl | exact small (by first | omega | (simp; done) | (simp; omega)))
local macro_rules | `(tactic| walk_at "szT") => `(tactic| first | exact Nat.lt_of_lt_of_le (Nat.lt_succ_self _) (Nat.le_of_ble_eq_true rfl) | exact smallT (by first | omega | (simp; done) | (simp; omega)))
local macro_rules | `(tactic| walk_at "cond") => `(tactic| first | decide | omega | (dsimp only; omega) | exact ⟨by omega, by omega⟩ | exact .inr ⟨by decide, by decide⟩)
local macro_rules | `(tactic| walk_at "sq") => `(tactic| first | assumption | exact SqL.of (by assumption) | exact SqT.of (by assumption))
local macro_rules | `(tactic| walk_at "ty") => `(tactic| first | (with_reducible assumption) | exact .base (.int _) | exact .base (.str _) | exact .base (.bl _) | exact .base .non | exact tyT (by walk_at "sq") | exact tyL (by walk_at "sq"))
local macro_rules | `(tactic| walk_at "rd1") => `(tactic| first
  | ((with_reducible apply r_seq))
  | ((with_reducible apply r_asg))
  | ((with_reducible apply r_name))
  | ((with_reducible apply r_op))
  | ((with_reducible apply r_var); exact rfl)
  | ((with_reducible apply r_c))
  | ((with_reducible apply r_ixT); (walk_at "sq"); first | exact rfl | assumption)
  | ((with_reducible apply r_ixL); (walk_at "sq"); first | exact rfl | assumption)
  | ((with_reducible apply r_ixA); (first | exact .inl (by walk_at "sq") | exact .inr (by walk_at "sq")); first | exact rfl | assumption)
  | ((with_reducible apply r_isi); (walk_at "ty"); (decide +kernel))
  | ((with_reducible apply r_isiT2); assumption; (walk_at "ty"); (decide +kernel); (decide +kernel))
  | ((with_reducible apply r_I0))
  | ((with_reducible apply r_I); (walk_at "cond"))
  | ((with_reducible apply r_eq); exact rfl)
  | ((with_reducible apply r_ne); exact rfl)
  | ((with_reducible apply r_test))
  | ((with_reducible apply r_bl))
  | ((with_reducible apply r_if))
  | ((with_reducible apply r_nil))
  | ((with_reducible apply r_cons))
  | ((with_reducible apply r_call))
  | ((with_reducible apply r_cb))
  | ((with_reducible apply r_tup))
  | ((with_reducible apply r_lst))
  | ((with_reducible apply new); (walk_at "sz"))
  | ((with_reducible apply r_ret))
  | ((with_reducible apply r_retN))
  | ((with_reducible apply r_next))
  | ((with_reducible apply r_drop))
  | ((with_reducible apply r_lenL); (walk_at "sq"))
  | ((with_reducible apply r_lenT); (walk_at "sq"))
  | ((with_reducible apply r_int))
  | ((with_reducible apply r_intB))
  | ((with_reducible apply r_isN))
  | ((with_reducible apply r_notN))
  | ((with_reducible apply r_B))
  | ((with_reducible apply r_not))
  | ((with_reducible apply r_notV))
  | ((with_reducible apply r_andV))
  | ((with_reducible apply r_orV))
  | ((with_reducible apply r_ifE))
  | ((with_reducible apply r_chain))
  | ((with_reducible apply ite_t); (first | (with_reducible exact nRN) | (with_reducible exact nIN) | (with_reducible exact dNN) | decide +kernel))
  | ((with_reducible apply ite_f); (first | (with_reducible exact dRN) | (with_reducible exact dIN) | (with_reducible exact nNN) | decide +kernel))
  | ((with_reducible apply r_in); (first | exact .inl (by walk_at "sq") | exact .inr (by walk_at "sq")); exact rfl; (first | exact nums_flat | exact rfl))
  | ((with_reducible apply turn))
  | ((with_reducible apply r_for))
  | ((with_reducible apply r_iRng1))
  | ((with_reducible apply r_rng); (first | decide | omega | (simp; omega)); (first | decide | omega | (simp; omega)))
  | ((with_reducible apply r_iList))
  | ((with_reducible apply r_iTup))
  | ((with_reducible apply r_overL); (walk_at "sq"))
  | ((with_reducible apply r_overT); (walk_at "sq"))
  | ((with_reducible apply r_lc))
  | ((with_reducible apply acc); assumption; (walk_at "szT"))
  | ((with_reducible apply r_sub))
  | ((with_reducible apply r_setL); assumption; exact rfl)
  | ((with_reducible apply r_gtup); (walk_at "sq"); rfl)
  | ((with_reducible apply r_gnil))
  | ((with_reducible apply r_gcons))
  | ((with_reducible apply r_par))
  | ((with_reducible apply r_par2))
  | ((with_reducible apply r_sl))
  | ((with_reducible apply r_part))
  | ((with_reducible apply r_part1))
  | ((with_reducible apply r_noPart))
  | ((with_reducible apply r_slL); (walk_at "sq"))
  | ((with_reducible apply r_slA); (walk_at "sq"))
  | ((with_reducible apply r_tupL); (walk_at "sq"))
  | ((with_reducible apply r_tupT); (walk_at "sq"))
  | ((with_reducible apply r_lstL); (walk_at "sq"))
  | ((with_reducible apply r_lstT); (walk_at "sq"))
  | ((with_reducible apply r_append))
  | ((with_reducible apply r_isL); (walk_at "sq"))
  | ((with_reducible apply r_app); assumption; (walk_at "szT"))
  | ((with_reducible apply r_dget))
  | ((with_reducible apply r_dgetS); assumption; (walk_at "dk"))
  | ((with_reducible apply r_dput))
  | ((with_reducible apply r_dputS); assumption; (walk_at "szT"))
  | ((with_reducible apply r_disp))
  | ((with_reducible apply r_pnil))
  | ((with_reducible apply r_pcons))
  | ((with_reducible apply r_fld))
  | ((with_reducible apply r_fld1); assumption; assumption; assumption; (first | exact rfl | assumption))
  | ((with_reducible apply r_sfld))
  | ((with_reducible apply r_sfld1); assumption; assumption; assumption; exact (by decide)))
local macro_rules | `(tactic| walk_at "rd") => `(tactic| repeat walk_at "rd1")
local macro_rules | `(tactic| walk_at "lk") => `(tactic| first | (with_reducible exact cell_number) | (with_reducible exact cell_loans) | (with_reducible exact frame_owns) | (with_reducible exact frame_handed) | (with_reducible exact frame_roads) | (with_reducible exact want_thing) | (with_reducible exact want_frame) | (with_reducible exact run_program) | (with_reducible exact run_ways) | (with_reducible exact run_commons) | (with_reducible exact run_said) | (with_reducible exact run_lent) | (with_reducible exact run_mixed))
local macro_rules | `(tactic| walk_at "rd1") => `(tactic| first
  | ((with_reducible apply r_enumT))
  | ((with_reducible apply r_overE); (walk_at "sq"))
  | ((with_reducible apply r_zipA))
  | ((with_reducible apply r_zipT); (walk_at "sq"); (walk_at "sq"))
  | ((with_reducible apply r_zip3))
  | ((with_reducible apply r_overZ3); (walk_at "sq"); (walk_at "sq"); (walk_at "sq"))
  | ((with_reducible apply r_make))
  | ((with_reducible apply r_isiC); assumption; assumption; assumption)
  | ((with_reducible apply r_popM))
  | ((with_reducible apply r_pop); assumption)
  | ((with_reducible apply r_tru))
  | ((with_reducible apply r_truL); (walk_at "sq"))
  | ((with_reducible apply r_fld1); assumption; assumption; assumption; (walk_at "lk"))
  | ((with_reducible apply r_sfld1); assumption; assumption; assumption; exact Nat.le_of_ble_eq_true rfl))
section
variable {P : Program} {w : World} {K : PySem.W.Frag} {mg : Str → Option Value} {base : Heap}
/-! ### running.py: the classes, as they are made -/
def spCell (C : Addr) : Sp := fun vs H Q _ => ∃ (p dx : Addr) (n : Int), vs = [.ref p, .int n] ∧ H p = some (.ins C dx []) ∧ ∀ l H', H l = none → Keep [p] H H' → H' p = some (.ins C dx (cellF n l)) → H' l = some (.lst []) → Q .non H'
def spWant (C : Addr) : Sp := fun vs H Q _ => ∃ (p dx : Addr) (t f : V), vs = [.ref p, t, f] ∧ H p = some (.ins C dx []) ∧ ∀ H', Keep [p] H H' → H' p = some (.ins C dx (wantF t f)) → Q .non H'
/-- new cells with these numbers -/
structure News (H H' : Hp) (C : Addr) (ds : List (Addr × Addr)) (ns : List Nat) : Prop where
  l : ds.length = ns.length
  nd : (flat ds).Nodup
  new : ∀ x ∈ flat ds, H x = none
  at_ : ∀ (i : Nat) (c : Addr × Addr), ds[i]? = some c → ∃ (dx : Addr) (n : Nat), ns[i]? = some n ∧ H' c.1 = some (.ins C dx (cellF (n : Int) c.2)) ∧ H' c.2 = some (.lst [])
theorem News.nil {H H' : Hp} {C : Addr} : News H H' C [] [] := ⟨rfl, List.nodup_nil, (fun _ z => nomatch z), fun i c e => by simp at e⟩
theorem News.al {H H' : Hp} {C : Addr} {ds : List (Addr × Addr)} {ns : List Nat} (g : News H H' C ds ns) : ∀ x ∈ flat ds, H' x ≠ none := fun x hx => by
  obtain ⟨i, c, hc, hx⟩ := mem_flat hx
  obtain ⟨dx, n, _, h1, h2⟩ := g.at_ i c hc
  rcases hx with rfl | rfl
  · rw [h1]; exact fun z => nomatch z
  · rw [h2]; exact fun z => nomatch z
theorem News.keep {H H1 H2 : Hp} {C : Addr} {M : List Addr} {ds : List (Addr × Addr)} {ns : List Nat} (g : News H H1 C ds ns) (k : Keep M H1 H2) (n : ∀ x ∈ flat ds, x ∉ M) : News H H2 C ds ns :=
  ⟨g.l, g.nd, g.new, fun i c hc => by
    obtain ⟨dx, m, h0, h1, h2⟩ := g.at_ i c hc
    exact ⟨dx, m, h0, k _ _ h1 (n _ (mem_flat1 hc)), k _ _ h2 (n _ (mem_flat2 hc))⟩⟩
theorem News.back {H0 H H1 : Hp} {C : Addr} {ds : List (Addr × Addr)} {ns : List Nat} (g : News H H1 C ds ns) (f : ∀ x, H x = none → H0 x = none) : News H0 H1 C ds ns := ⟨g.l, g.nd, fun x hx => f x (g.new x hx), g.at_⟩
theorem News.snoc {H H1 H2 : Hp} {C : Addr} {ds : List (Addr × Addr)} {ns : List Nat} {c l dx : Addr} {n : Nat} (g : News H H1 C ds ns) (k : Keep [] H1 H2) (kH : Keep [] H H1) (nc : H1 c = none) (nl : H1 l = none) (cl : c ≠ l) (e1 : H2 c = some (.ins C dx (cellF (n : Int) l))) (e2 : H2 l = some (.lst [])) : News H H2 C (ds ++ [(c, l)]) (ns ++ [n]) := by
  have g2 := g.keep k fun _ _ z => nomatch z
  refine ⟨by rw [List.length_append, List.length_append, g.l]; rfl, ?_, fun x hx => ?_, fun i d hd => ?_⟩
  · rw [flat_app]
    refine List.nodup_append.mpr ⟨g.nd, ?_, fun a ha b hb z => ?_⟩
    · show [c, l].Nodup
      simp [cl]
    · subst z
      have hb' : a = c ∨ a = l := by simpa [flat] using hb
      rcases hb' with rfl | rfl
      · exact g.al _ ha nc
      · exact g.al _ ha nl
  · rw [flat_app] at hx
    rcases List.mem_append.mp hx with hx | hx
    · exact g.new x hx
    · have hb' : x = c ∨ x = l := by simpa [flat] using hx
      rcases hb' with rfl | rfl
      · exact free0 kH nc
      · exact free0 kH nl
  · by_cases ci : i < ds.length
    · rw [List.getElem?_append_left ci] at hd
      obtain ⟨dx, m, h0, h1, h2⟩ := g2.at_ i d hd
      exact ⟨dx, m, by rw [List.getElem?_append_left (by rw [← g.l]; exact ci)]; exact h0, h1, h2⟩
    · have hl : i = ds.length := by
        have := (List.getElem?_eq_some_iff.mp hd).1
        rw [List.length_append, List.length_singleton] at this
        omega
      subst hl
      rw [List.getElem?_append_right (Nat.le_refl _), Nat.sub_self] at hd
      cases hd
      exact ⟨dx, n, by rw [List.getElem?_append_right (by rw [g.l]; exact Nat.le_refl _), g.l, Nat.sub_self]; rfl, e1, e2⟩
def spFrame (kl : Kl) : Sp := fun vs H Q _ => ∃ (p dx : Addr) (n : Nat), vs = [.ref p, .int (n : Int)] ∧ H p = some (.ins kl.F dx []) ∧ n ≤ 1000 ∧
  ∀ (ds : List (Addr × Addr)) (o h d : Addr) (H' : Hp), News H H' kl.C ds (List.replicate n 0) → H o = none → H h = none → H d = none → h ≠ d → o ∉ flat ds → h ∉ flat ds → d ∉ flat ds → Keep [p] H H' → H' p = some (.ins kl.F dx (frameF o h d)) →
    H' o = some (.lst (ds.map fun c => V.ref c.1)) → H' h = some (.lst []) → H' d = some (.lst []) → o ≠ h → o ≠ d → Q .non H'
def spRun (K : PySem.W.Frag) (kl : Kl) : Sp := fun vs H Q _ => ∃ (p dx ca : Addr) (vp vw : V) (cells : List Nat), vs = [.ref p, vp, vw, .ref ca] ∧ H p = some (.ins kl.R dx []) ∧ SqT K H ca (nums cells) ∧ cells.length ≤ 1000 ∧
  ∀ (ds : List (Addr × Addr)) (lc ls : Addr) (H' : Hp), News H H' kl.C ds cells → H lc = none → H ls = none → lc ≠ ls → lc ∉ flat ds → ls ∉ flat ds → Keep [p] H H' → H' p = some (.ins kl.R dx (runF vp vw lc ls 0 false)) →
    H' lc = some (.lst (ds.map fun c => V.ref c.1)) → H' ls = some (.lst []) → Q .non H'
abbrev sCell_init : Stmt := inClass (top 27) 0
abbrev nCell_init : List Str := ["self", "number"]
abbrev pCell_init : List Str := ["self", "number"]
theorem scCell_init : FnScope nCell_init pCell_init (defScope sCell_init) := ⟨rfl, rfl, rfl, by decide +kernel, rfl, by decide +kernel, by decide +kernel⟩
abbrev sWant_init : Stmt := inClass (top 29) 0
abbrev nWant_init : List Str := ["self", "thing", "frame"]
abbrev pWant_init : List Str := ["self", "thing", "frame"]
theorem scWant_init : FnScope nWant_init pWant_init (defScope sWant_init) := ⟨rfl, rfl, rfl, by decide +kernel, rfl, by decide +kernel, by decide +kernel⟩
abbrev sFrame_init : Stmt := inClass (top 28) 0
abbrev nFrame_init : List Str := ["self", "owns", "k"]
abbrev pFrame_init : List Str := ["self", "owns"]
theorem scFrame_init : FnScope nFrame_init pFrame_init (defScope sFrame_init) := ⟨rfl, rfl, rfl, by decide +kernel, rfl, by decide +kernel, by decide +kernel⟩
abbrev sRun_init : Stmt := inClass (top 30) 0
abbrev nRun_init : List Str := ["self", "program", "ways", "cells", "number"]
abbrev pRun_init : List Str := ["self", "program", "ways", "cells"]
theorem scRun_init : FnScope nRun_init pRun_init (defScope sRun_init) := ⟨rfl, rfl, rfl, by decide +kernel, rfl, by decide +kernel, by decide +kernel⟩
theorem okCell {kl : Kl} (D : ClassAt K mg "Cell" "Cell.__init__" kl.C sCell_init pCell_init) (O : Own K mg kl.C kl.F kl.W kl.R) (T : Blt mg) : Maker P w K mg base "Cell" kl.C 1 pCell_init (spCell kl.C) := by
  refine D.ok scCell_init (fun vs H Q E h => ?_) (fun f cdv A outer s H vs Q E hr h => ?_)
  · obtain ⟨p, dx, n, rfl, _⟩ := h
    rfl
  obtain ⟨p, dx, n, rfl, hp, q⟩ := h
  refine ⟨_, (pss_cons (psFld (K := K) (pv 0) (pv 1) rfl)
  (pss_one (psFld (K := K) (pv 0) (pe_lst pa_nil) rfl))), ?_⟩
  have cl := O.tC.cl
  have a1 := O.number
  have a2 := O.loans
  walk_at "rd"
  intro H1 e1 k1
  rw [putF_nil] at e1
  walk_at "rd"
  intro l H2 nl e2 k2
  have e1' := k2 _ _ e1 (by simp)
  walk_at "rd"
  intro H3 e3 k3
  rw [putF_skip (by decide +kernel), putF_nil] at e3
  have pl : p ≠ l := ne_of_none e1 nl
  exact q l H3 (by
    cases z : H l with
    | none => rfl
    | some o => rw [k1 _ _ z (by simpa using Ne.symm pl)] at nl; cases nl) ((k1.by0 k2).trans k3) e3 (k3 _ _ e2 (by simpa using Ne.symm pl))
theorem okWant {kl : Kl} (D : ClassAt K mg "Want" "Want.__init__" kl.W sWant_init pWant_init) (O : Own K mg kl.C kl.F kl.W kl.R) (T : Blt mg) : Maker P w K mg base "Want" kl.W 1 pWant_init (spWant kl.W) := by
  refine D.ok scWant_init (fun vs H Q E h => ?_) (fun f cdv A outer s H vs Q E hr h => ?_)
  · obtain ⟨p, dx, t, f, rfl, _⟩ := h
    rfl
  obtain ⟨p, dx, t, f, rfl, hp, q⟩ := h
  refine ⟨_, (pss_cons (psFld (K := K) (pv 0) (pv 1) rfl)
  (pss_one (psFld (K := K) (pv 0) (pv 2) rfl))), ?_⟩
  have cl := O.tW.cl
  have a1 := O.thing
  have a2 := O.frame
  walk_at "rd"
  intro H1 e1 k1
  rw [putF_nil] at e1
  walk_at "rd"
  intro H3 e3 k3
  rw [putF_skip (by decide +kernel), putF_nil] at e3
  exact q H3 (k1.trans k3) e3
theorem okFrame {kl : Kl} (D : ClassAt K mg "Frame" "Frame.__init__" kl.F sFrame_init pFrame_init) (O : Own K mg kl.C kl.F kl.W kl.R) (T : Blt mg) (C_Cell : Maker P w K mg base "Cell" kl.C 1 pCell_init (spCell kl.C)) : Maker P w K mg base "Frame" kl.F 3 pFrame_init (spFrame kl) := by
  refine D.ok scFrame_init (fun vs H Q E h => ?_) (fun f cdv A outer s H vs Q E hr h => ?_)
  · obtain ⟨p, dx, n, rfl, _⟩ := h
    rfl
  obtain ⟨p, dx, n, rfl, hp, ln, q⟩ := h
  refine ⟨_, (pss_cons (psFld (K := K) (pv 0) (pe_lc (own := [("k", 2)]) (g := gName 2) (by rfl) scFrame_init.nd (pi_range1 rfl T.range (pa_cons (pv 1) pa_nil)) (blkOk_by (own := [("k", 2)]) (N := nFrame_init) (sc := defScope sFrame_init) (by decide +kernel)) (fun _ _ _ _ _ => (pg_name (i := 2) scFrame_init.nd rfl (Or.inl rfl))) (fun _ _ _ _ _ => pts_nil) (fun _ _ _ _ _ => (pmake C_Cell (hr.mono (by omega)) rfl (pa_cons pe_int pa_nil)))) rfl)
  (pss_cons (psFld (K := K) (pv 0) (pe_lst pa_nil) rfl)
  (pss_one (psFld (K := K) (pv 0) (pe_lst pa_nil) rfl)))), ?_⟩
  have cl := O.clF
  have a1 := O.owns
  have a2 := O.handed
  have a3 := O.roads
  have ne : (n : Int).toNat = n := Int.toNat_natCast n
  walk_at "rd"
  rw [ne]
  refine lcR (fun E i H' => ∃ ds, H E = none ∧ Keep [] H H' ∧ News H H' kl.C ds (List.replicate i 0) ∧ H' E = some (.lst (ds.map fun c => V.ref c.1)) ∧ E ∉ flat ds) (fun E H1 nE e1 k1 => ⟨[], nE, k1, News.nil, e1, fun z => nomatch z⟩) (fun E i H1 hi hp => ?_) (fun o H1 hp => ?_)
  · obtain ⟨ds, nE, k1, g, e1, nf⟩ := hp
    have ld : (ds.map fun c => V.ref c.1).length ≤ 1000 := by rw [List.length_map, g.l, List.length_replicate]; omega
    walk_at "rd"
    refine ⟨rfl, ?_⟩
    walk_at "rd"
    refine made fun x dx H2 nx nd nxd h2 hdx k2 => ⟨x, dx, 0, rfl, h2, fun l H3 nl k3 h3 h4 => ⟨rfl, ?_⟩⟩
    have k13 : Keep [] H1 H3 := k2.fresh1 k3 nx
    have e3 := k13 _ _ e1 (by simp)
    have nl1 := free0 k2 nl
    have xl : x ≠ l := ne_of_none h2 nl
    have g3 := g.snoc k13 k1 nx nl1 xl (n := 0) h3 h4
    walk_at "rd"
    intro H4 e4 k4
    have nE' : E ∉ flat (ds ++ [(x, l)]) := fun z => by
      rw [flat_app] at z
      rcases List.mem_append.mp z with z | z
      · exact nf z
      · have : E = x ∨ E = l := by simpa [flat] using z
        rcases this with rfl | rfl
        · rw [e1] at nx; cases nx
        · rw [e1] at nl1; cases nl1
    refine ⟨_, nE, (k1.trans k13).fresh1 k4 nE, ?_, by rw [List.map_append]; exact e4, nE'⟩
    rw [List.replicate_succ']
    exact g3.keep k4 fun y hy z => by
      cases List.mem_singleton.mp z
      exact nE' hy
  obtain ⟨ds, no, k1, g, e1, nf⟩ := hp
  have hp1 := k1 _ _ hp (by simp)
  walk_at "rd"
  intro H2 h2 k2
  rw [putF_nil] at h2
  walk_at "rd"
  intro h H3 nh h3 k3
  have h23 := k3 _ _ h2 (by simp)
  walk_at "rd"
  intro H4 h4 k4
  rw [putF_skip (by decide +kernel), putF_nil] at h4
  walk_at "rd"
  intro d H5 nd h5 k5
  have h45 := k5 _ _ h4 (by simp)
  walk_at "rd"
  intro H6 h6 k6
  rw [putF_skip (by decide +kernel), putF_skip (by decide +kernel), putF_nil] at h6
  have po : o ≠ p := fun z => by rw [z, hp] at no; cases no
  have pf : ∀ x ∈ flat ds, x ∉ [p] := fun x hx z => by
    cases List.mem_singleton.mp z
    have := g.new _ hx
    rw [hp] at this
    cases this
  have hpn : p ≠ h := ne_of_none h2 nh
  have dpn : p ≠ d := ne_of_none h4 nd
  have nh1 : H1 h = none := by
    cases z : H1 h with
    | none => rfl
    | some o => rw [k2 _ _ z (by simpa using Ne.symm hpn)] at nh; cases nh
  have nd3 : H3 d = none := by
    cases z : H3 d with
    | none => rfl
    | some o => rw [k4 _ _ z (by simpa using Ne.symm dpn)] at nd; cases nd
  have nd2 : H2 d = none := free0 k3 nd3
  have nd1 : H1 d = none := by
    cases z : H1 d with
    | none => rfl
    | some o => rw [k2 _ _ z (by simpa using Ne.symm dpn)] at nd2; cases nd2
  have e2 := k2 _ _ e1 (by simpa using po)
  have k26 : Keep [p] H2 H6 := (((k0 k3).trans k4).by0 k5).trans k6
  have g6 := ((g.keep k2 pf).keep k26 pf)
  have hd : h ≠ d := fun z => by rw [z, nd3] at h3; cases h3
  refine q ds o h d H6 g6 no (free0 k1 nh1) (free0 k1 nd1) hd nf (fun z => g.al _ z nh1) (fun z => g.al _ z nd1) (((k0 k1).trans k2).trans k26) h6 (k26 _ _ e2 (by simpa using po)) ?_ ?_ (fun z => by rw [z, nh1] at e1; cases e1) (fun z => by rw [z, nd1] at e1; cases e1)
  · exact k6 _ _ (k5 _ _ (k4 _ _ h3 (by simpa using Ne.symm hpn)) (by simp)) (by simpa using Ne.symm hpn)
  · exact k6 _ _ h5 (by simpa using Ne.symm dpn)
theorem okRun {kl : Kl} (D : ClassAt K mg "Run" "Run.__init__" kl.R sRun_init pRun_init) (O : Own K mg kl.C kl.F kl.W kl.R) (T : Blt mg) (C_Cell : Maker P w K mg base "Cell" kl.C 1 pCell_init (spCell kl.C)) : Maker P w K mg base "Run" kl.R 3 pRun_init (spRun K kl) := by
  refine D.ok scRun_init (fun vs H Q E h => ?_) (fun f cdv A outer s H vs Q E hr h => ?_)
  · obtain ⟨p, dx, ca, vp, vw, cells, rfl, _⟩ := h
    rfl
  obtain ⟨p, dx, ca, vp, vw, cells, rfl, hp, hca, lc0, q⟩ := h
  refine ⟨_, (pss_cons (psFld (K := K) (pv 0) (pv 1) rfl)
  (pss_cons (psFld (K := K) (pv 0) (pv 2) rfl)
  (pss_cons (psFld (K := K) (pv 0) (pe_lc (own := [("number", 4)]) (g := gName 4) (by rfl) scRun_init.nd (piTup (K := K) (pv 3)) (blkOk_by (own := [("number", 4)]) (N := nRun_init) (sc := defScope sRun_init) (by decide +kernel)) (fun _ _ _ _ _ => (pg_name (i := 4) scRun_init.nd rfl (Or.inl rfl))) (fun _ _ _ _ _ => pts_nil) (fun _ _ _ _ _ => (pmake C_Cell (hr.mono (by omega)) rfl (pa_cons (pv 4) pa_nil)))) rfl)
  (pss_cons (psFld (K := K) (pv 0) (pe_lst pa_nil) rfl)
  (pss_cons (psFld (K := K) (pv 0) pe_int rfl)
  (pss_one (psFld (K := K) (pv 0) pe_bl rfl))))))), ?_⟩
  have cl := O.clR
  have a1 := O.program
  have a2 := O.ways
  have a3 := O.commons
  have a4 := O.said
  have a5 := O.lent
  have a6 := O.mixed
  have lo : Lo H [p] := fun x hx => by cases List.mem_singleton.mp hx; exact .inr (.inr ⟨_, _, _, hp⟩)
  walk_at "rd"
  intro H1 h1 k1
  rw [putF_nil] at h1
  walk_at "rd"
  intro H2 h2 k2
  rw [putF_skip (by decide +kernel), putF_nil] at h2
  have k02 := k1.trans k2
  have hca2 := (k02.ts lo).sqT hca
  have np : ∀ x, H2 x = none → H x = none := fun x hx => by
    cases z : H x with
    | none => rfl
    | some o =>
      by_cases c : x = p
      · rw [c, h2] at hx; cases hx
      · rw [k02 _ _ z (by simpa using c)] at hx; cases hx
  walk_at "rd"
  refine lcT (xs := nums cells) (fun E i H' => ∃ ds, H2 E = none ∧ Keep [] H2 H' ∧ News H2 H' kl.C ds (cells.take i) ∧ H' E = some (.lst (ds.map fun c => V.ref c.1)) ∧ E ∉ flat ds) (fun E H3 nE e1 k1 => ⟨[], nE, k1, News.nil, e1, fun z => nomatch z⟩) (fun E i H3 hi hp => (kts0 hp.choose_spec.2.1).sqT hca2) (fun E i x H3 hx hp => ?_) (fun o H3 hp => ?_)
  · obtain ⟨ds, nE, k1, g, e1, nf⟩ := hp
    unfold nums at hx
    rw [List.getElem?_map] at hx
    obtain ⟨n, en, rfl⟩ := Option.map_eq_some_iff.mp hx
    have ld : (ds.map fun c => V.ref c.1).length ≤ 1000 := by rw [List.length_map, g.l, List.length_take]; omega
    walk_at "rd"
    refine ⟨rfl, ?_⟩
    walk_at "rd"
    refine made fun x dx H4 nx nd nxd h4 hdx k2 => ⟨x, dx, (n : Int), rfl, h4, fun l H5 nl k3 h5 h6 => ⟨rfl, ?_⟩⟩
    have k13 : Keep [] H3 H5 := k2.fresh1 k3 nx
    have e3 := k13 _ _ e1 (by simp)
    have nl1 := free0 k2 nl
    have xl : x ≠ l := ne_of_none h4 nl
    have g3 := g.snoc k13 k1 nx nl1 xl (n := n) h5 h6
    walk_at "rd"
    intro H6 e4 k4
    have nE' : E ∉ flat (ds ++ [(x, l)]) := fun z => by
      rw [flat_app] at z
      rcases List.mem_append.mp z with z | z
      · exact nf z
      · have : E = x ∨ E = l := by simpa [flat] using z
        rcases this with rfl | rfl
        · rw [e1] at nx; cases nx
        · rw [e1] at nl1; cases nl1
    refine ⟨_, nE, (k1.trans k13).fresh1 k4 nE, ?_, by rw [List.map_append]; exact e4, nE'⟩
    rw [List.take_add_one, en]
    exact g3.keep k4 fun y hy z => by
      cases List.mem_singleton.mp z
      exact nE' hy
  obtain ⟨ds, no, k3, g, e1, nf⟩ := hp
  rw [nums_len, List.take_length] at g
  have h3 := k3 _ _ h2 (by simp)
  walk_at "rd"
  intro H4 h4 k4
  rw [putF_skip (by decide +kernel), putF_skip (by decide +kernel), putF_nil] at h4
  walk_at "rd"
  intro ls H5 nls h5 k5
  have h45 := k5 _ _ h4 (by simp)
  walk_at "rd"
  intro H6 h6 k6
  rw [putF_skip (by decide +kernel), putF_skip (by decide +kernel), putF_skip (by decide +kernel), putF_nil] at h6
  walk_at "rd"
  intro H7 h7 k7
  rw [putF_skip (by decide +kernel), putF_skip (by decide +kernel), putF_skip (by decide +kernel), putF_skip (by decide +kernel), putF_nil] at h7
  walk_at "rd"
  intro H8 h8 k8
  rw [putF_skip (by decide +kernel), putF_skip (by decide +kernel), putF_skip (by decide +kernel), putF_skip (by decide +kernel), putF_skip (by decide +kernel), putF_nil] at h8
  have po : o ≠ p := fun z => by rw [z, h2] at no; cases no
  have pf : ∀ x ∈ flat ds, x ∉ [p] := fun x hx z => by
    cases List.mem_singleton.mp z
    have := g.new _ hx
    rw [h2] at this
    cases this
  have pls : p ≠ ls := ne_of_none h4 nls
  have nls3 : H3 ls = none := by
    cases z : H3 ls with
    | none => rfl
    | some o => rw [k4 _ _ z (by simpa using Ne.symm pls)] at nls; cases nls
  have k48 : Keep [p] H4 H8 := (((k0 k5).trans k6).trans k7).trans k8
  have g8 := ((g.keep k4 pf).keep k48 pf).back np
  have e4 := k4 _ _ e1 (by simpa using po)
  exact q ds o ls H8 g8 (np _ no) (np _ (free0 k3 nls3)) (fun z => by rw [z, nls3] at e1; cases e1) nf (fun z => g.al _ z nls3) (((k02.by0 k3).trans k4).trans k48) h8 (k48 _ _ e4 (by simpa using po)) (k8 _ _ (k7 _ _ (k6 _ _ h5 (by simpa using Ne.symm pls)) (by simpa using Ne.symm pls)) (by simpa using Ne.symm pls))
end
end Hw
namespace Hw
open PySem PySem.Spec PyProof.Rows L2
local macro_rules | `(tactic| walk_at "sz") => `(tactic| first | exact Nat.le_of_ble_eq_true rfl | exact small (by first | omega | (simp; done) | (simp; omega)))
local macro_rules | `(tactic| walk_at "szT") => `(tactic| first | exact Nat.lt_of_lt_of_le (Nat.lt_succ_self _) (Nat.le_of_ble_eq_true rfl) | exact smallT (by first | omega | (simp; done) | (simp; omega)))
local macro_rules | `(tactic| walk_at "cond") => `(tactic| first | decide | omega | (dsimp only; omega) | exact ⟨by omega, by omega⟩ | exact .inr ⟨by decide, by decide⟩)
local macro_rules | `(tactic| walk_at "sq") => `(tactic| first | assumption | exact SqL.of (by assumption) | exact SqT.of (by assumption))
local macro_rules | `(tactic| walk_at "ty") => `(tactic| first | (with_reducible assumption) | exact .base (.int _) | exact .base (.str _) | exact .base (.bl _) | exact .base .non | exact tyT (by walk_at "sq") | exact tyL (by walk_at "sq"))
local macro_rules | `(tactic| walk_at "rd1") => `(tactic| first
  | ((with_reducible apply r_seq))
  | ((with_reducible apply r_asg))
  | ((with_reducible apply r_name))
  | ((with_reducible apply r_op))
  | ((with_reducible apply r_var); exact rfl)
  | ((with_reducible apply r_c))
  | ((with_reducible apply r_ixT); (walk_at "sq"); first | exact rfl | assumption)
  | ((with_reducible apply r_ixL); (walk_at "sq"); first | exact rfl | assumption)
  | ((with_reducible apply r_ixA); (first | exact .inl (by walk_at "sq") | exact .inr (by walk_at "sq")); first | exact rfl | assumption)
  | ((with_reducible apply r_isi); (walk_at "ty"); (decide +kernel))
  | ((with_reducible apply r_isiT2); assumption; (walk_at "ty"); (decide +kernel); (decide +kernel))
  | ((with_reducible apply r_I0))
  | ((with_reducible apply r_I); (walk_at "cond"))
  | ((with_reducible apply r_eq); exact rfl)
  | ((with_reducible apply r_ne); exact rfl)
  | ((with_reducible apply r_test))
  | ((with_reducible apply r_bl))
  | ((with_reducible apply r_if))
  | ((with_reducible apply r_nil))
  | ((with_reducible apply r_cons))
  | ((with_reducible apply r_call))
  | ((with_reducible apply r_cb))
  | ((with_reducible apply r_tup))
  | ((with_reducible apply r_lst))
  | ((with_reducible apply new); (walk_at "sz"))
  | ((with_reducible apply r_ret))
  | ((with_reducible apply r_retN))
  | ((with_reducible apply r_next))
  | ((with_reducible apply r_drop))
  | ((with_reducible apply r_lenL); (walk_at "sq"))
  | ((with_reducible apply r_lenT); (walk_at "sq"))
  | ((with_reducible apply r_int))
  | ((with_reducible apply r_intB))
  | ((with_reducible apply r_isN))
  | ((with_reducible apply r_notN))
  | ((with_reducible apply r_B))
  | ((with_reducible apply r_not))
  | ((with_reducible apply r_notV))
  | ((with_reducible apply r_andV))
  | ((with_reducible apply r_orV))
  | ((with_reducible apply r_ifE))
  | ((with_reducible apply r_chain))
  | ((with_reducible apply ite_t); (first | (with_reducible exact nRN) | (with_reducible exact nIN) | (with_reducible exact dNN) | decide +kernel))
  | ((with_reducible apply ite_f); (first | (with_reducible exact dRN) | (with_reducible exact dIN) | (with_reducible exact nNN) | decide +kernel))
  | ((with_reducible apply r_in); (first | exact .inl (by walk_at "sq") | exact .inr (by walk_at "sq")); exact rfl; (first | exact nums_flat | exact rfl))
  | ((with_reducible apply turn))
  | ((with_reducible apply r_for))
  | ((with_reducible apply r_iRng1))
  | ((with_reducible apply r_rng); (first | decide | omega | (simp; omega)); (first | decide | omega | (simp; omega)))
  | ((with_reducible apply r_iList))
  | ((with_reducible apply r_iTup))
  | ((with_reducible apply r_overL); (walk_at "sq"))
  | ((with_reducible apply r_overT); (walk_at "sq"))
  | ((with_reducible apply r_lc))
  | ((with_reducible apply acc); assumption; (walk_at "szT"))
  | ((with_reducible apply r_sub))
  | ((with_reducible apply r_setL); assumption; exact rfl)
  | ((with_reducible apply r_gtup); (walk_at "sq"); rfl)
  | ((with_reducible apply r_gnil))
  | ((with_reducible apply r_gcons))
  | ((with_reducible apply r_par))
  | ((with_reducible apply r_par2))
  | ((with_reducible apply r_sl))
  | ((with_reducible apply r_part))
  | ((with_reducible apply r_part1))
  | ((with_reducible apply r_noPart))
  | ((with_reducible apply r_slL); (walk_at "sq"))
  | ((with_reducible apply r_slA); (walk_at "sq"))
  | ((with_reducible apply r_tupL); (walk_at "sq"))
  | ((with_reducible apply r_tupT); (walk_at "sq"))
  | ((with_reducible apply r_lstL); (walk_at "sq"))
  | ((with_reducible apply r_lstT); (walk_at "sq"))
  | ((with_reducible apply r_append))
  | ((with_reducible apply r_isL); (walk_at "sq"))
  | ((with_reducible apply r_app); assumption; (walk_at "szT"))
  | ((with_reducible apply r_dget))
  | ((with_reducible apply r_dgetS); assumption; (walk_at "dk"))
  | ((with_reducible apply r_dput))
  | ((with_reducible apply r_dputS); assumption; (walk_at "szT"))
  | ((with_reducible apply r_disp))
  | ((with_reducible apply r_pnil))
  | ((with_reducible apply r_pcons))
  | ((with_reducible apply r_fld))
  | ((with_reducible apply r_fld1); assumption; assumption; assumption; (first | exact rfl | assumption))
  | ((with_reducible apply r_sfld))
  | ((with_reducible apply r_sfld1); assumption; assumption; assumption; exact (by decide)))
local macro_rules | `(tactic| walk_at "rd") => `(tactic| repeat walk_at "rd1")
local macro_rules | `(tactic| walk_at "lk") => `(tactic| first | (with_reducible exact cell_number) | (with_reducible exact cell_loans) | (with_reducible exact frame_owns) | (with_reducible exact frame_handed) | (with_reducible exact frame_roads) | (with_reducible exact want_thing) | (with_reducible exact want_frame) | (with_reducible exact run_program) | (with_reducible exact run_ways) | (with_reducible exact run_commons) | (with_reducible exact run_said) | (with_reducible exact run_lent) | (with_reducible exact run_mixed))
local macro_rules | `(tactic| walk_at "rd1") => `(tactic| first
  | ((with_reducible apply r_enumT))
  | ((with_reducible apply r_overE); (walk_at "sq"))
  | ((with_reducible apply r_zipA))
  | ((with_reducible apply r_zipT); (walk_at "sq"); (walk_at "sq"))
  | ((with_reducible apply r_zip3))
  | ((with_reducible apply r_overZ3); (walk_at "sq"); (walk_at "sq"); (walk_at "sq"))
  | ((with_reducible apply r_make))
  | ((with_reducible apply r_isiC); assumption; assumption; assumption)
  | ((with_reducible apply r_popM))
  | ((with_reducible apply r_pop); assumption)
  | ((with_reducible apply r_tru))
  | ((with_reducible apply r_truL); (walk_at "sq"))
  | ((with_reducible apply r_fld1); assumption; assumption; assumption; (walk_at "lk"))
  | ((with_reducible apply r_sfld1); assumption; assumption; assumption; exact Nat.le_of_ble_eq_true rfl))
section
variable {P : Program} {w : World} {K : PySem.W.Frag} {mg : Str → Option Value} {base : Heap}
/-! ### running.py: road_of, come_to -/
/-- all of the program that its defs name -/
structure Prg (K : PySem.W.Frag) (tk : Nat → Tok) (aP aW : Addr) (kl : Kl) (mg : Str → Option Value) : Prop extends Cst K tk aP aW mg where
  own : Own K mg kl.C kl.F kl.W kl.R
  Want : mg "Want" = some (.ref kl.W)
def spRoadOf (K : PySem.W.Frag) (kl : Kl) (n : Nat) : Sp := fun vs H Q _ => ∃ (vf vt : V) (M : List Addr) (cs : List (Addr × Addr)) (at_ : List Nat) (f : Fr) (t : Th) (p : Nat) (ws : List Nat), vs = [vf, vt] ∧ PFr K H kl M cs f vf ∧ Rp K H vt t.enc ∧ roadF at_ n f t = some (some (p, ws)) ∧
  (∀ (i : Nat) (c : Addr × Addr), cs[i]? = some c → ∃ dx fs, H c.1 = some (.ins kl.C dx fs)) ∧ ∀ (tp : Addr) (L : List Nat) (H' : Hp), Keep [] H H' → SqT K H' tp (nums L) → ws = L.map (· + 1) → Q (.ref tp) H'
def spComeTo (K : PySem.W.Frag) (kl : Kl) (n : Nat) : Sp := fun vs H Q _ => ∃ (R : Rn) (vf vt : V) (cs : List (Addr × Addr)) (S : LS) (lo : Nat → List Nat) (f : Fr) (t : Th) (p : Nat) (ws : List Nat) (c : Addr × Addr), vs = [.ref R.r, vf, vt, .ref c.1] ∧ PSt K H kl R cs S lo ∧ PFr K H kl (trk R cs) cs f vf ∧ Rp K H vt t.enc ∧
  roadF S.at_ n f t = some (some (p, ws)) ∧ cs[p]? = some c ∧ ∀ H', Keep [R.r] H H' → PSt K H' kl R cs (S.mix ((lo p).any fun q => !decide (q ∈ ws))) lo → Q .non H'
abbrev sroad_of : Stmt := top 39
abbrev nroad_of : List Str := ["frame", "place", "handed"]
abbrev proad_of : List Str := ["frame", "place"]
theorem scroad_of : FnScope nroad_of proad_of (defScope sroad_of) := ⟨rfl, rfl, rfl, by decide +kernel, rfl, by decide +kernel, by decide +kernel⟩
abbrev scome_to : Stmt := top 38
abbrev ncome_to : List Str := ["run", "frame", "place", "cell", "road", "loan"]
abbrev pcome_to : List Str := ["run", "frame", "place", "cell"]
theorem sccome_to : FnScope ncome_to pcome_to (defScope scome_to) := ⟨rfl, rfl, rfl, by decide +kernel, rfl, by decide +kernel, by decide +kernel⟩
theorem okRoadOf {tk : Nat → Tok} {aP aW : Addr} {kl : Kl} {n : Nat} (D : DefAt K mg "road_of" sroad_of proad_of) (T : Prg K tk aP aW kl mg) (C_road_of : Callee P w K mg base "road_of" n proad_of (spRoadOf K kl n)) : Callee P w K mg base "road_of" (n + 1) proad_of (spRoadOf K kl (n + 1)) := by
  refine D.ok scroad_of (fun vs H Q E h => ?_) (fun f cdv A outer s H vs Q E hr h => ?_)
  · obtain ⟨vf, vt, M, cs, at_, f, t, p, ws, rfl, _⟩ := h
    rfl
  obtain ⟨vf, vt, M, cs, at_, f, t, p, ws, rfl, hF, hT, e, hc, q⟩ := h
  refine ⟨_, (pss_cons (ps_if (pt_cmpR op_ne (pe_ix (ixT (K := K)) (pv 1) pe_int (fun _ _ => rfl)) pe_str (nomark _)) (pss_one (ps_ret (pe_tup pa_nil))) pss_nil)
  (pss_cons (ps_set (i := 2) scroad_of.nd rfl (Or.inl rfl) (pe_ix (ixL (K := K)) (peFld (K := K) (pv 0) rfl) (pe_ix (ixT (K := K)) (pv 1) pe_int (fun _ _ => rfl)) (fun _ _ => rfl)))
  (pss_cons (ps_if (pt_val (pe_callB (cIsi (K := K)) (by rfl) T.isinstance (by decide +kernel) (pa_cons (pv 2) (pa_cons (pe_glob (v := .ref _) rfl T.Want rfl) pa_nil)))) (pss_one (ps_ret (pcall C_road_of (hr.mono (by omega)) rfl (pa_cons (peFld (K := K) (pv 2) rfl) (pa_cons (peFld (K := K) (pv 2) rfl) pa_nil))))) pss_nil)
  (pss_one (ps_ret (pe_ix (ixL (K := K)) (peFld (K := K) (pv 0) rfl) (pe_ix (ixT (K := K)) (pv 1) pe_int (fun _ _ => rfl)) (fun _ _ => rfl))))))), ?_⟩
  cases t with
  | num k => unfold roadF at e; cases e
  | sum a b => unfold roadF at e; cases e
  | cell u =>
    obtain ⟨a, x, rfl, hS, _⟩ := Th.inv_cell hT
    have a0 : atI [V.str "cell", x] 0 = some (.str "cell") := at0
    have ew : ws = [] := by
      unfold roadF at e
      cases z : numF at_ n f u with
      | none => rw [z] at e; cases e
      | some x => rw [z] at e; cases e; rfl
    walk_at "rd"
    intro tp H1 ntp h1 k1
    exact q tp [] H1 k1 (SqT.of h1) ew
  | own k =>
    obtain ⟨a, rfl, hS⟩ := Th.inv_own hT
    have a0 : atI [V.str "own", V.int (k : Int)] 0 = some (.str "own") := at0
    have ew : ws = [] := by
      obtain ⟨os, hs⟩ := f
      unfold roadF at e
      cases z : os[k]? with
      | none => rw [z] at e; cases e
      | some x => rw [z] at e; cases e; rfl
    walk_at "rd"
    intro tp H1 ntp h1 k1
    exact q tp [] H1 k1 (SqT.of h1) ew
  | par k =>
    obtain ⟨a, rfl, hS⟩ := Th.inv_par hT
    have a0 : atI [V.str "par", V.int (k : Int)] 0 = some (.str "par") := at0
    have a1 : atI [V.str "par", V.int (k : Int)] 1 = some (.int (k : Int)) := at1
    obtain ⟨os, hs⟩ := f
    unfold PFr at hF
    obtain ⟨af, dx, o, h, d, zs, xs, ys, rfl, h1, m1, h2, m2, h3, h4, m4, h5, m5, h6⟩ := hF
    unfold roadF at e
    cases z : hs.get k with
    | none => rw [z] at e; cases e
    | some hd =>
      rw [z] at e
      obtain ⟨x, y, ex, ey, hp⟩ := h6.get z
      have ax := atI_nat ex
      have ay := atI_nat ey
      have clF := T.own.clF
      have nh := T.own.handed
      have nr := T.own.roads
      cases hd with
      | road p2 ws2 =>
        cases e
        unfold PHd at hp
        obtain ⟨c, tp, L, hc1, rfl, rfl, hL, ew⟩ := hp
        obtain ⟨dxc, fs, hcc⟩ := hc _ _ hc1
        have tC := T.own.tC
        have nW := T.own.notW
        walk_at "rd"
        exact q tp L H Keep.refl hL ew
      | want u f2 =>
        unfold PHd at hp
        obtain ⟨aw, dxw, vt2, vf2, rfl, hw1, mw, hw2, hw3⟩ := hp
        have tW := T.own.tW
        have clW := T.own.tW.cl
        have iW := T.own.isW
        have nt := T.own.thing
        have nf := T.own.frame
        walk_at "rd"
        refine ask ⟨vf2, vt2, M, cs, at_, f2, u, p, ws, rfl, hw3, hw2, e, hc, q⟩
theorem LS.mix_true (S : LS) : S.mix true = { S with mixed := true } := by unfold LS.mix; rw [Bool.or_true]
theorem mem_succ {l : Nat} {L : List Nat} : (l + 1 ∈ L.map (· + 1)) ↔ l ∈ L := by
  rw [List.mem_map]
  constructor
  · rintro ⟨a, h, e⟩
    have : a = l := by omega
    exact this ▸ h
  · exact fun h => ⟨l, h, rfl⟩
theorem okComeTo {tk : Nat → Tok} {aP aW : Addr} {kl : Kl} {n : Nat} (D : DefAt K mg "come_to" scome_to pcome_to) (T : Prg K tk aP aW kl mg) (C_road_of : Callee P w K mg base "road_of" n proad_of (spRoadOf K kl n)) : Callee P w K mg base "come_to" (n + 1) pcome_to (spComeTo K kl n) := by
  refine D.ok sccome_to (fun vs H Q E h => ?_) (fun f cdv A outer s H vs Q E hr h => ?_)
  · obtain ⟨R, vf, vt, cs, S, lo, f, t, p, ws, c, rfl, _⟩ := h
    rfl
  obtain ⟨R, vf, vt, cs, S, lo, f, t, p, ws, c, rfl, g, hF, hT, e, hc, q⟩ := h
  obtain ⟨dx, nn, L, e1, e2, e3, e4⟩ := g.cell p c hc
  have clC := T.own.tC.cl
  have nl := T.own.loans
  have clR := T.own.clR
  have nm := T.own.mixed
  rw [e4] at q
  refine ⟨_, (pss_one (ps_if (ptTruL (K := K) (peFld (K := K) (pv 3) rfl)) (pss_cons (ps_set (i := 4) sccome_to.nd rfl (Or.inl rfl) (pcall C_road_of (hr.mono (by omega)) rfl (pa_cons (pv 1) (pa_cons (pv 2) pa_nil))))
  (pss_one (ps_for PassesOwn.never rfl (piList (K := K) (peFld (K := K) (pv 3) rfl)) (pg_name (i := 5) sccome_to.nd rfl (Or.inl rfl))
   (pss_one (ps_if (pt_cmpR (opNotIn (K := K)) (pv 5) (pv 4) (by with_unfolding_all rfl)) (pss_one (psFld (K := K) (pv 0) pe_bl rfl)) pss_nil))))) pss_nil)), ?_⟩
  walk_at "rd"
  cases L with
  | nil =>
    rw [if_neg (by decide +kernel)]
    walk_at "rd"
    exact q H Keep.refl (by rw [show ((([] : List Nat).map (· + 1)).any fun q => !decide (q ∈ ws)) = false from rfl, LS.mix_false]; exact g)
  | cons l0 L0 =>
    rw [if_pos (show (!(nums (l0 :: L0)).isEmpty) = true from rfl)]
    walk_at "rd"
    refine ask ⟨vf, vt, trk R cs, cs, S.at_, f, t, p, ws, rfl, hF, hT, e, (fun i c hc => by
      obtain ⟨dx, n, L, _, h, _⟩ := g.cell i c hc
      exact ⟨dx, _, h⟩), fun tp L2 H1 k1 hS ew => ?_⟩
    subst ew
    have g1 := g.keep0 k1
    have e2' := k1 _ _ e2 (by simp)
    have e3' := k1 _ _ e3 (by simp)
    walk_at "rd"
    refine forL (xs := nums (l0 :: L0)) (fun i σ H' => ∃ x5 : Option V, σ = [some (.ref R.r), some vf, some vt, some (.ref c.1), some (.ref tp), x5] ∧ Keep [R.r] H H' ∧ Keep [R.r] H1 H' ∧ PSt K H' kl R cs (S.mix ((((l0 :: L0).take i).map (· + 1)).any fun q => !decide (q ∈ L2.map (· + 1)))) lo)
      ⟨_, rfl, k0 k1, Keep.refl, by rw [List.take_zero, show ((([] : List Nat).map (· + 1)).any fun q => !decide (q ∈ L2.map (· + 1))) = false from rfl, LS.mix_false]; exact g1⟩ (fun i σ H' _ hp => ?_) (fun i x σ H' hx hp => ?_) (fun σ H' hp => ?_)
    · obtain ⟨x5, rfl, k, k', g'⟩ := hp
      refine SqL.of (k' _ _ e3' fun z => ?_)
      have := List.mem_singleton.mp z
      exact g.rf (by rw [← this]; exact mem_flat2 hc)
    · obtain ⟨x5, rfl, k, k', g'⟩ := hp
      unfold nums at hx
      rw [List.getElem?_map] at hx
      obtain ⟨l, el, rfl⟩ := Option.map_eq_some_iff.mp hx
      have hS' := (k'.ts (M := [R.r]) fun x hx => by
        cases List.mem_singleton.mp hx
        obtain ⟨dr, er⟩ := g1.run
        exact .inr (.inr ⟨_, _, _, er⟩)).sqT hS
      have step : ((((l0 :: L0).take (i + 1)).map (· + 1)).any fun q => !decide (q ∈ L2.map (· + 1))) = (((((l0 :: L0).take i).map (· + 1)).any fun q => !decide (q ∈ L2.map (· + 1))) || !decide (l ∈ L2)) := by
        rw [List.take_succ, el, List.map_append, List.any_append]
        congr 1
        show ([l + 1].any fun q => !decide (q ∈ L2.map (· + 1))) = _
        rw [List.any_cons, List.any_nil, Bool.or_false]
        by_cases c : l ∈ L2
        · rw [decide_eq_true c, decide_eq_true (mem_succ.mpr c)]
        · rw [decide_eq_false c, decide_eq_false fun z => c (mem_succ.mp z)]
      walk_at "rd"
      rw [inV_nums]
      refine ite2 (fun c => ?_) (fun c => ?_)
      · have c' : (!decide (l ∈ L2)) = true := c
        rw [c', Bool.or_true] at step
        obtain ⟨dr, er⟩ := g'.run
        walk_at "rd"
        intro H2 h2 k2
        rw [run_put_mixed] at h2
        refine ⟨_, rfl, k.trans k2, k'.trans k2, ?_⟩
        rw [step, LS.mix_true]
        exact g'.fields k2 h2
      · have c' : (!decide (l ∈ L2)) = false := Bool.eq_false_iff.mpr c
        rw [c', Bool.or_false] at step
        walk_at "rd"
        exact ⟨_, rfl, k, k', by rw [step]; exact g'⟩
    · obtain ⟨x5, rfl, k, k', g'⟩ := hp
      rw [nums_len, List.take_length] at g'
      exact q H' k g'
end
end Hw
namespace Hw
open PySem PySem.Spec PyProof.Rows L2
local macro_rules | `(tactic| walk_at "sz") => `(tactic| first | exact Nat.le_of_ble_eq_true rfl | exact small (by first | omega | (simp; done) | (simp; omega)))
local macro_rules | `(tactic| walk_at "szT") => `(tactic| first | exact Nat.lt_of_lt_of_le (Nat.lt_succ_self _) (Nat.le_of_ble_eq_true rfl) | exact smallT (by first | omega | (simp; done) | (simp; omega)))
local macro_rules | `(tactic| walk_at "cond") => `(tactic| first | decide | omega | (dsimp only; omega) | exact ⟨by omega, by omega⟩ | exact .inr ⟨by decide, by decide⟩)
local macro_rules | `(tactic| walk_at "sq") => `(tactic| first | assumption | exact SqL.of (by assumption) | exact SqT.of (by assumption))
local macro_rules | `(tactic| walk_at "ty") => `(tactic| first | (with_reducible assumption) | exact .base (.int _) | exact .base (.str _) | exact .base (.bl _) | exact .base .non | exact tyT (by walk_at "sq") | exact tyL (by walk_at "sq"))
local macro_rules | `(tactic| walk_at "rd1") => `(tactic| first
  | ((with_reducible apply r_seq))
  | ((with_reducible apply r_asg))
  | ((with_reducible apply r_name))
  | ((with_reducible apply r_op))
  | ((with_reducible apply r_var); exact rfl)
  | ((with_reducible apply r_c))
  | ((with_reducible apply r_ixT); (walk_at "sq"); first | exact rfl | assumption)
  | ((with_reducible apply r_ixL); (walk_at "sq"); first | exact rfl | assumption)
  | ((with_reducible apply r_ixA); (first | exact .inl (by walk_at "sq") | exact .inr (by walk_at "sq")); first | exact rfl | assumption)
  | ((with_reducible apply r_isi); (walk_at "ty"); (decide +kernel))
  | ((with_reducible apply r_isiT2); assumption; (walk_at "ty"); (decide +kernel); (decide +kernel))
  | ((with_reducible apply r_I0))
  | ((with_reducible apply r_I); (walk_at "cond"))
  | ((with_reducible apply r_eq); exact rfl)
  | ((with_reducible apply r_ne); exact rfl)
  | ((with_reducible apply r_test))
  | ((with_reducible apply r_bl))
  | ((with_reducible apply r_if))
  | ((with_reducible apply r_nil))
  | ((with_reducible apply r_cons))
  | ((with_reducible apply r_call))
  | ((with_reducible apply r_cb))
  | ((with_reducible apply r_tup))
  | ((with_reducible apply r_lst))
  | ((with_reducible apply new); (walk_at "sz"))
  | ((with_reducible apply r_ret))
  | ((with_reducible apply r_retN))
  | ((with_reducible apply r_next))
  | ((with_reducible apply r_drop))
  | ((with_reducible apply r_lenL); (walk_at "sq"))
  | ((with_reducible apply r_lenT); (walk_at "sq"))
  | ((with_reducible apply r_int))
  | ((with_reducible apply r_intB))
  | ((with_reducible apply r_isN))
  | ((with_reducible apply r_notN))
  | ((with_reducible apply r_B))
  | ((with_reducible apply r_not))
  | ((with_reducible apply r_notV))
  | ((with_reducible apply r_andV))
  | ((with_reducible apply r_orV))
  | ((with_reducible apply r_ifE))
  | ((with_reducible apply r_chain))
  | ((with_reducible apply ite_t); (first | (with_reducible exact nRN) | (with_reducible exact nIN) | (with_reducible exact dNN) | decide +kernel))
  | ((with_reducible apply ite_f); (first | (with_reducible exact dRN) | (with_reducible exact dIN) | (with_reducible exact nNN) | decide +kernel))
  | ((with_reducible apply r_in); (first | exact .inl (by walk_at "sq") | exact .inr (by walk_at "sq")); exact rfl; (first | exact nums_flat | exact rfl))
  | ((with_reducible apply turn))
  | ((with_reducible apply r_for))
  | ((with_reducible apply r_iRng1))
  | ((with_reducible apply r_rng); (first | decide | omega | (simp; omega)); (first | decide | omega | (simp; omega)))
  | ((with_reducible apply r_iList))
  | ((with_reducible apply r_iTup))
  | ((with_reducible apply r_overL); (walk_at "sq"))
  | ((with_reducible apply r_overT); (walk_at "sq"))
  | ((with_reducible apply r_lc))
  | ((with_reducible apply acc); assumption; (walk_at "szT"))
  | ((with_reducible apply r_sub))
  | ((with_reducible apply r_setL); assumption; exact rfl)
  | ((with_reducible apply r_gtup); (walk_at "sq"); rfl)
  | ((with_reducible apply r_gnil))
  | ((with_reducible apply r_gcons))
  | ((with_reducible apply r_par))
  | ((with_reducible apply r_par2))
  | ((with_reducible apply r_sl))
  | ((with_reducible apply r_part))
  | ((with_reducible apply r_part1))
  | ((with_reducible apply r_noPart))
  | ((with_reducible apply r_slL); (walk_at "sq"))
  | ((with_reducible apply r_slA); (walk_at "sq"))
  | ((with_reducible apply r_tupL); (walk_at "sq"))
  | ((with_reducible apply r_tupT); (walk_at "sq"))
  | ((with_reducible apply r_lstL); (walk_at "sq"))
  | ((with_reducible apply r_lstT); (walk_at "sq"))
  | ((with_reducible apply r_append))
  | ((with_reducible apply r_isL); (walk_at "sq"))
  | ((with_reducible apply r_app); assumption; (walk_at "szT"))
  | ((with_reducible apply r_dget))
  | ((with_reducible apply r_dgetS); assumption; (walk_at "dk"))
  | ((with_reducible apply r_dput))
  | ((with_reducible apply r_dputS); assumption; (walk_at "szT"))
  | ((with_reducible apply r_disp))
  | ((with_reducible apply r_pnil))
  | ((with_reducible apply r_pcons))
  | ((with_reducible apply r_fld))
  | ((with_reducible apply r_fld1); assumption; assumption; assumption; (first | exact rfl | assumption))
  | ((with_reducible apply r_sfld))
  | ((with_reducible apply r_sfld1); assumption; assumption; assumption; exact (by decide)))
local macro_rules | `(tactic| walk_at "rd") => `(tactic| repeat walk_at "rd1")
local macro_rules | `(tactic| walk_at "lk") => `(tactic| first | (with_reducible exact cell_number) | (with_reducible exact cell_loans) | (with_reducible exact frame_owns) | (with_reducible exact frame_handed) | (with_reducible exact frame_roads) | (with_reducible exact want_thing) | (with_reducible exact want_frame) | (with_reducible exact run_program) | (with_reducible exact run_ways) | (with_reducible exact run_commons) | (with_reducible exact run_said) | (with_reducible exact run_lent) | (with_reducible exact run_mixed))
local macro_rules | `(tactic| walk_at "rd1") => `(tactic| first
  | ((with_reducible apply r_enumT))
  | ((with_reducible apply r_overE); (walk_at "sq"))
  | ((with_reducible apply r_zipA))
  | ((with_reducible apply r_zipT); (walk_at "sq"); (walk_at "sq"))
  | ((with_reducible apply r_zip3))
  | ((with_reducible apply r_overZ3); (walk_at "sq"); (walk_at "sq"); (walk_at "sq"))
  | ((with_reducible apply r_make))
  | ((with_reducible apply r_isiC); assumption; assumption; assumption)
  | ((with_reducible apply r_popM))
  | ((with_reducible apply r_pop); assumption)
  | ((with_reducible apply r_tru))
  | ((with_reducible apply r_truL); (walk_at "sq"))
  | ((with_reducible apply r_fld1); assumption; assumption; assumption; (walk_at "lk"))
  | ((with_reducible apply r_sfld1); assumption; assumption; assumption; exact Nat.le_of_ble_eq_true rfl))
section
variable {P : Program} {w : World} {K : PySem.W.Frag} {mg : Str → Option Value} {base : Heap}
/-! ### running.py: found, number_of -/
def spFound (K : PySem.W.Frag) (kl : Kl) (n : Nat) : Sp := fun vs H Q _ => ∃ (R : Rn) (vf vt : V) (cs : List (Addr × Addr)) (S : LS) (f : Fr) (t : Th) (rr : Option (Nat × List Nat)), vs = [.ref R.r, vf, vt] ∧ PS K H kl R cs S ∧ PFr K H kl (trk R cs) cs f vf ∧ Rp K H vt t.enc ∧ t.lit ∧ f.lit ∧ Low S.at_ ∧ 3 ≤ cs.length ∧
  roadF S.at_ n f t = some rr ∧ ∀ (v : V) (H' : Hp), (rr = none → v = .non) → (∀ p ws, rr = some (p, ws) → ∃ c, cs[p]? = some c ∧ v = .ref c.1) → Keep [R.r] H H' → PS K H' kl R cs (S.mix (mixR S.at_ S.lent n f t)) → Q v H'
def spNumber (K : PySem.W.Frag) (kl : Kl) (n : Nat) : Sp := fun vs H Q _ => ∃ (R : Rn) (vf vt : V) (cs : List (Addr × Addr)) (S : LS) (f : Fr) (t : Th) (x : Nat), vs = [.ref R.r, vf, vt] ∧ PS K H kl R cs S ∧ PFr K H kl (trk R cs) cs f vf ∧ Rp K H vt t.enc ∧ t.lit ∧ f.lit ∧ Low S.at_ ∧ 3 ≤ cs.length ∧
  numF S.at_ n f t = some x ∧ ∀ (H' : Hp), Keep [R.r] H H' → PS K H' kl R cs (S.mix (mixN S.at_ S.lent n f t)) → Q (.int (x : Int)) H'
abbrev sfound : Stmt := top 40
abbrev nfound : List Str := ["run", "frame", "thing", "word", "handed"]
abbrev pfound : List Str := ["run", "frame", "thing"]
theorem scfound : FnScope nfound pfound (defScope sfound) := ⟨rfl, rfl, rfl, by decide +kernel, rfl, by decide +kernel, by decide +kernel⟩
abbrev snumber_of : Stmt := top 41
abbrev nnumber_of : List Str := ["run", "frame", "thing", "word", "handed", "cell"]
abbrev pnumber_of : List Str := ["run", "frame", "thing"]
theorem scnumber_of : FnScope nnumber_of pnumber_of (defScope snumber_of) := ⟨rfl, rfl, rfl, by decide +kernel, rfl, by decide +kernel, by decide +kernel⟩
theorem PSt.ktr {H H1 : Hp} {kl : Kl} {R : Rn} {cs : List (Addr × Addr)} {S : LS} {lo : Nat → List Nat} (g : PSt K H kl R cs S lo) (k : Keep [R.r] H H1) : Tst H H1 := g.ts (PSt.kr k)
theorem okFound {tk : Nat → Tok} {aP aW : Addr} {kl : Kl} {n : Nat} (D : DefAt K mg "found" sfound pfound) (T : Prg K tk aP aW kl mg) (C_number_of : Callee P w K mg base "number_of" (2 * n + 2) pnumber_of (spNumber K kl n)) (C_found : Callee P w K mg base "found" (2 * n + 1) pfound (spFound K kl n)) :
    Callee P w K mg base "found" (2 * n + 3) pfound (spFound K kl (n + 1)) := by
  refine D.ok scfound (fun vs H Q E h => ?_) (fun f cdv A outer s H vs Q E hr h => ?_)
  · obtain ⟨R, vf, vt, cs, S, f, t, rr, rfl, _⟩ := h
    rfl
  obtain ⟨R, vf, vt, cs, S, f, t, rr, rfl, g, hF, hT, lt, lf, la, h3, e, q⟩ := h
  refine ⟨_, (pss_cons (ps_set (i := 3) scfound.nd rfl (Or.inl rfl) (pe_ix (ixT (K := K)) (pv 2) pe_int (fun _ _ => rfl)))
  (pss_cons (ps_if (pt_cmpR op_eq (pv 3) pe_str (nomark _)) (pss_one (ps_ret (pe_ix (ixL (K := K)) (peFld (K := K) (pv 0) rfl) (pcall C_number_of (hr.mono (by omega)) rfl (pa_cons (pv 0) (pa_cons (pv 1) (pa_cons (pe_ix (ixT (K := K)) (pv 2) pe_int (fun _ _ => rfl)) pa_nil)))) (fun _ _ => rfl)))) pss_nil)
  (pss_cons (ps_if (pt_cmpR op_eq (pv 3) pe_str (nomark _)) (pss_one (ps_ret (pe_ix (ixL (K := K)) (peFld (K := K) (pv 1) rfl) (pe_ix (ixT (K := K)) (pv 2) pe_int (fun _ _ => rfl)) (fun _ _ => rfl)))) pss_nil)
  (pss_cons (ps_if (pt_cmpR op_eq (pv 3) pe_str (nomark _)) (pss_cons (ps_set (i := 4) scfound.nd rfl (Or.inl rfl) (pe_ix (ixL (K := K)) (peFld (K := K) (pv 1) rfl) (pe_ix (ixT (K := K)) (pv 2) pe_int (fun _ _ => rfl)) (fun _ _ => rfl)))
  (pss_cons (ps_if (pt_val (pe_callB (cIsi (K := K)) (by rfl) T.isinstance (by decide +kernel) (pa_cons (pv 4) (pa_cons (pe_glob (v := .ref _) rfl T.Want rfl) pa_nil)))) (pss_one (ps_ret (pcall C_found (hr.mono (by omega)) rfl (pa_cons (pv 0) (pa_cons (peFld (K := K) (pv 4) rfl) (pa_cons (peFld (K := K) (pv 4) rfl) pa_nil)))))) pss_nil)
  (pss_one (ps_ret (pv 4))))) pss_nil)
  (pss_one (ps_ret pe_non)))))), ?_⟩
  cases t with
  | num k =>
    obtain ⟨a, rfl, hS⟩ := Th.inv_num hT
    have a0 : atI [V.str "num", V.int (k : Int)] 0 = some (.str "num") := at0
    unfold roadF at e
    cases e
    walk_at "rd"
    exact q _ H (fun _ => rfl) (fun p ws z => nomatch z) Keep.refl (by unfold mixR; rw [LS.mix_false]; exact g)
  | sum x y =>
    obtain ⟨a, u, v, rfl, hS, hu, hv⟩ := Th.inv_sum hT
    have a0 : atI [V.str "sum", u, v] 0 = some (.str "sum") := at0
    unfold roadF at e
    cases e
    walk_at "rd"
    exact q _ H (fun _ => rfl) (fun p ws z => nomatch z) Keep.refl (by unfold mixR; rw [LS.mix_false]; exact g)
  | cell u =>
    obtain ⟨a, vu, rfl, hS, hu⟩ := Th.inv_cell hT
    have a0 : atI [V.str "cell", vu] 0 = some (.str "cell") := at0
    have a1 : atI [V.str "cell", vu] 1 = some vu := at1
    have clR := T.own.clR
    have nc := T.own.commons
    unfold Th.lit at lt
    unfold roadF at e
    cases z : numF S.at_ n f u with
    | none => rw [z] at e; cases e
    | some x =>
      rw [z] at e
      cases e
      have x3 := numF_low la lf lt z
      obtain ⟨dr, er⟩ := g.run
      walk_at "rd"
      refine ask ⟨R, vf, vu, cs, S, f, u, x, rfl, g, hF, hu, lt, lf, la, h3, z, fun H1 k1 g1 => ?_⟩
      have hc := g1.com
      have ec : cs[x]? = some cs[x] := List.getElem?_eq_getElem (by omega)
      have ac : atI ((cs.take 3).map fun c => V.ref c.1) (x : Int) = some (.ref (cs[x]'(by omega)).1) := atI_nat (by rw [List.getElem?_map, List.getElem?_take_of_lt x3, ec]; rfl)
      walk_at "rd"
      refine q _ H1 (fun z => nomatch z) (fun p ws e => ?_) k1 (by unfold mixR; exact g1)
      cases e
      exact ⟨_, ec, rfl⟩
  | own k =>
    obtain ⟨a, rfl, hS⟩ := Th.inv_own hT
    have a0 : atI [V.str "own", V.int (k : Int)] 0 = some (.str "own") := at0
    have a1 : atI [V.str "own", V.int (k : Int)] 1 = some (.int (k : Int)) := at1
    obtain ⟨os, hs⟩ := f
    unfold PFr at hF
    obtain ⟨af, dx, o, h, d, zs, xs, ys, rfl, h1, m1, h2, m2, h3', h4, m4, h5, m5, h6⟩ := hF
    have clF := T.own.clF
    have no := T.own.owns
    unfold roadF at e
    cases z : os[k]? with
    | none => rw [z] at e; cases e
    | some p =>
      rw [z] at e
      cases e
      obtain ⟨c, e1, e2⟩ := h3' k p z
      have az := atI_nat e2
      walk_at "rd"
      refine q _ H (fun z => nomatch z) (fun p ws e => ?_) Keep.refl (by unfold mixR; rw [LS.mix_false]; exact g)
      cases e
      exact ⟨_, e1, rfl⟩
  | par k =>
    obtain ⟨a, rfl, hS⟩ := Th.inv_par hT
    have a0 : atI [V.str "par", V.int (k : Int)] 0 = some (.str "par") := at0
    have a1 : atI [V.str "par", V.int (k : Int)] 1 = some (.int (k : Int)) := at1
    obtain ⟨os, hs⟩ := f
    unfold PFr at hF
    obtain ⟨af, dx, o, h, d, zs, xs, ys, rfl, h1, m1, h2, m2, h3', h4, m4, h5, m5, h6⟩ := hF
    have clF := T.own.clF
    have nh := T.own.handed
    unfold roadF at e
    unfold Fr.lit at lf
    cases z : hs.get k with
    | none => rw [z] at e; cases e
    | some hd =>
      rw [z] at e
      obtain ⟨x, y, ex, ey, hp⟩ := h6.get z
      have lh := lf.get z
      have ax := atI_nat ex
      cases hd with
      | road p2 ws2 =>
        cases e
        unfold PHd at hp
        obtain ⟨c, tp, L, hc1, rfl, rfl, hL, ew⟩ := hp
        obtain ⟨dxc, nn, L', _, hcc, _⟩ := g.cell _ _ hc1
        have tC := T.own.tC
        have nW := T.own.notW
        walk_at "rd"
        refine q _ H (fun z => nomatch z) (fun p ws e => ?_) Keep.refl (by unfold mixR; rw [z]; rw [LS.mix_false]; exact g)
        cases e
        exact ⟨_, hc1, rfl⟩
      | want u f2 =>
        unfold PHd at hp
        unfold Hd.lit at lh
        obtain ⟨aw, dxw, vt2, vf2, rfl, hw1, mw, hw2, hw3⟩ := hp
        have tW := T.own.tW
        have clW := T.own.tW.cl
        have iW := T.own.isW
        have nt := T.own.thing
        have nf := T.own.frame
        walk_at "rd"
        refine ask ⟨R, vf2, vt2, cs, S, f2, u, rr, rfl, g, hw3, hw2, lh.1, lh.2, la, h3, e, fun v H' h1 h2 k1 g1 => q v H' h1 h2 k1 (by unfold mixR; rw [z]; exact g1)⟩
theorem okNumber {tk : Nat → Tok} {aP aW : Addr} {kl : Kl} {n : Nat} (D : DefAt K mg "number_of" snumber_of pnumber_of) (T : Prg K tk aP aW kl mg) (C_number_of : Callee P w K mg base "number_of" (2 * n + 2) pnumber_of (spNumber K kl n)) (C_found : Callee P w K mg base "found" (2 * n + 3) pfound (spFound K kl (n + 1)))
    (C_come_to : Callee P w K mg base "come_to" (n + 2) pcome_to (spComeTo K kl (n + 1))) :
    Callee P w K mg base "number_of" (2 * n + 4) pnumber_of (spNumber K kl (n + 1)) := by
  refine D.ok scnumber_of (fun vs H Q E h => ?_) (fun f cdv A outer s H vs Q E hr h => ?_)
  · obtain ⟨R, vf, vt, cs, S, f, t, x, rfl, _⟩ := h
    rfl
  obtain ⟨R, vf, vt, cs, S, f, t, x, rfl, g, hF, hT, lt, lf, la, h3, e, q⟩ := h
  refine ⟨_, (pss_cons (ps_set (i := 3) scnumber_of.nd rfl (Or.inl rfl) (pe_ix (ixT (K := K)) (pv 2) pe_int (fun _ _ => rfl)))
  (pss_cons (ps_if (pt_cmpR op_eq (pv 3) pe_str (nomark _)) (pss_one (ps_ret (pe_ix (ixT (K := K)) (pv 2) pe_int (fun _ _ => rfl)))) pss_nil)
  (pss_cons (ps_if (pt_cmpR op_eq (pv 3) pe_str (nomark _)) (pss_one (ps_ret (pe_op op_mod (pe_op op_add (pcall C_number_of (hr.mono (by omega)) rfl (pa_cons (pv 0) (pa_cons (pv 1) (pa_cons (pe_ix (ixT (K := K)) (pv 2) pe_int (fun _ _ => rfl)) pa_nil)))) (pcall C_number_of (hr.mono (by omega)) rfl (pa_cons (pv 0) (pa_cons (pv 1) (pa_cons (pe_ix (ixT (K := K)) (pv 2) pe_int (fun _ _ => rfl)) pa_nil))))) (pe_glob (v := .int 3) rfl T.NUMBERS ⟨_, rfl⟩)))) pss_nil)
  (Evl.pss_cut (ps_if (pt_cmpR op_eq (pv 3) pe_str (nomark _)) (pss_cons (ps_set (i := 4) scnumber_of.nd rfl (Or.inl rfl) (pe_ix (ixL (K := K)) (peFld (K := K) (pv 1) rfl) (pe_ix (ixT (K := K)) (pv 2) pe_int (fun _ _ => rfl)) (fun _ _ => rfl)))
  (pss_one (ps_if (pt_val (pe_callB (cIsi (K := K)) (by rfl) T.isinstance (by decide +kernel) (pa_cons (pv 4) (pa_cons (pe_glob (v := .ref _) rfl T.Want rfl) pa_nil)))) (pss_one (ps_ret (pcall C_number_of (hr.mono (by omega)) rfl (pa_cons (pv 0) (pa_cons (peFld (K := K) (pv 4) rfl) (pa_cons (peFld (K := K) (pv 4) rfl) pa_nil)))))) pss_nil))) pss_nil)
  (pss_cons (ps_set (i := 5) scnumber_of.nd rfl (Or.inl rfl) (pcall C_found (hr.mono (by omega)) rfl (pa_cons (pv 0) (pa_cons (pv 1) (pa_cons (pv 2) pa_nil)))))
  (pss_cons (ps_expr (pcall C_come_to (hr.mono (by omega)) rfl (pa_cons (pv 0) (pa_cons (pv 1) (pa_cons (pv 2) (pa_cons (pv 5) pa_nil))))))
  (pss_one (ps_ret (peFld (K := K) (pv 5) rfl))))))))), ?_⟩
  have clC := T.own.tC.cl
  have nn := T.own.number
  have tail : ∀ (p : Nat) (ws : List Nat), roadF S.at_ (n + 1) f t = some (some (p, ws)) → ∀ (Dn : Ends) (x3 x4 x5 : Option V), Dn.rt = Q → tSeq (tAsg (tCall (spFound K kl (n + 1)) [] E0 (tCons (tVar 0) (tCons (tVar 1) (tCons (tVar 2) tNil)))) (gName 5))
      (tSeq (tDrop (tCall (spComeTo K kl (n + 1)) [] E0 (tCons (tVar 0) (tCons (tVar 1) (tCons (tVar 2) (tCons (tVar 5) tNil)))))) (tRet (tFld K (tVar 5) (Str.ofString "number")))) Dn [some (.ref R.r), some vf, some vt, x3, x4, x5] H := by
    intro p ws er Dn x3 x4 x5 eD
    walk_at "rd"
    refine ask ⟨R, vf, vt, cs, S, f, t, some (p, ws), rfl, g, hF, hT, lt, lf, la, h3, er, fun v H1 _ hv k1 g1 => ?_⟩
    obtain ⟨c, hc, rfl⟩ := hv p ws rfl
    have hF1 := hF.keep (PSt.kr k1) (g.ktr k1)
    have hT1 := hT.ts (g.ktr k1)
    walk_at "rd"
    refine ask ⟨R, vf, vt, cs, _, _, f, t, p, ws, c, rfl, g1, hF1, hT1, er, hc, fun H2 k2 g2 => ?_⟩
    obtain ⟨dx, m, L, e1, e2, e3, e4⟩ := g2.cell p c hc
    walk_at "rd"
    rw [eD]
    have ex := (numF_road er).symm.trans e
    have em : m = x := Option.some.inj ((show S.at_[p]? = some m from e1).symm.trans ex)
    subst em
    refine q H2 (k1.trans k2) ?_
    rw [mixN_road er, meet_lentOf, ← LS.mix_mix]
    exact g2
  cases t with
  | num k =>
    obtain ⟨a, rfl, hS⟩ := Th.inv_num hT
    have a0 : atI [V.str "num", V.int (k : Int)] 0 = some (.str "num") := at0
    have a1 : atI [V.str "num", V.int (k : Int)] 1 = some (.int (k : Int)) := at1
    unfold numF at e
    cases e
    walk_at "rd"
    exact q H Keep.refl (by unfold mixN; rw [LS.mix_false]; exact g)
  | sum t1 t2 =>
    obtain ⟨a, u, v, rfl, hS, hu, hv⟩ := Th.inv_sum hT
    have a0 : atI [V.str "sum", u, v] 0 = some (.str "sum") := at0
    have a1 : atI [V.str "sum", u, v] 1 = some u := at1
    have a2 : atI [V.str "sum", u, v] 2 = some v := at2
    unfold Th.lit at lt
    unfold numF at e
    cases z : numF S.at_ n f t1 with
    | none => rw [z] at e; cases e
    | some y =>
      rw [z] at e
      have e2 : ((numF S.at_ n f t2).bind fun b => some ((y + b) % 3)) = some x := e
      cases z2 : numF S.at_ n f t2 with
      | none => rw [z2] at e2; cases e2
      | some b =>
        rw [z2] at e2
        cases e2
        walk_at "rd"
        refine ask ⟨R, vf, u, cs, S, f, t1, y, rfl, g, hF, hu, lt.1, lf, la, h3, z, fun H1 k1 g1 => ?_⟩
        have hF1 := hF.keep (PSt.kr k1) (g.ktr k1)
        have hv1 := hv.ts (g.ktr k1)
        have hS1 := (g.ktr k1).sqT hS
        walk_at "rd"
        refine ask ⟨R, vf, v, cs, _, f, t2, b, rfl, g1, hF1, hv1, lt.2, lf, la, h3, z2, fun H2 k2 g2 => ?_⟩
        walk_at "rd"
        have eI : ((y : Int) + (b : Int)) % 3 = (((y + b) % 3 : Nat) : Int) := by omega
        rw [eI]
        exact q H2 (k1.trans k2) (by unfold mixN; rw [← LS.mix_mix]; exact g2)
  | cell u =>
    have hT' := hT
    obtain ⟨a, vu, rfl, hS, hu⟩ := Th.inv_cell hT'
    have a0 : atI [V.str "cell", vu] 0 = some (.str "cell") := at0
    have er : ∃ p ws, roadF S.at_ (n + 1) f (.cell u) = some (some (p, ws)) := by
      unfold numF at e
      cases z : numF S.at_ n f u with
      | none => rw [z] at e; cases e
      | some y => exact ⟨y, [], by unfold roadF; rw [z]; rfl⟩
    obtain ⟨p, ws, er⟩ := er
    walk_at "rd"
    refine cut (fun σ H' => H' = H ∧ ∃ x3 x4 x5, σ = [some (.ref R.r), some vf, some (.ref a), x3, x4, x5]) ?_ fun σ' H' ⟨eH, x3, x4, x5, eσ⟩ => ?_
    · walk_at "rd"
      exact ⟨rfl, _, _, _, rfl⟩
    · subst eH eσ
      exact tail p ws er _ x3 x4 x5 rfl
  | own k =>
    have hT' := hT
    obtain ⟨a, rfl, hS⟩ := Th.inv_own hT'
    have a0 : atI [V.str "own", V.int (k : Int)] 0 = some (.str "own") := at0
    have er : ∃ p ws, roadF S.at_ (n + 1) f (.own k) = some (some (p, ws)) := by
      obtain ⟨os, hs⟩ := f
      unfold numF at e
      cases z : os[k]? with
      | none => rw [z] at e; cases e
      | some y => exact ⟨y, [], by unfold roadF; rw [z]; rfl⟩
    obtain ⟨p, ws, er⟩ := er
    walk_at "rd"
    refine cut (fun σ H' => H' = H ∧ ∃ x3 x4 x5, σ = [some (.ref R.r), some vf, some (.ref a), x3, x4, x5]) ?_ fun σ' H' ⟨eH, x3, x4, x5, eσ⟩ => ?_
    · walk_at "rd"
      exact ⟨rfl, _, _, _, rfl⟩
    · subst eH eσ
      exact tail p ws er _ x3 x4 x5 rfl
  | par k =>
    have hT' := hT
    obtain ⟨a, rfl, hS⟩ := Th.inv_par hT'
    have a0 : atI [V.str "par", V.int (k : Int)] 0 = some (.str "par") := at0
    have a1 : atI [V.str "par", V.int (k : Int)] 1 = some (.int (k : Int)) := at1
    obtain ⟨os, hs⟩ := f
    have hF' := hF
    unfold PFr at hF'
    obtain ⟨af, dx, o, h, d, zs, xs, ys, rfl, h1, m1, h2, m2, h3', h4, m4, h5, m5, h6⟩ := hF'
    have clF := T.own.clF
    have nh := T.own.handed
    have e' := e
    unfold numF at e'
    have lf' := lf
    unfold Fr.lit at lf'
    cases z : hs.get k with
    | none => rw [z] at e'; cases e'
    | some hd =>
      rw [z] at e'
      obtain ⟨x, y, ex, ey, hp⟩ := h6.get z
      have lh := lf'.get z
      have ax := atI_nat ex
      cases hd with
      | road p2 ws2 =>
        unfold PHd at hp
        obtain ⟨c, tp, L, hc1, rfl, rfl, hL, ew⟩ := hp
        obtain ⟨dxc, nn2, L', _, hcc, _⟩ := g.cell _ _ hc1
        have tC := T.own.tC
        have nW := T.own.notW
        walk_at "rd"
        refine cut (fun σ H' => H' = H ∧ ∃ x3 x4 x5, σ = [some (.ref R.r), some (.ref af), some (.ref a), x3, x4, x5]) ?_ fun σ' H' ⟨eH, x3, x4, x5, eσ⟩ => ?_
        · walk_at "rd"
          exact ⟨rfl, _, _, _, rfl⟩
        · subst eH eσ
          exact tail p2 ws2 (by unfold roadF; rw [z]) _ x3 x4 x5 rfl
      | want u f2 =>
        unfold PHd at hp
        unfold Hd.lit at lh
        obtain ⟨aw, dxw, vt2, vf2, rfl, hw1, mw, hw2, hw3⟩ := hp
        have tW := T.own.tW
        have clW := T.own.tW.cl
        have iW := T.own.isW
        have nt := T.own.thing
        have nf := T.own.frame
        walk_at "rd"
        refine cut (fun _ _ => False) ?_ fun _ _ z => z.elim
        walk_at "rd"
        refine ask ⟨R, vf2, vt2, cs, S, f2, u, _, rfl, g, hw3, hw2, lh.1, lh.2, la, h3, e', fun H' k1 g1 => q H' k1 (by unfold mixN; rw [z]; exact g1)⟩
end
end Hw
namespace Hw
open PySem PySem.Spec PyProof.Rows L2
local macro_rules | `(tactic| walk_at "sz") => `(tactic| first | exact Nat.le_of_ble_eq_true rfl | exact small (by first | omega | (simp; done) | (simp; omega)))
local macro_rules | `(tactic| walk_at "szT") => `(tactic| first | exact Nat.lt_of_lt_of_le (Nat.lt_succ_self _) (Nat.le_of_ble_eq_true rfl) | exact smallT (by first | omega | (simp; done) | (simp; omega)))
local macro_rules | `(tactic| walk_at "cond") => `(tactic| first | decide | omega | (dsimp only; omega) | exact ⟨by omega, by omega⟩ | exact .inr ⟨by decide, by decide⟩)
local macro_rules | `(tactic| walk_at "sq") => `(tactic| first | assumption | exact SqL.of (by assumption) | exact SqT.of (by assumption))
local macro_rules | `(tactic| walk_at "ty") => `(tactic| first | (with_reducible assumption) | exact .base (.int _) | exact .base (.str _) | exact .base (.bl _) | exact .base .non | exact tyT (by walk_at "sq") | exact tyL (by walk_at "sq"))
local macro_rules | `(tactic| walk_at "rd1") => `(tactic| first
  | ((with_reducible apply r_seq))
  | ((with_reducible apply r_asg))
  | ((with_reducible apply r_name))
  | ((with_reducible apply r_op))
  | ((with_reducible apply r_var); exact rfl)
  | ((with_reducible apply r_c))
  | ((with_reducible apply r_ixT); (walk_at "sq"); first | exact rfl | assumption)
  | ((with_reducible apply r_ixL); (walk_at "sq"); first | exact rfl | assumption)
  | ((with_reducible apply r_ixA); (first | exact .inl (by walk_at "sq") | exact .inr (by walk_at "sq")); first | exact rfl | assumption)
  | ((with_reducible apply r_isi); (walk_at "ty"); (decide +kernel))
  | ((with_reducible apply r_isiT2); assumption; (walk_at "ty"); (decide +kernel); (decide +kernel))
  | ((with_reducible apply r_I0))
  | ((with_reducible apply r_I); (walk_at "cond"))
  | ((with_reducible apply r_eq); exact rfl)
  | ((with_reducible apply r_ne); exact rfl)
  | ((with_reducible apply r_test))
  | ((with_reducible apply r_bl))
  | ((with_reducible apply r_if))
  | ((with_reducible apply r_nil))
  | ((with_reducible apply r_cons))
  | ((with_reducible apply r_call))
  | ((with_reducible apply r_cb))
  | ((with_reducible apply r_tup))
  | ((with_reducible apply r_lst))
  | ((with_reducible apply new); (walk_at "sz"))
  | ((with_reducible apply r_ret))
  | ((with_reducible apply r_retN))
  | ((with_reducible apply r_next))
  | ((with_reducible apply r_drop))
  | ((with_reducible apply r_lenL); (walk_at "sq"))
  | ((with_reducible apply r_lenT); (walk_at "sq"))
  | ((with_reducible apply r_int))
  | ((with_reducible apply r_intB))
  | ((with_reducible apply r_isN))
  | ((with_reducible apply r_notN))
  | ((with_reducible apply r_B))
  | ((with_reducible apply r_not))
  | ((with_reducible apply r_notV))
  | ((with_reducible apply r_andV))
  | ((with_reducible apply r_orV))
  | ((with_reducible apply r_ifE))
  | ((with_reducible apply r_chain))
  | ((with_reducible apply ite_t); (first | (with_reducible exact nRN) | (with_reducible exact nIN) | (with_reducible exact dNN) | decide +kernel))
  | ((with_reducible apply ite_f); (first | (with_reducible exact dRN) | (with_reducible exact dIN) | (with_reducible exact nNN) | decide +kernel))
  | ((with_reducible apply r_in); (first | exact .inl (by walk_at "sq") | exact .inr (by walk_at "sq")); exact rfl; (first | exact nums_flat | exact rfl))
  | ((with_reducible apply turn))
  | ((with_reducible apply r_for))
  | ((with_reducible apply r_iRng1))
  | ((with_reducible apply r_rng); (first | decide | omega | (simp; omega)); (first | decide | omega | (simp; omega)))
  | ((with_reducible apply r_iList))
  | ((with_reducible apply r_iTup))
  | ((with_reducible apply r_overL); (walk_at "sq"))
  | ((with_reducible apply r_overT); (walk_at "sq"))
  | ((with_reducible apply r_lc))
  | ((with_reducible apply acc); assumption; (walk_at "szT"))
  | ((with_reducible apply r_sub))
  | ((with_reducible apply r_setL); assumption; exact rfl)
  | ((with_reducible apply r_gtup); (walk_at "sq"); rfl)
  | ((with_reducible apply r_gnil))
  | ((with_reducible apply r_gcons))
  | ((with_reducible apply r_par))
  | ((with_reducible apply r_par2))
  | ((with_reducible apply r_sl))
  | ((with_reducible apply r_part))
  | ((with_reducible apply r_part1))
  | ((with_reducible apply r_noPart))
  | ((with_reducible apply r_slL); (walk_at "sq"))
  | ((with_reducible apply r_slA); (walk_at "sq"))
  | ((with_reducible apply r_tupL); (walk_at "sq"))
  | ((with_reducible apply r_tupT); (walk_at "sq"))
  | ((with_reducible apply r_lstL); (walk_at "sq"))
  | ((with_reducible apply r_lstT); (walk_at "sq"))
  | ((with_reducible apply r_append))
  | ((with_reducible apply r_isL); (walk_at "sq"))
  | ((with_reducible apply r_app); assumption; (walk_at "szT"))
  | ((with_reducible apply r_dget))
  | ((with_reducible apply r_dgetS); assumption; (walk_at "dk"))
  | ((with_reducible apply r_dput))
  | ((with_reducible apply r_dputS); assumption; (walk_at "szT"))
  | ((with_reducible apply r_disp))
  | ((with_reducible apply r_pnil))
  | ((with_reducible apply r_pcons))
  | ((with_reducible apply r_fld))
  | ((with_reducible apply r_fld1); assumption; assumption; assumption; (first | exact rfl | assumption))
  | ((with_reducible apply r_sfld))
  | ((with_reducible apply r_sfld1); assumption; assumption; assumption; exact (by decide)))
local macro_rules | `(tactic| walk_at "rd") => `(tactic| repeat walk_at "rd1")
local macro_rules | `(tactic| walk_at "lk") => `(tactic| first | (with_reducible exact cell_number) | (with_reducible exact cell_loans) | (with_reducible exact frame_owns) | (with_reducible exact frame_handed) | (with_reducible exact frame_roads) | (with_reducible exact want_thing) | (with_reducible exact want_frame) | (with_reducible exact run_program) | (with_reducible exact run_ways) | (with_reducible exact run_commons) | (with_reducible exact run_said) | (with_reducible exact run_lent) | (with_reducible exact run_mixed))
local macro_rules | `(tactic| walk_at "rd1") => `(tactic| first
  | ((with_reducible apply r_enumT))
  | ((with_reducible apply r_overE); (walk_at "sq"))
  | ((with_reducible apply r_zipA))
  | ((with_reducible apply r_zipT); (walk_at "sq"); (walk_at "sq"))
  | ((with_reducible apply r_zip3))
  | ((with_reducible apply r_overZ3); (walk_at "sq"); (walk_at "sq"); (walk_at "sq"))
  | ((with_reducible apply r_make))
  | ((with_reducible apply r_isiC); assumption; assumption; assumption)
  | ((with_reducible apply r_popM))
  | ((with_reducible apply r_pop); assumption)
  | ((with_reducible apply r_tru))
  | ((with_reducible apply r_truL); (walk_at "sq"))
  | ((with_reducible apply r_fld1); assumption; assumption; assumption; (walk_at "lk"))
  | ((with_reducible apply r_sfld1); assumption; assumption; assumption; exact Nat.le_of_ble_eq_true rfl))
section
variable {P : Program} {w : World} {K : PySem.W.Frag} {mg : Str → Option Value} {base : Heap}
/-! ### running.py: the numbers by all fuel; hand -/
theorem okRoads {tk : Nat → Tok} {aP aW : Addr} {kl : Kl} (D : DefAt K mg "road_of" sroad_of proad_of) (T : Prg K tk aP aW kl mg) : ∀ n : Nat, Callee P w K mg base "road_of" n proad_of (spRoadOf K kl n)
  | 0 => D.none fun vs H Q E h => by
    obtain ⟨vf, vt, M, cs, at_, f, t, p, ws, rfl, hF, hT, e, hc, q⟩ := h
    unfold roadF at e
    cases e
  | n + 1 => okRoadOf D T (okRoads D T n)
theorem okNums {tk : Nat → Tok} {aP aW : Addr} {kl : Kl} (Dr : DefAt K mg "road_of" sroad_of proad_of) (Dc : DefAt K mg "come_to" scome_to pcome_to) (Df : DefAt K mg "found" sfound pfound) (Dn : DefAt K mg "number_of" snumber_of pnumber_of) (T : Prg K tk aP aW kl mg) :
    ∀ n : Nat, Callee P w K mg base "number_of" (2 * n + 2) pnumber_of (spNumber K kl n) ∧ Callee P w K mg base "found" (2 * n + 1) pfound (spFound K kl n)
  | 0 => And.intro (Dn.none fun vs H Q E h => by
      obtain ⟨R, vf, vt, cs, S, f, t, x, rfl, g, hF, hT, lt, lf, la, h3, e, q⟩ := h
      unfold numF at e
      cases e) (Df.none fun vs H Q E h => by
      obtain ⟨R, vf, vt, cs, S, f, t, x, rfl, g, hF, hT, lt, lf, la, h3, e, q⟩ := h
      unfold roadF at e
      cases e)
  | n + 1 => by
    obtain ⟨h1, h2⟩ := okNums Dr Dc Df Dn T n
    have h3 := okFound Df T h1 h2
    exact ⟨okNumber Dn T h1 h3 (okComeTo Dc T (okRoads Dr T (n + 1))), h3⟩
def spHand (K : PySem.W.Frag) (kl : Kl) (N : Nat) : Sp := fun vs H Q _ => ∃ (R : Rn) (vf vt : V) (X : List Addr) (cs : List (Addr × Addr)) (S : LS) (f : Fr) (t : Th) (way : Str) (ia dxi o h d : Addr) (xs ys : List V) (hd : Hd) (b : Option Nat) (S' : LS), vs = [.ref R.r, vf, .ref ia, vt, .str way] ∧
  PS K H kl R cs S ∧ (∀ x ∈ X, H x ≠ none) ∧ PFr K H kl (X ++ h :: d :: trk R cs) cs f vf ∧ Rp K H vt t.enc ∧ t.lit ∧ f.lit ∧ Low S.at_ ∧ 3 ≤ cs.length ∧ way ∈ ways4 ∧ H ia = some (.ins kl.F dxi (frameF o h d)) ∧ H h = some (.lst xs) ∧ H d = some (.lst ys) ∧ h ≠ d ∧ h ∉ R.lc :: trk R cs ∧ d ∉ R.lc :: trk R cs ∧ ia ∉ trk R cs ∧
  xs.length ≤ 1000 ∧ ys.length ≤ 1000 ∧ handF N S f t way = some (hd, b, S') ∧ S'.many ≤ 90000 ∧ S.lent.length ≤ S.many ∧ f.wsLe S.many ∧
  ∀ (ds : List (Addr × Addr)) (x y pv : V) (H' : Hp), (∀ z ∈ flat ds, H z = none) → PS K H' kl R (cs ++ ds) S' → PHd K H' kl (X ++ h :: d :: trk R (cs ++ ds)) (cs ++ ds) hd x y → H' h = some (.lst (xs ++ [x])) → H' d = some (.lst (ys ++ [y])) → Keep (h :: d :: trk R cs) H H' →
    (lentP N S f t way = none → pv = .non) → (∀ p, lentP N S f t way = some p → ∃ c, cs[p]? = some c ∧ pv = .ref c.1) → Q pv H'
abbrev shand : Stmt := top 37
abbrev nhand : List Str := ["run", "frame", "inner", "thing", "way", "place"]
abbrev phand : List Str := ["run", "frame", "inner", "thing", "way"]
theorem schand : FnScope nhand phand (defScope shand) := ⟨rfl, rfl, rfl, by decide +kernel, rfl, by decide +kernel, by decide +kernel⟩
theorem okHand {tk : Nat → Tok} {aP aW : Addr} {kl : Kl} {N : Nat} (D : DefAt K mg "hand" shand phand) (T : Prg K tk aP aW kl mg) (C_number_of : Callee P w K mg base "number_of" (2 * N + 2) pnumber_of (spNumber K kl N)) (C_found : Callee P w K mg base "found" (2 * N + 1) pfound (spFound K kl N))
    (C_come_to : Callee P w K mg base "come_to" (N + 1) pcome_to (spComeTo K kl N)) (C_road_of : Callee P w K mg base "road_of" N proad_of (spRoadOf K kl N)) (C_Cell : Maker P w K mg base "Cell" kl.C 1 pCell_init (spCell kl.C)) (C_Want : Maker P w K mg base "Want" kl.W 1 pWant_init (spWant kl.W)) :
    Callee P w K mg base "hand" (2 * N + 3) phand (spHand K kl N) := by
  refine D.ok schand (fun vs H Q E h => ?_) (fun f cdv A outer s H vs Q E hr h => ?_)
  · obtain ⟨R, vf, vt, X, cs, S, f, t, way, ia, dxi, o, h, d, xs, ys, hd, b, S', rfl, _⟩ := h
    rfl
  obtain ⟨R, vf, vt, X, cs, S, f, t, way, ia, dxi, o, h, d, xs, ys, hd, b, S', rfl, g, hX, hF0, hT, lt, lf, la, h3, hw, ei, eh, ed, hdn, hM, dM, iM, lx, ly, e, m9, ll, wl, q⟩ := h
  have hF : PFr K H kl (trk R cs) cs f vf := hF0.go Keep.refl Tst.refl (fun x hx => .inl (List.mem_append_right _ (List.mem_cons_of_mem _ (List.mem_cons_of_mem _ hx)))) fun _ _ z => z
  refine ⟨_, (pss_cons (ps_if (pt_cmpR op_eq (pv 4) pe_str (nomark _)) (pss_cons (ps_expr (peApp (K := K) (peFld (K := K) (pv 2) rfl) (pmake C_Want (hr.mono (by omega)) rfl (pa_cons (pv 3) (pa_cons (pv 1) pa_nil)))))
  (pss_cons (ps_expr (peApp (K := K) (peFld (K := K) (pv 2) rfl) (pe_tup pa_nil)))
  (pss_one (ps_ret pe_non)))) pss_nil)
  (pss_cons (ps_set (i := 5) schand.nd rfl (Or.inl rfl) (pe_ifExp (pt_cmpR op_eq (pv 4) pe_str (nomark _)) pe_non (pcall C_found (hr.mono (by omega)) rfl (pa_cons (pv 0) (pa_cons (pv 1) (pa_cons (pv 3) pa_nil))))))
  (pss_cons (ps_if (PW.pt (pw_and (pt_cmpR op_eq (pv 4) pe_str (nomark _)) (pw_and1 (pt_cmpR op_notN1 (pv 5) pe_non (nomark _))))) (pss_cons (ps_expr (pcall C_come_to (hr.mono (by omega)) rfl (pa_cons (pv 0) (pa_cons (pv 1) (pa_cons (pv 3) (pa_cons (pv 5) pa_nil))))))
  (pss_cons (ps_expr (peApp (K := K) (peFld (K := K) (pv 2) rfl) (pv 5)))
  (pss_one (ps_expr (peApp (K := K) (peFld (K := K) (pv 2) rfl) (pe_op (opCatA (K := K)) (pcall C_road_of (hr.mono (by omega)) rfl (pa_cons (pv 1) (pa_cons (pv 3) pa_nil))) (pe_tup (pa_cons (peFld (K := K) (pv 0) rfl) pa_nil)))))))) (pss_cons (ps_expr (peApp (K := K) (peFld (K := K) (pv 2) rfl) (pmake C_Cell (hr.mono (by omega)) rfl (pa_cons (pcall C_number_of (hr.mono (by omega)) rfl (pa_cons (pv 0) (pa_cons (pv 1) (pa_cons (pv 3) pa_nil)))) pa_nil))))
  (pss_one (ps_expr (peApp (K := K) (peFld (K := K) (pv 2) rfl) (pe_tup pa_nil))))))
  (pss_cons (ps_if (pt_cmpR op_notN1 (pv 5) pe_non (nomark _)) (pss_cons (ps_expr (peApp (K := K) (peFld (K := K) (pv 5) rfl) (peFld (K := K) (pv 0) rfl)))
  (pss_one (psAug (K := K) (pv 0) pe_int))) pss_nil)
  (pss_one (ps_ret (pv 5))))))), ?_⟩
  have clF := T.own.clF
  have clC := T.own.tC.cl
  have clR := T.own.clR
  have nh := T.own.handed
  have nr := T.own.roads
  have no := T.own.loans
  have nt := T.own.lent
  have ih : ia ≠ h := fun z => by rw [z, eh] at ei; cases ei
  have id_ : ia ≠ d := fun z => by rw [z, ed] at ei; cases ei
  have hr_ : h ∉ [R.r] := fun z => hM (List.mem_cons_of_mem _ (by rw [List.mem_singleton.mp z]; exact List.mem_cons_self))
  have dr_ : d ∉ [R.r] := fun z => dM (List.mem_cons_of_mem _ (by rw [List.mem_singleton.mp z]; exact List.mem_cons_self))
  have ir_ : ia ∉ [R.r] := fun z => iM (by rw [List.mem_singleton.mp z]; exact List.mem_cons_self)
  have kM : ∀ {H1 H2 : Hp}, Keep [R.r] H1 H2 → Keep (h :: d :: trk R cs) H1 H2 := fun k => k.mono fun x hx => by
    cases List.mem_singleton.mp hx
    exact List.mem_cons_of_mem _ (List.mem_cons_of_mem _ List.mem_cons_self)
  have kh : ∀ {H1 H2 : Hp}, Keep [h] H1 H2 → Keep (h :: d :: trk R cs) H1 H2 := fun k => k.mono fun x hx => by
    cases List.mem_singleton.mp hx
    exact List.mem_cons_self
  have kd : ∀ {H1 H2 : Hp}, Keep [d] H1 H2 → Keep (h :: d :: trk R cs) H1 H2 := fun k => k.mono fun x hx => by
    cases List.mem_singleton.mp hx
    exact List.mem_cons_of_mem _ List.mem_cons_self
  -- a new cell with the number
  have newc : ∀ (S1 : LS) (H1 : Hp) (x5 : Option V) (Dn : Ends) (x : Nat), PS K H1 kl R cs S1 → S1.at_ = S.at_ → Keep [R.r] H H1 → numF S.at_ N f t = some x →
      (∀ cl ll tp H2, H cl = none → H ll = none → Keep (h :: d :: trk R cs) H H2 → PSt K H2 kl R (cs ++ [(cl, ll)]) { S1.mix (mixN S.at_ S1.lent N f t) with at_ := S.at_ ++ [x] } (lentOf S1.lent) → H2 h = some (.lst (xs ++ [.ref cl])) → H2 d = some (.lst (ys ++ [.ref tp])) → SqT K H2 tp (nums []) →
        Dn.nx [some (.ref R.r), some vf, some (.ref ia), some vt, some (.str way), x5] H2) →
      tSeq (tDrop (tBM K "list" rAppend (tFld K (tVar 2) (Str.ofString "handed")) (tCons (tMake kl.C (spCell kl.C) [] E0 (tCons (tCall (spNumber K kl N) [] E0 (tCons (tVar 0) (tCons (tVar 1) (tCons (tVar 3) tNil)))) tNil)) tNil)))
        (tDrop (tBM K "list" rAppend (tFld K (tVar 2) (Str.ofString "roads")) (tCons (tTup tNil) tNil))) Dn [some (.ref R.r), some vf, some (.ref ia), some vt, some (.str way), x5] H1 := by
    intro S1 H1 x5 Dn x g1 ea k1 en fin
    have ei1 := k1 _ _ ei ir_
    have eh1 := k1 _ _ eh hr_
    have ed1 := k1 _ _ ed dr_
    have hF1 := hF.keep (PSt.kr k1) (g.ktr k1)
    have hT1 := hT.ts (g.ktr k1)
    have en1 : numF S1.at_ N f t = some x := by rw [ea]; exact en
    walk_at "rd"
    refine ask ⟨R, vf, vt, cs, S1, f, t, x, rfl, g1, hF1, hT1, lt, lf, by rw [ea]; exact la, h3, en1, fun H2 k2 g2 => ?_⟩
    walk_at "rd"
    refine made fun cl dx H3 ncl ndx nxd h3' hdx k3 => ⟨cl, dx, (x : Int), rfl, h3', fun ll H4 nll k4 h4 h5 => ⟨rfl, ?_⟩⟩
    have k24 : Keep [] H2 H4 := k3.fresh1 k4 ncl
    have nll2 := free0 k3 nll
    have cl_ll : cl ≠ ll := ne_of_none h3' nll
    have k02 : Keep [R.r] H H2 := k1.trans k2
    have fr : ∀ z, H2 z = none → H z = none := fun z hz => k02.free (fun m hm => by
      cases List.mem_singleton.mp hm
      exact g2.al _ List.mem_cons_self) hz
    have ei4 := k24 _ _ (k2 _ _ ei1 ir_) (by simp)
    have eh4 := k24 _ _ (k2 _ _ eh1 hr_) (by simp)
    have ed4 := k24 _ _ (k2 _ _ ed1 dr_) (by simp)
    walk_at "rd"
    intro H5 eh5 k5
    have ei5 := k5 _ _ ei4 (by simpa using ih)
    have ed5 := k5 _ _ ed4 (by simpa using Ne.symm hdn)
    walk_at "rd"
    intro tp H6 ntp htp k6
    have ed6 := k6 _ _ ed5 (by simp)
    walk_at "rd"
    intro H7 ed7 k7
    have g4 := g2.keep0 k24
    have nal : ∀ z, H2 z = none → z ≠ R.lc ∧ z ∉ trk R cs := fun z hz => ⟨(fun w => by rw [w, g2.com] at hz; cases hz), fun w => g2.al z w hz⟩
    have g4' := g4.more (ds := [(cl, ll)]) (vs := [x]) h3 rfl (by show [cl, ll].Nodup; simp [cl_ll]) (fun z hz => by
      have : z = cl ∨ z = ll := by simpa [flat] using hz
      rcases this with rfl | rfl
      · exact nal _ ncl
      · exact nal _ nll2) (fun i c hc => by
      have hi : i = 0 := by
        have := (List.getElem?_eq_some_iff.mp hc).1
        simp at this
        exact this
      subst hi
      cases hc
      exact ⟨dx, x, rfl, h4, h5⟩)
    have nM : ∀ (u : Addr), H2 u ≠ none → u ∉ R.lc :: trk R cs → ∀ a ∈ R.lc :: trk R (cs ++ [(cl, ll)]), a ∉ [u] := fun u hu hn a ha z => by
      rw [List.mem_singleton.mp z] at ha
      unfold trk at ha hn
      rw [flat_app] at ha
      have ha' : u ∈ (R.lc :: R.r :: R.ls :: flat cs) ++ flat [(cl, ll)] := ha
      rcases List.mem_append.mp ha' with q | q
      · exact hn q
      · have : u = cl ∨ u = ll := by simpa [flat] using q
        rcases this with rfl | rfl
        · exact hu ncl
        · exact hu nll2
    have uh : H2 h ≠ none := by rw [k2 _ _ eh1 hr_]; exact fun z => nomatch z
    have ud : H2 d ≠ none := by rw [k2 _ _ ed1 dr_]; exact fun z => nomatch z
    have g7 := ((g4'.keepN k5 (nM h uh hM)).keep0 k6).keepN k7 (nM d ud dM)
    have lo7 : Tst H6 H7 := k7.ts fun z hz => by cases List.mem_singleton.mp hz; exact .inl ⟨_, ed6⟩
    refine fin cl ll tp H7 (fr _ ncl) (fr _ nll2) ((((kM k02).by0 k24).trans (kh k5)).by0 k6 |>.trans (kd k7)) ?_ (k7 _ _ (k6 _ _ eh5 (by simp)) (by simpa using hdn)) ed7 (lo7.sqT (SqT.of htp))
    refine g7.cast ?_ rfl rfl ?_
    · show S.at_ ++ [x] = S1.at_ ++ [x]
      rw [ea]
    · show (S1.mixed || mixN S.at_ S1.lent N f t) = (S1.mixed || mixN S1.at_ S1.lent N f t)
      rw [ea]
  have way3 : way = "want" ∨ way = "copy" ∨ way = "place" ∨ way = "back" := by
    unfold ways4 at hw
    simp only [List.mem_cons, List.not_mem_nil, or_false] at hw
    rcases hw with hw | hw | hw | hw
    · exact .inr (.inl hw)
    · exact .inr (.inr (.inl hw))
    · exact .inr (.inr (.inr hw))
    · exact .inl hw
  have m8 : S.many ≤ 90000 := by
    have := (handF_lent e).2.1
    cases z : lentP N S f t way with
    | none =>
      rw [z] at this
      have e2 : S'.many = S.many := this
      omega
    | some p =>
      rw [z] at this
      have e2 : S'.many = S.many + 1 := this
      omega
  -- a place is lent
  have lend : ∀ (ds : List (Addr × Addr)) (S1 : LS) (H1 : Hp) (Dn : Ends) (p : Nat) (c : Addr × Addr), PSt K H1 kl R (cs ++ ds) S1 (lentOf S.lent) → cs[p]? = some c → S1.many = S.many → 
      (∀ H2, Keep (trk R cs) H1 H2 → PSt K H2 kl R (cs ++ ds) { S1 with many := S.many + 1 } (lentOf (S.lent ++ [(p, S.many + 1)])) → Dn.nx [some (.ref R.r), some vf, some (.ref ia), some vt, some (.str way), some (.ref c.1)] H2) →
      GetF K (Str.ofString "loans") (V.ref c.1) H1 fun v => IsL K v H1 (tCons (tFld K (tVar 0) (Str.ofString "lent")) tNil [some (.ref R.r), some vf, some (.ref ia), some vt, some (.str way), some (.ref c.1)] H1 fun zs H2 => rAppend v zs H2 fun _ H3 =>
        sFldAug K (tVar 0) (tC (V.int 1)) rAdd (Str.ofString "lent") Dn [some (.ref R.r), some vf, some (.ref ia), some vt, some (.str way), some (.ref c.1)] H3) := by
    intro ds S1 H1 Dn p c g1 hc em fin
    have hc' : (cs ++ ds)[p]? = some c := by rw [List.getElem?_append_left (List.getElem?_eq_some_iff.mp hc).1]; exact hc
    obtain ⟨dx, m, L, e1, e2, e3, e4⟩ := g1.cell p c hc'
    obtain ⟨dr, er⟩ := g1.run
    rw [em] at er
    have lL : (nums L).length ≤ 90000 := by
      have q1 : (L.map (· + 1)).length ≤ S.lent.length := by rw [← e4]; exact List.length_filterMap_le ..
      rw [List.length_map] at q1
      rw [nums_len]
      omega
    walk_at "rd"
    intro H2 h2 k2
    have g2 := g1.loan (L' := L ++ [S.many]) (lo' := lentOf (S.lent ++ [(p, S.many + 1)])) hc' k2 (by rw [nums_app]; exact h2) (by
      rw [lentOf_app, e4, List.map_append]
      congr 1
      unfold lentOf
      rw [List.filterMap_cons, if_pos rfl]
      rfl) (fun i hi => by
      rw [lentOf_app]
      have : lentOf [(p, S.many + 1)] i = [] := by
        unfold lentOf
        rw [List.filterMap_cons, if_neg (Ne.symm hi)]
        rfl
      rw [this, List.append_nil])
    obtain ⟨dr2, er2⟩ := g2.run
    rw [em] at er2
    walk_at "rd"
    refine r_aug (ta := tVar 0) (tv := tC (V.int 1)) (fun R0 hR => by walk_at "rd"; exact hR) (fun R0 hR => by walk_at "rd"; exact hR) er2 clR nt run_lent (Nat.le_of_ble_eq_true rfl) fun H3 h3' k3 => ?_
    rw [run_put_lent] at h3'
    have h3'' : H3 R.r = some (.ins kl.R dr2 (runF R.vp R.vw R.lc R.ls ((S.many + 1 : Nat) : Int) S1.mixed)) := h3'
    refine fin H3 ?_ (g2.fields k3 h3'')
    refine Keep.trans (k2.mono fun x hx => ?_) (PSt.kr k3)
    cases List.mem_singleton.mp hx
    exact List.mem_cons_of_mem _ (List.mem_cons_of_mem _ (mem_flat2 hc))
  have ktrk : ∀ {H1 H2 : Hp}, Keep (trk R cs) H1 H2 → Keep (h :: d :: trk R cs) H1 H2 := fun k => k.mono fun x hx => List.mem_cons_of_mem _ (List.mem_cons_of_mem _ hx)
  have hT_ : h ∉ trk R cs := fun z => hM (List.mem_cons_of_mem _ z)
  have dT_ : d ∉ trk R cs := fun z => dM (List.mem_cons_of_mem _ z)
  have last : ∀ (cl ll : Addr), (cs ++ [(cl, ll)])[S.at_.length]? = some (cl, ll) := fun cl ll => by
    rw [← g.len, List.getElem?_append_right (Nat.le_refl _), Nat.sub_self]
    rfl
  rcases way3 with rfl | rfl | rfl | rfl
  · -- want
    have lp : lentP N S f t "want" = none := by unfold lentP; rw [if_pos rfl]
    unfold handF at e
    rw [if_pos rfl] at e
    cases e
    have clW := T.own.tW.cl
    walk_at "rd"
    refine made fun wa dx H1 nwa ndx nxd h1 hdx k1 => ⟨wa, dx, vt, vf, rfl, h1, fun H2 k2 h2 => ⟨rfl, ?_⟩⟩
    have k02 : Keep [] H H2 := k1.fresh1 k2 nwa
    have ei2 := k02 _ _ ei (by simp)
    have eh2 := k02 _ _ eh (by simp)
    have ed2 := k02 _ _ ed (by simp)
    walk_at "rd"
    intro H3 eh3 k3
    have ei3 := k3 _ _ ei2 (by simpa using ih)
    have ed3 := k3 _ _ ed2 (by simpa using Ne.symm hdn)
    walk_at "rd"
    intro tp H4 ntp htp k4
    have ed4 := k4 _ _ ed3 (by simp)
    walk_at "rd"
    intro H5 ed5 k5
    walk_at "rd"
    have wh : wa ≠ h := fun z => by rw [z, eh] at nwa; cases nwa
    have wd : wa ≠ d := fun z => by rw [z, ed] at nwa; cases nwa
    have k05 : Keep (h :: d :: trk R cs) H H5 := (((k0 k02).trans (kh k3)).by0 k4).trans (kd k5)
    have sing : ∀ (u : Addr), u ∉ R.lc :: trk R cs → ∀ a ∈ R.lc :: trk R cs, a ∉ [u] := fun u hu a ha z => hu (by rw [← List.mem_singleton.mp z]; exact ha)
    have g5 : PSt K H5 kl R cs S (lentOf S.lent) := (((g.keep0 k02).keepN k3 (sing h hM)).keep0 k4).keepN k5 (sing d dM)
    have w5 := k5 _ _ (k4 _ _ (k3 _ _ h2 (by simpa using wh)) (by simp)) (by simpa using wd)
    have t5 : Tst H H5 := ((kts0 k02).trans (k3.ts fun z hz => by cases List.mem_singleton.mp hz; exact .inl ⟨_, eh2⟩)).trans ((kts0 k4).trans (k5.ts fun z hz => by cases List.mem_singleton.mp hz; exact .inl ⟨_, ed4⟩))
    have wM : wa ∉ trk R cs := fun z => g.al _ z nwa
    have hF5 := hF0.keep (k05.mono fun x hx => List.mem_append_right X hx) t5
    refine q [] (.ref wa) (.ref tp) .non H5 (fun z hz => nomatch hz) (by rw [List.append_nil]; exact g5) ?_ (k5 _ _ (k4 _ _ eh3 (by simp)) (by simpa using hdn)) ed5 k05 (fun _ => rfl) (fun p hp => by rw [lp] at hp; cases hp)
    rw [List.append_nil]
    unfold PHd
    refine ⟨wa, dx, vt, vf, rfl, w5, fun z => ?_, hT.ts t5, hF5⟩
    rcases List.mem_append.mp z with z | z
    · exact hX _ z nwa
    rcases List.mem_cons.mp z with z | z
    · exact wh z
    rcases List.mem_cons.mp z with z | z
    · exact wd z
    · exact wM z
  · -- copy
    have lp : lentP N S f t "copy" = none := by unfold lentP; rw [if_neg (by decide +kernel), if_neg (by decide +kernel)]
    unfold handF at e
    rw [if_neg (by decide +kernel), if_neg (by decide +kernel)] at e
    unfold newF at e
    cases en : numF S.at_ N f t with
    | none => rw [en] at e; cases e
    | some x =>
      rw [en] at e
      cases e
      walk_at "rd"
      refine r_andP (a := false) (b := false) (fun R0 hR => by walk_at "rd"; rw [show decide (V.str "copy" = V.str "place") = false by decide +kernel]; exact hR) (fun z => nomatch z) ?_
      rw [if_neg (by decide)]
      refine newc S H (some .non) _ x g rfl Keep.refl en fun cl ll tp H2 ncl nll k gg eh2 ed2 htp => ?_
      walk_at "rd"
      refine q [(cl, ll)] (.ref cl) (.ref tp) .non H2 (fun z hz => ?_) gg ?_ eh2 ed2 k (fun _ => rfl) (fun p hp => by rw [lp] at hp; cases hp)
      · have : z = cl ∨ z = ll := by simpa [flat] using hz
        rcases this with rfl | rfl
        · exact ncl
        · exact nll
      · unfold PHd
        exact ⟨(cl, ll), tp, [], last cl ll, rfl, rfl, htp, rfl⟩
  · -- place
    unfold handF at e
    rw [if_neg (by decide +kernel), if_pos (.inl rfl)] at e
    cases er : roadF S.at_ N f t with
    | none => rw [er] at e; cases e
    | some rr =>
      rw [er] at e
      cases rr with
      | none =>
        have lp : lentP N S f t "place" = none := by unfold lentP; rw [if_neg (by decide +kernel), if_pos (by decide +kernel), er]
        have e1 : newF N (S.mix (mixR S.at_ S.lent N f t)) f t = some (hd, b, S') := e
        unfold newF at e1
        cases en : numF S.at_ N f t with
        | none => rw [show numF (S.mix (mixR S.at_ S.lent N f t)).at_ N f t = none from en] at e1; cases e1
        | some x =>
          rw [show numF (S.mix (mixR S.at_ S.lent N f t)).at_ N f t = some x from en] at e1
          cases e1
          walk_at "rd"
          refine ask ⟨R, vf, vt, cs, S, f, t, none, rfl, g, hF, hT, lt, lf, la, h3, er, fun v H1 hn hs k1 g1 => ?_⟩
          cases hn rfl
          walk_at "rd"
          refine r_andP (a := true) (b := false) (fun R0 hR => by walk_at "rd"; rw [show decide (V.str "place" = V.str "place") = true by decide +kernel]; exact hR) (fun _ R0 hR => by walk_at "rd"; exact hR) ?_
          rw [if_neg (by decide)]
          refine newc (S.mix (mixR S.at_ S.lent N f t)) H1 (some .non) _ x g1 rfl k1 en fun cl ll tp H2 ncl nll k gg eh2 ed2 htp => ?_
          walk_at "rd"
          refine q [(cl, ll)] (.ref cl) (.ref tp) .non H2 (fun z hz => ?_) gg ?_ eh2 ed2 k (fun _ => rfl) (fun p hp => by rw [lp] at hp; cases hp)
          · have : z = cl ∨ z = ll := by simpa [flat] using hz
            rcases this with rfl | rfl
            · exact ncl
            · exact nll
          · unfold PHd
            exact ⟨(cl, ll), tp, [], last cl ll, rfl, rfl, htp, rfl⟩
      | some pw =>
        obtain ⟨p, ws⟩ := pw
        have lp : lentP N S f t "place" = some p := by unfold lentP; rw [if_neg (by decide +kernel), if_pos (by decide +kernel), er]
        have e1 : (if ("place" : Str) = "place" then some (Hd.road p (ws ++ [S.many + 1]), (none : Option Nat), (S.mix (mixR S.at_ S.lent N f t)).lend p ws) else (S.at_[p]?.map fun v => (Hd.road S.at_.length [], some p, { (S.mix (mixR S.at_ S.lent N f t)).lend p ws with at_ := S.at_ ++ [v] }))) = some (hd, b, S') := e
        rw [if_pos rfl] at e1
        cases e1
        walk_at "rd"
        refine ask ⟨R, vf, vt, cs, S, f, t, some (p, ws), rfl, g, hF, hT, lt, lf, la, h3, er, fun v H1 hn hs k1 g1 => ?_⟩
        obtain ⟨c, hc, rfl⟩ := hs p ws rfl
        walk_at "rd"
        refine r_andP (a := true) (b := true) (fun R0 hR => by walk_at "rd"; rw [show decide (V.str "place" = V.str "place") = true by decide +kernel]; exact hR) (fun _ R0 hR => by walk_at "rd"; exact hR) ?_
        rw [if_pos (by decide)]
        have hF1 := hF.keep (PSt.kr k1) (g.ktr k1)
        have hT1 := hT.ts (g.ktr k1)
        walk_at "rd"
        refine ask ⟨R, vf, vt, cs, _, _, f, t, p, ws, c, rfl, g1, hF1, hT1, er, hc, fun H2 k2 g2 => ?_⟩
        have k02 := k1.trans k2
        have hF2 := hF.keep (PSt.kr k02) (g.ktr k02)
        have hT2 := hT.ts (g.ktr k02)
        have ei2 := k02 _ _ ei ir_
        have eh2 := k02 _ _ eh hr_
        have ed2 := k02 _ _ ed dr_
        walk_at "rd"
        intro H3 eh3 k3
        have sing : ∀ (u : Addr), u ∉ R.lc :: trk R cs → ∀ a ∈ R.lc :: trk R cs, a ∉ [u] := fun u hu a ha z => hu (by rw [← List.mem_singleton.mp z]; exact ha)
        have ei3 := k3 _ _ ei2 (by simpa using ih)
        have ed3 := k3 _ _ ed2 (by simpa using Ne.symm hdn)
        have g3 := g2.keepN k3 (sing h hM)
        have t3 : Tst H2 H3 := k3.ts fun z hz => by cases List.mem_singleton.mp hz; exact .inl ⟨_, eh2⟩
        have hF3 : PFr K H3 kl (trk R cs) cs f vf := by
          have a2 := hF0.keep ((kM k02).mono fun x hx => List.mem_append_right X hx) (g.ktr k02)
          exact (a2.keep ((kh k3).mono fun x hx => List.mem_append_right X hx) t3).go Keep.refl Tst.refl (fun x hx => .inl (List.mem_append_right _ (List.mem_cons_of_mem _ (List.mem_cons_of_mem _ hx)))) fun _ _ z => z
        have hT3 := hT2.ts t3
        walk_at "rd"
        refine ask ⟨vf, vt, trk R cs, cs, S.at_, f, t, p, ws, rfl, hF3, hT3, er, (fun i c hc => by
          obtain ⟨dx, n, L, _, h, _⟩ := g3.cell i c hc
          exact ⟨dx, _, h⟩), fun tp L H4 k4 hS ew => ?_⟩
        subst ew
        have g4 := g3.keep0 k4
        obtain ⟨dr, er4⟩ := g4.run
        have ei4 := k4 _ _ ei3 (by simp)
        have ed4 := k4 _ _ ed3 (by simp)
        walk_at "rd"
        intro t2 H5 nt2 ht2 k5
        have hS5 := (kts0 k5).sqT hS
        have lL : L.length ≤ 90000 := by
          have := roadF_ws wl er
          rw [List.length_map] at this
          omega
        walk_at "rd"
        refine r_catA hS5 (SqT.of ht2) (small (by rw [nums_len]; show L.length + 1 ≤ 100000; omega)) fun t3 H6 hS6 k6 fr6 => ?_
        have ed6 := k6 _ _ (k5 _ _ ed4 (by simp)) (by simp)
        have ei6 := k6 _ _ (k5 _ _ ei4 (by simp)) (by simp)
        walk_at "rd"
        intro H7 ed7 k7
        have g7 := ((g4.keep0 k5).keep0 k6).keepN k7 (sing d dM)
        have t7 : Tst H6 H7 := k7.ts fun z hz => by cases List.mem_singleton.mp hz; exact .inl ⟨_, ed6⟩
        have g7' : PSt K H7 kl R (cs ++ []) ((S.mix (mixR S.at_ S.lent N f t)).mix (meet S.lent p (L.map (· + 1)))) (lentOf S.lent) := by
          rw [List.append_nil, meet_lentOf]
          exact g7
        walk_at "rd"
        refine lend [] _ H7 ({ ({ nx := fun _ H' => Q .non H', rt := Q } : Ends) with nx := tRet (tVar 5) { nx := fun _ H' => Q .non H', rt := Q } }) p c g7' hc rfl fun H8 k8 g8 => ?_
        have k27 : Keep (h :: d :: trk R cs) H2 H7 := (((kh k3).by0 k4).by0 k5).by0 k6 |>.trans (kd k7)
        have k08 : Keep (h :: d :: trk R cs) H H8 := ((kM k02).trans k27).trans (ktrk k8)
        have eh8 := k8 _ _ (k7 _ _ (k6 _ _ (k5 _ _ (k4 _ _ eh3 (by simp)) (by simp)) (by simp)) (by simpa using hdn)) hT_
        have ed8 := k8 _ _ ed7 dT_
        walk_at "rd"
        refine q [] (.ref c.1) (.ref t3) (.ref c.1) H8 (fun z hz => nomatch hz) (g8.cast rfl rfl rfl rfl) ?_ eh8 ed8 k08 (fun z => by rw [lp] at z; cases z) (fun p' hp => by rw [lp] at hp; cases hp; exact ⟨c, hc, rfl⟩)
        unfold PHd
        refine ⟨c, t3, L ++ [S.many], by rw [List.append_nil]; exact hc, rfl, rfl, ?_, by rw [List.map_append]; rfl⟩
        rw [nums_app]
        have g7t : Tst H7 H8 := g7.ts k8
        exact g7t.sqT (t7.sqT hS6)
  · -- back
    unfold handF at e
    rw [if_neg (by decide +kernel), if_pos (.inr rfl)] at e
    cases er : roadF S.at_ N f t with
    | none => rw [er] at e; cases e
    | some rr =>
      rw [er] at e
      cases rr with
      | none =>
        have lp : lentP N S f t "back" = none := by unfold lentP; rw [if_neg (by decide +kernel), if_pos (by decide +kernel), er]
        have e1 : newF N (S.mix (mixR S.at_ S.lent N f t)) f t = some (hd, b, S') := e
        unfold newF at e1
        cases en : numF S.at_ N f t with
        | none => rw [show numF (S.mix (mixR S.at_ S.lent N f t)).at_ N f t = none from en] at e1; cases e1
        | some x =>
          rw [show numF (S.mix (mixR S.at_ S.lent N f t)).at_ N f t = some x from en] at e1
          cases e1
          walk_at "rd"
          refine ask ⟨R, vf, vt, cs, S, f, t, none, rfl, g, hF, hT, lt, lf, la, h3, er, fun v H1 hn hs k1 g1 => ?_⟩
          cases hn rfl
          walk_at "rd"
          refine r_andP (a := false) (b := false) (fun R0 hR => by walk_at "rd"; rw [show decide (V.str "back" = V.str "place") = false by decide +kernel]; exact hR) (fun _ R0 hR => by walk_at "rd"; exact hR) ?_
          rw [if_neg (by decide)]
          refine newc (S.mix (mixR S.at_ S.lent N f t)) H1 (some .non) _ x g1 rfl k1 en fun cl ll tp H2 ncl nll k gg eh2 ed2 htp => ?_
          walk_at "rd"
          refine q [(cl, ll)] (.ref cl) (.ref tp) .non H2 (fun z hz => ?_) gg ?_ eh2 ed2 k (fun _ => rfl) (fun p hp => by rw [lp] at hp; cases hp)
          · have : z = cl ∨ z = ll := by simpa [flat] using hz
            rcases this with rfl | rfl
            · exact ncl
            · exact nll
          · unfold PHd
            exact ⟨(cl, ll), tp, [], last cl ll, rfl, rfl, htp, rfl⟩
      | some pw =>
        obtain ⟨p, ws⟩ := pw
        have lp : lentP N S f t "back" = some p := by unfold lentP; rw [if_neg (by decide +kernel), if_pos (by decide +kernel), er]
        have e1 : (if ("back" : Str) = "place" then some (Hd.road p (ws ++ [S.many + 1]), (none : Option Nat), (S.mix (mixR S.at_ S.lent N f t)).lend p ws) else (S.at_[p]?.map fun v => (Hd.road S.at_.length [], some p, { (S.mix (mixR S.at_ S.lent N f t)).lend p ws with at_ := S.at_ ++ [v] }))) = some (hd, b, S') := e
        rw [if_neg (by decide +kernel)] at e1
        cases ep : S.at_[p]? with
        | none => rw [ep] at e1; cases e1
        | some x =>
          rw [ep] at e1
          cases e1
          have en : numF S.at_ N f t = some x := (numF_road er).trans ep
          walk_at "rd"
          refine ask ⟨R, vf, vt, cs, S, f, t, some (p, ws), rfl, g, hF, hT, lt, lf, la, h3, er, fun v H1 hn hs k1 g1 => ?_⟩
          obtain ⟨c, hc, rfl⟩ := hs p ws rfl
          walk_at "rd"
          refine r_andP (a := false) (b := true) (fun R0 hR => by walk_at "rd"; rw [show decide (V.str "back" = V.str "place") = false by decide +kernel]; exact hR) (fun z => nomatch z) ?_
          rw [if_neg (by decide)]
          refine newc (S.mix (mixR S.at_ S.lent N f t)) H1 (some (.ref c.1)) _ x g1 rfl k1 en fun cl ll tp H2 ncl nll k gg eh2 ed2 htp => ?_
          walk_at "rd"
          refine lend [(cl, ll)] _ H2 ({ ({ nx := fun _ H' => Q .non H', rt := Q } : Ends) with nx := tRet (tVar 5) { nx := fun _ H' => Q .non H', rt := Q } }) p c gg hc rfl fun H3 k3 g3 => ?_
          walk_at "rd"
          have g2t : Tst H2 H3 := k3.ts fun z hz => gg.lo_ z (by
            unfold trk at hz ⊢
            rw [flat_app]
            rcases List.mem_cons.mp hz with q | q
            · exact q ▸ List.mem_cons_self
            rcases List.mem_cons.mp q with q | q
            · exact List.mem_cons_of_mem _ (q ▸ List.mem_cons_self)
            · exact List.mem_cons_of_mem _ (List.mem_cons_of_mem _ (List.mem_append_left _ q)))
          refine q [(cl, ll)] (.ref cl) (.ref tp) (.ref c.1) H3 (fun z hz => ?_) (g3.cast rfl rfl rfl ?_) ?_ (k3 _ _ eh2 hT_) (k3 _ _ ed2 dT_) (k.trans (ktrk k3)) (fun z => by rw [lp] at z; cases z) (fun p' hp => by rw [lp] at hp; cases hp; exact ⟨c, hc, rfl⟩)
          · have : z = cl ∨ z = ll := by simpa [flat] using hz
            rcases this with rfl | rfl
            · exact ncl
            · exact nll
          · show ((S.mixed || mixR S.at_ S.lent N f t) || meet S.lent p ws) = ((S.mixed || mixR S.at_ S.lent N f t) || mixN S.at_ S.lent N f t)
            rw [mixN_road er]
            cases S.mixed <;> cases mixR S.at_ S.lent N f t <;> cases meet S.lent p ws <;> rfl
          · unfold PHd
            exact ⟨(cl, ll), tp, [], last cl ll, rfl, rfl, g2t.sqT htp, rfl⟩
end
end Hw
namespace Hw
open PySem PySem.Spec PyProof.Rows L2
local macro_rules | `(tactic| walk_at "sz") => `(tactic| first | exact Nat.le_of_ble_eq_true rfl | exact small (by first | omega | (simp; done) | (simp; omega)))
local macro_rules | `(tactic| walk_at "szT") => `(tactic| first | exact Nat.lt_of_lt_of_le (Nat.lt_succ_self _) (Nat.le_of_ble_eq_true rfl) | exact smallT (by first | omega | (simp; done) | (simp; omega)))
local macro_rules | `(tactic| walk_at "cond") => `(tactic| first | decide | omega | (dsimp only; omega) | exact ⟨by omega, by omega⟩ | exact .inr ⟨by decide, by decide⟩)
local macro_rules | `(tactic| walk_at "sq") => `(tactic| first | assumption | exact SqL.of (by assumption) | exact SqT.of (by assumption))
local macro_rules | `(tactic| walk_at "ty") => `(tactic| first | (with_reducible assumption) | exact .base (.int _) | exact .base (.str _) | exact .base (.bl _) | exact .base .non | exact tyT (by walk_at "sq") | exact tyL (by walk_at "sq"))
local macro_rules | `(tactic| walk_at "rd1") => `(tactic| first
  | ((with_reducible apply r_seq))
  | ((with_reducible apply r_asg))
  | ((with_reducible apply r_name))
  | ((with_reducible apply r_op))
  | ((with_reducible apply r_var); exact rfl)
  | ((with_reducible apply r_c))
  | ((with_reducible apply r_ixT); (walk_at "sq"); first | exact rfl | assumption)
  | ((with_reducible apply r_ixL); (walk_at "sq"); first | exact rfl | assumption)
  | ((with_reducible apply r_ixA); (first | exact .inl (by walk_at "sq") | exact .inr (by walk_at "sq")); first | exact rfl | assumption)
  | ((with_reducible apply r_isi); (walk_at "ty"); (decide +kernel))
  | ((with_reducible apply r_isiT2); assumption; (walk_at "ty"); (decide +kernel); (decide +kernel))
  | ((with_reducible apply r_I0))
  | ((with_reducible apply r_I); (walk_at "cond"))
  | ((with_reducible apply r_eq); exact rfl)
  | ((with_reducible apply r_ne); exact rfl)
  | ((with_reducible apply r_test))
  | ((with_reducible apply r_bl))
  | ((with_reducible apply r_if))
  | ((with_reducible apply r_nil))
  | ((with_reducible apply r_cons))
  | ((with_reducible apply r_call))
  | ((with_reducible apply r_cb))
  | ((with_reducible apply r_tup))
  | ((with_reducible apply r_lst))
  | ((with_reducible apply new); (walk_at "sz"))
  | ((with_reducible apply r_ret))
  | ((with_reducible apply r_retN))
  | ((with_reducible apply r_next))
  | ((with_reducible apply r_drop))
  | ((with_reducible apply r_lenL); (walk_at "sq"))
  | ((with_reducible apply r_lenT); (walk_at "sq"))
  | ((with_reducible apply r_int))
  | ((with_reducible apply r_intB))
  | ((with_reducible apply r_isN))
  | ((with_reducible apply r_notN))
  | ((with_reducible apply r_B))
  | ((with_reducible apply r_not))
  | ((with_reducible apply r_notV))
  | ((with_reducible apply r_andV))
  | ((with_reducible apply r_orV))
  | ((with_reducible apply r_ifE))
  | ((with_reducible apply r_chain))
  | ((with_reducible apply ite_t); (first | (with_reducible exact nRN) | (with_reducible exact nIN) | (with_reducible exact dNN) | decide +kernel))
  | ((with_reducible apply ite_f); (first | (with_reducible exact dRN) | (with_reducible exact dIN) | (with_reducible exact nNN) | decide +kernel))
  | ((with_reducible apply r_in); (first | exact .inl (by walk_at "sq") | exact .inr (by walk_at "sq")); exact rfl; (first | exact nums_flat | exact rfl))
  | ((with_reducible apply turn))
  | ((with_reducible apply r_for))
  | ((with_reducible apply r_iRng1))
  | ((with_reducible apply r_rng); (first | decide | omega | (simp; omega)); (first | decide | omega | (simp; omega)))
  | ((with_reducible apply r_iList))
  | ((with_reducible apply r_iTup))
  | ((with_reducible apply r_overL); (walk_at "sq"))
  | ((with_reducible apply r_overT); (walk_at "sq"))
  | ((with_reducible apply r_lc))
  | ((with_reducible apply acc); assumption; (walk_at "szT"))
  | ((with_reducible apply r_sub))
  | ((with_reducible apply r_setL); assumption; exact rfl)
  | ((with_reducible apply r_gtup); (walk_at "sq"); rfl)
  | ((with_reducible apply r_gnil))
  | ((with_reducible apply r_gcons))
  | ((with_reducible apply r_par))
  | ((with_reducible apply r_par2))
  | ((with_reducible apply r_sl))
  | ((with_reducible apply r_part))
  | ((with_reducible apply r_part1))
  | ((with_reducible apply r_noPart))
  | ((with_reducible apply r_slL); (walk_at "sq"))
  | ((with_reducible apply r_slA); (walk_at "sq"))
  | ((with_reducible apply r_tupL); (walk_at "sq"))
  | ((with_reducible apply r_tupT); (walk_at "sq"))
  | ((with_reducible apply r_lstL); (walk_at "sq"))
  | ((with_reducible apply r_lstT); (walk_at "sq"))
  | ((with_reducible apply r_append))
  | ((with_reducible apply r_isL); (walk_at "sq"))
  | ((with_reducible apply r_app); assumption; (walk_at "szT"))
  | ((with_reducible apply r_dget))
  | ((with_reducible apply r_dgetS); assumption; (walk_at "dk"))
  | ((with_reducible apply r_dput))
  | ((with_reducible apply r_dputS); assumption; (walk_at "szT"))
  | ((with_reducible apply r_disp))
  | ((with_reducible apply r_pnil))
  | ((with_reducible apply r_pcons))
  | ((with_reducible apply r_fld))
  | ((with_reducible apply r_fld1); assumption; assumption; assumption; (first | exact rfl | assumption))
  | ((with_reducible apply r_sfld))
  | ((with_reducible apply r_sfld1); assumption; assumption; assumption; exact (by decide)))
local macro_rules | `(tactic| walk_at "rd") => `(tactic| repeat walk_at "rd1")
local macro_rules | `(tactic| walk_at "lk") => `(tactic| first | (with_reducible exact cell_number) | (with_reducible exact cell_loans) | (with_reducible exact frame_owns) | (with_reducible exact frame_handed) | (with_reducible exact frame_roads) | (with_reducible exact want_thing) | (with_reducible exact want_frame) | (with_reducible exact run_program) | (with_reducible exact run_ways) | (with_reducible exact run_commons) | (with_reducible exact run_said) | (with_reducible exact run_lent) | (with_reducible exact run_mixed))
local macro_rules | `(tactic| walk_at "rd1") => `(tactic| first
  | ((with_reducible apply r_enumT))
  | ((with_reducible apply r_overE); (walk_at "sq"))
  | ((with_reducible apply r_zipA))
  | ((with_reducible apply r_zipT); (walk_at "sq"); (walk_at "sq"))
  | ((with_reducible apply r_zip3))
  | ((with_reducible apply r_overZ3); (walk_at "sq"); (walk_at "sq"); (walk_at "sq"))
  | ((with_reducible apply r_make))
  | ((with_reducible apply r_isiC); assumption; assumption; assumption)
  | ((with_reducible apply r_popM))
  | ((with_reducible apply r_pop); assumption)
  | ((with_reducible apply r_tru))
  | ((with_reducible apply r_truL); (walk_at "sq"))
  | ((with_reducible apply r_fld1); assumption; assumption; assumption; (walk_at "lk"))
  | ((with_reducible apply r_sfld1); assumption; assumption; assumption; exact Nat.le_of_ble_eq_true rfl))
section
variable {P : Program} {w : World} {K : PySem.W.Frag} {mg : Str → Option Value} {base : Heap}
/-! ### running.py: do_set; what a step and a body promise -/
structure Gst (K : PySem.W.Frag) (H : Hp) (kl : Kl) (R : Rn) (cs : List (Addr × Addr)) (S : LS) (f : Fr) (vf : V) : Prop where
  ps : PS K H kl R cs S
  fr : PFr K H kl (trk R cs) cs f vf
  lf : f.lit
  la : Low S.at_
  l3 : 3 ≤ cs.length
  ll : S.lent.length ≤ S.many
  wl : f.wsLe S.many
def Gend (K : PySem.W.Frag) (H : Hp) (kl : Kl) (R : Rn) (cs : List (Addr × Addr)) (S' : LS) (Q : VK) : Prop :=
  ∀ (ds : List (Addr × Addr)) (H' : Hp), (∀ z ∈ flat ds, H z = none) → Keep (trk R cs) H H' → PS K H' kl R (cs ++ ds) S' → Q .non H'
def spDoSet (K : PySem.W.Frag) (kl : Kl) (N : Nat) (PP : List Wk) (W : List (List Str)) : Sp := fun vs H Q _ => ∃ (R : Rn) (vf vp vt : V) (cs : List (Addr × Addr)) (S S' : LS) (f : Fr) (p t : Th) (m : Nat), vs = [.ref R.r, vf, vp, vt] ∧ Gst K H kl R cs S f vf ∧ Rp K H vp p.enc ∧ Rp K H vt t.enc ∧ p.lit ∧ t.lit ∧
  stepF PP W N (m + 1) f S (.set p t) = some S' ∧ Gend K H kl R cs S' Q
abbrev sdo_set : Stmt := top 35
abbrev ndo_set : List Str := ["run", "frame", "place", "thing", "number", "cell"]
abbrev pdo_set : List Str := ["run", "frame", "place", "thing"]
theorem scdo_set : FnScope ndo_set pdo_set (defScope sdo_set) := ⟨rfl, rfl, rfl, by decide +kernel, rfl, by decide +kernel, by decide +kernel⟩
theorem okDoSet {tk : Nat → Tok} {aP aW : Addr} {kl : Kl} {N : Nat} {PP : List Wk} {W : List (List Str)} (D : DefAt K mg "do_set" sdo_set pdo_set) (T : Prg K tk aP aW kl mg) (C_number_of : Callee P w K mg base "number_of" (2 * N + 2) pnumber_of (spNumber K kl N)) (C_found : Callee P w K mg base "found" (2 * N + 1) pfound (spFound K kl N))
    (C_come_to : Callee P w K mg base "come_to" (N + 1) pcome_to (spComeTo K kl N)) : Callee P w K mg base "do_set" (2 * N + 3) pdo_set (spDoSet K kl N PP W) := by
  refine D.ok scdo_set (fun vs H Q E h => ?_) (fun f cdv A outer s H vs Q E hr h => ?_)
  · obtain ⟨R, vf, vp, vt, cs, S, S', f, p, t, m, rfl, _⟩ := h
    rfl
  obtain ⟨R, vf, vp, vt, cs, S, S', f, p, t, m, rfl, ⟨g, hF, lf, la, h3, ll, wl⟩, hP, hT, lp, lt, e, q⟩ := h
  refine ⟨_, (pss_cons (ps_set (i := 4) scdo_set.nd rfl (Or.inl rfl) (pcall C_number_of (hr.mono (by omega)) rfl (pa_cons (pv 0) (pa_cons (pv 1) (pa_cons (pv 3) pa_nil)))))
  (pss_cons (ps_set (i := 5) scdo_set.nd rfl (Or.inl rfl) (pcall C_found (hr.mono (by omega)) rfl (pa_cons (pv 0) (pa_cons (pv 1) (pa_cons (pv 2) pa_nil)))))
  (pss_one (ps_if (pt_cmpR op_notN1 (pv 5) pe_non (nomark _)) (pss_cons (ps_expr (pcall C_come_to (hr.mono (by omega)) rfl (pa_cons (pv 0) (pa_cons (pv 1) (pa_cons (pv 2) (pa_cons (pv 5) pa_nil))))))
  (pss_one (psFld (K := K) (pv 5) (pv 4) rfl))) pss_nil)))), ?_⟩
  have clC := T.own.tC.cl
  have nn := T.own.number
  unfold stepF at e
  cases en : numF S.at_ N f t with
  | none => rw [en] at e; cases e
  | some v =>
  rw [en] at e
  cases er : roadF S.at_ N f p with
  | none => rw [er] at e; cases e
  | some rr =>
  rw [er] at e
  walk_at "rd"
  refine ask ⟨R, vf, vt, cs, S, f, t, v, rfl, g, hF, hT, lt, lf, la, h3, en, fun H1 k1 g1 => ?_⟩
  have hF1 := hF.keep (PSt.kr k1) (g.ktr k1)
  have hP1 := hP.ts (g.ktr k1)
  walk_at "rd"
  refine ask ⟨R, vf, vp, cs, _, f, p, rr, rfl, g1, hF1, hP1, lp, lf, la, h3, er, fun u H2 hn hs k2 g2 => ?_⟩
  have k02 := k1.trans k2
  cases rr with
  | none =>
    cases e
    cases hn rfl
    walk_at "rd"
    exact q [] H2 (fun z hz => nomatch hz) (PSt.kr k02) (by rw [List.append_nil]; exact g2)
  | some pw =>
    obtain ⟨x, ws⟩ := pw
    have e' : (if x < S.at_.length then some { ((S.mix (mixN S.at_ S.lent N f t)).mix (mixR S.at_ S.lent N f p)).mix (meet S.lent x ws) with at_ := S.at_.set x v } else none) = some S' := e
    obtain ⟨c, hc, rfl⟩ := hs x ws rfl
    have hx : x < S.at_.length := by
      rw [← g.len]
      exact (List.getElem?_eq_some_iff.mp hc).1
    rw [if_pos hx] at e'
    cases e'
    have hF2 := hF.keep (PSt.kr k02) (g.ktr k02)
    have hP2 := hP.ts (g.ktr k02)
    walk_at "rd"
    refine ask ⟨R, vf, vp, cs, _, _, f, p, x, ws, c, rfl, g2, hF2, hP2, er, hc, fun H3 k3 g3 => ?_⟩
    obtain ⟨dx, m', L, e1, e2, e3, e4⟩ := g3.cell x c hc
    walk_at "rd"
    intro H4 h4 k4
    rw [cell_put] at h4
    have g4 := g3.put hc k4 h4
    refine q [] H4 (fun z hz => nomatch hz) ((PSt.kr (k02.trans k3)).trans (k4.mono fun z hz => by
      cases List.mem_singleton.mp hz
      exact List.mem_cons_of_mem _ (List.mem_cons_of_mem _ (mem_flat1 hc)))) ?_
    rw [List.append_nil]
    refine g4.cast rfl rfl rfl ?_
    rw [meet_lentOf]
    rfl
end
end Hw
namespace Hw
open PySem PySem.Spec PyProof.Rows L2
local macro_rules | `(tactic| walk_at "sz") => `(tactic| first | exact Nat.le_of_ble_eq_true rfl | exact small (by first | omega | (simp; done) | (simp; omega)))
local macro_rules | `(tactic| walk_at "szT") => `(tactic| first | exact Nat.lt_of_lt_of_le (Nat.lt_succ_self _) (Nat.le_of_ble_eq_true rfl) | exact smallT (by first | omega | (simp; done) | (simp; omega)))
local macro_rules | `(tactic| walk_at "cond") => `(tactic| first | decide | omega | (dsimp only; omega) | exact ⟨by omega, by omega⟩ | exact .inr ⟨by decide, by decide⟩)
local macro_rules | `(tactic| walk_at "sq") => `(tactic| first | assumption | exact SqL.of (by assumption) | exact SqT.of (by assumption))
local macro_rules | `(tactic| walk_at "ty") => `(tactic| first | (with_reducible assumption) | exact .base (.int _) | exact .base (.str _) | exact .base (.bl _) | exact .base .non | exact tyT (by walk_at "sq") | exact tyL (by walk_at "sq"))
local macro_rules | `(tactic| walk_at "rd1") => `(tactic| first
  | ((with_reducible apply r_seq))
  | ((with_reducible apply r_asg))
  | ((with_reducible apply r_name))
  | ((with_reducible apply r_op))
  | ((with_reducible apply r_var); exact rfl)
  | ((with_reducible apply r_c))
  | ((with_reducible apply r_ixT); (walk_at "sq"); first | exact rfl | assumption)
  | ((with_reducible apply r_ixL); (walk_at "sq"); first | exact rfl | assumption)
  | ((with_reducible apply r_ixA); (first | exact .inl (by walk_at "sq") | exact .inr (by walk_at "sq")); first | exact rfl | assumption)
  | ((with_reducible apply r_isi); (walk_at "ty"); (decide +kernel))
  | ((with_reducible apply r_isiT2); assumption; (walk_at "ty"); (decide +kernel); (decide +kernel))
  | ((with_reducible apply r_I0))
  | ((with_reducible apply r_I); (walk_at "cond"))
  | ((with_reducible apply r_eq); exact rfl)
  | ((with_reducible apply r_ne); exact rfl)
  | ((with_reducible apply r_test))
  | ((with_reducible apply r_bl))
  | ((with_reducible apply r_if))
  | ((with_reducible apply r_nil))
  | ((with_reducible apply r_cons))
  | ((with_reducible apply r_call))
  | ((with_reducible apply r_cb))
  | ((with_reducible apply r_tup))
  | ((with_reducible apply r_lst))
  | ((with_reducible apply new); (walk_at "sz"))
  | ((with_reducible apply r_ret))
  | ((with_reducible apply r_retN))
  | ((with_reducible apply r_next))
  | ((with_reducible apply r_drop))
  | ((with_reducible apply r_lenL); (walk_at "sq"))
  | ((with_reducible apply r_lenT); (walk_at "sq"))
  | ((with_reducible apply r_int))
  | ((with_reducible apply r_intB))
  | ((with_reducible apply r_isN))
  | ((with_reducible apply r_notN))
  | ((with_reducible apply r_B))
  | ((with_reducible apply r_not))
  | ((with_reducible apply r_notV))
  | ((with_reducible apply r_andV))
  | ((with_reducible apply r_orV))
  | ((with_reducible apply r_ifE))
  | ((with_reducible apply r_chain))
  | ((with_reducible apply ite_t); (first | (with_reducible exact nRN) | (with_reducible exact nIN) | (with_reducible exact dNN) | decide +kernel))
  | ((with_reducible apply ite_f); (first | (with_reducible exact dRN) | (with_reducible exact dIN) | (with_reducible exact nNN) | decide +kernel))
  | ((with_reducible apply r_in); (first | exact .inl (by walk_at "sq") | exact .inr (by walk_at "sq")); exact rfl; (first | exact nums_flat | exact rfl))
  | ((with_reducible apply turn))
  | ((with_reducible apply r_for))
  | ((with_reducible apply r_iRng1))
  | ((with_reducible apply r_rng); (first | decide | omega | (simp; omega)); (first | decide | omega | (simp; omega)))
  | ((with_reducible apply r_iList))
  | ((with_reducible apply r_iTup))
  | ((with_reducible apply r_overL); (walk_at "sq"))
  | ((with_reducible apply r_overT); (walk_at "sq"))
  | ((with_reducible apply r_lc))
  | ((with_reducible apply acc); assumption; (walk_at "szT"))
  | ((with_reducible apply r_sub))
  | ((with_reducible apply r_setL); assumption; exact rfl)
  | ((with_reducible apply r_gtup); (walk_at "sq"); rfl)
  | ((with_reducible apply r_gnil))
  | ((with_reducible apply r_gcons))
  | ((with_reducible apply r_par))
  | ((with_reducible apply r_par2))
  | ((with_reducible apply r_sl))
  | ((with_reducible apply r_part))
  | ((with_reducible apply r_part1))
  | ((with_reducible apply r_noPart))
  | ((with_reducible apply r_slL); (walk_at "sq"))
  | ((with_reducible apply r_slA); (walk_at "sq"))
  | ((with_reducible apply r_tupL); (walk_at "sq"))
  | ((with_reducible apply r_tupT); (walk_at "sq"))
  | ((with_reducible apply r_lstL); (walk_at "sq"))
  | ((with_reducible apply r_lstT); (walk_at "sq"))
  | ((with_reducible apply r_append))
  | ((with_reducible apply r_isL); (walk_at "sq"))
  | ((with_reducible apply r_app); assumption; (walk_at "szT"))
  | ((with_reducible apply r_dget))
  | ((with_reducible apply r_dgetS); assumption; (walk_at "dk"))
  | ((with_reducible apply r_dput))
  | ((with_reducible apply r_dputS); assumption; (walk_at "szT"))
  | ((with_reducible apply r_disp))
  | ((with_reducible apply r_pnil))
  | ((with_reducible apply r_pcons))
  | ((with_reducible apply r_fld))
  | ((with_reducible apply r_fld1); assumption; assumption; assumption; (first | exact rfl | assumption))
  | ((with_reducible apply r_sfld))
  | ((with_reducible apply r_sfld1); assumption; assumption; assumption; exact (by decide)))
local macro_rules | `(tactic| walk_at "rd") => `(tactic| repeat walk_at "rd1")
local macro_rules | `(tactic| walk_at "lk") => `(tactic| first | (with_reducible exact cell_number) | (with_reducible exact cell_loans) | (with_reducible exact frame_owns) | (with_reducible exact frame_handed) | (with_reducible exact frame_roads) | (with_reducible exact want_thing) | (with_reducible exact want_frame) | (with_reducible exact run_program) | (with_reducible exact run_ways) | (with_reducible exact run_commons) | (with_reducible exact run_said) | (with_reducible exact run_lent) | (with_reducible exact run_mixed))
local macro_rules | `(tactic| walk_at "rd1") => `(tactic| first
  | ((with_reducible apply r_enumT))
  | ((with_reducible apply r_overE); (walk_at "sq"))
  | ((with_reducible apply r_zipA))
  | ((with_reducible apply r_zipT); (walk_at "sq"); (walk_at "sq"))
  | ((with_reducible apply r_zip3))
  | ((with_reducible apply r_overZ3); (walk_at "sq"); (walk_at "sq"); (walk_at "sq"))
  | ((with_reducible apply r_make))
  | ((with_reducible apply r_isiC); assumption; assumption; assumption)
  | ((with_reducible apply r_popM))
  | ((with_reducible apply r_pop); assumption)
  | ((with_reducible apply r_tru))
  | ((with_reducible apply r_truL); (walk_at "sq"))
  | ((with_reducible apply r_fld1); assumption; assumption; assumption; (walk_at "lk"))
  | ((with_reducible apply r_sfld1); assumption; assumption; assumption; exact Nat.le_of_ble_eq_true rfl))
section
variable {P : Program} {w : World} {K : PySem.W.Frag} {mg : Str → Option Value} {base : Heap}
/-! ### running.py: do_call -/
def spDoBody (K : PySem.W.Frag) (kl : Kl) (N : Nat) (PP : List Wk) (W : List (List Str)) (n : Nat) : Sp := fun vs H Q _ => ∃ (R : Rn) (vf vb : V) (cs : List (Addr × Addr)) (S S' : LS) (f : Fr) (b : Sts) (m : Nat), vs = [.ref R.r, vf, vb] ∧ Gst K H kl R cs S f vf ∧ Run K H PP W R.vp R.vw ∧ Rp K H vb (.tuple b.encs) ∧ b.lit ∧ (∀ wk ∈ PP, wk.body.lit) ∧ m < n ∧
  iter (stepF PP W N m f) b S = some S' ∧ Fits S' ∧ Gend K H kl R cs S' Q
def spDoCall (K : PySem.W.Frag) (kl : Kl) (N : Nat) (PP : List Wk) (W : List (List Str)) (n : Nat) : Sp := fun vs H Q _ => ∃ (R : Rn) (vf vt : V) (cs : List (Addr × Addr)) (S S' : LS) (f : Fr) (k : Nat) (ts : List Th) (m : Nat), vs = [.ref R.r, vf, .int (k : Int), vt] ∧ Gst K H kl R cs S f vf ∧ Run K H PP W R.vp R.vw ∧ Rp K H vt (.tuple (ts.map Th.enc)) ∧ (∀ t ∈ ts, t.lit) ∧ (∀ wk ∈ PP, wk.body.lit) ∧ m < n ∧
  stepF PP W N (m + 1) f S (.call k ts) = some S' ∧ Fits S' ∧ Gend K H kl R cs S' Q
abbrev sdo_call : Stmt := top 36
abbrev ndo_call : List Str := ["run", "frame", "called", "things", "params", "owns", "body", "ways", "inner", "places", "thing", "way", "place", "cell"]
abbrev pdo_call : List Str := ["run", "frame", "called", "things"]
theorem scdo_call : FnScope ndo_call pdo_call (defScope sdo_call) := ⟨rfl, rfl, rfl, by decide +kernel, rfl, by decide +kernel, by decide +kernel⟩
abbrev sdo_body : Stmt := top 33
abbrev ndo_body : List Str := ["run", "frame", "body", "step"]
abbrev pdo_body : List Str := ["run", "frame", "body"]
theorem scdo_body : FnScope ndo_body pdo_body (defScope sdo_body) := ⟨rfl, rfl, rfl, by decide +kernel, rfl, by decide +kernel, by decide +kernel⟩
abbrev sdo_step : Stmt := top 34
abbrev ndo_step : List Str := ["run", "frame", "step", "word", "chosen"]
abbrev pdo_step : List Str := ["run", "frame", "step"]
theorem scdo_step : FnScope ndo_step pdo_step (defScope sdo_step) := ⟨rfl, rfl, rfl, by decide +kernel, rfl, by decide +kernel, by decide +kernel⟩
theorem get_snoc {α : Type} {l : List α} {a b : α} {i : Nat} (h : (l ++ [a])[i]? = some b) : l[i]? = some b ∨ (i = l.length ∧ b = a) := by
  by_cases c : i < l.length
  · rw [List.getElem?_append_left c] at h
    exact .inl h
  · have := (List.getElem?_eq_some_iff.mp h).1
    rw [List.length_append, List.length_singleton] at this
    have e : i = l.length := by omega
    subst e
    rw [List.getElem?_append_right (Nat.le_refl _), Nat.sub_self] at h
    exact .inr ⟨rfl, (Option.some.inj h).symm⟩
theorem app_get {α : Type} {l r : List α} {b : α} {i : Nat} (h : l[i]? = some b) : (l ++ r)[i]? = some b := by
  rw [List.getElem?_append_left (List.getElem?_eq_some_iff.mp h).1]
  exact h
theorem snoc_get {α : Type} {l : List α} {a : α} {n : Nat} (e : l.length = n) : (l ++ [a])[n]? = some a := by
  subst e
  rw [List.getElem?_append_right (Nat.le_refl _), Nat.sub_self]
  rfl
theorem drop_get {α : Type} {l : List α} {a : α} {i : Nat} (h : l[i]? = some a) : l.drop i = a :: l.drop (i + 1) := by
  obtain ⟨h1, h2⟩ := List.getElem?_eq_some_iff.mp h
  rw [List.drop_eq_getElem_cons h1, h2]
theorem Keep.lessN {M M' : List Addr} {H H1 : Hp} (k : Keep M' H H1) (h : ∀ x ∈ M', x ∈ M ∨ H x = none) : Keep M H H1 := fun a o e n => k a o e fun z => (h a z).elim n fun q => by rw [q] at e; cases e
/-- how often a place is lent -/
def cntP (p : Nat) : List (Option Nat) → Nat
  | [] => 0
  | o :: r => (if o = some p then 1 else 0) + cntP p r
theorem cntP_app {p : Nat} : ∀ {a b : List (Option Nat)}, cntP p (a ++ b) = cntP p a + cntP p b
  | [], b => (Nat.zero_add _).symm
  | o :: r, b => by
    show (if o = some p then 1 else 0) + cntP p (r ++ b) = (if o = some p then 1 else 0) + cntP p r + cntP p b
    rw [cntP_app, Nat.add_assoc]
theorem cntP_one {p : Nat} {o : Option Nat} : cntP p [o] = (lentOf (lentB 0 o) p).length := by
  cases o with
  | none => rfl
  | some q =>
    show (if some q = some p then 1 else 0) + 0 = (lentOf [(q, 1)] p).length
    unfold lentOf
    by_cases c : q = p
    · rw [if_pos (by rw [c]), List.filterMap_cons, if_pos c]
      rfl
    · rw [if_neg (fun z => c (Option.some.inj z)), List.filterMap_cons, if_neg c]
      rfl
theorem lentB_len {m p : Nat} {o : Option Nat} : (lentOf (lentB m o) p).length = cntP p [o] := by
  rw [cntP_one]
  cases o with
  | none => rfl
  | some q =>
    show (lentOf [(q, m + 1)] p).length = (lentOf [(q, 1)] p).length
    unfold lentOf
    by_cases c : q = p
    · rw [List.filterMap_cons, if_pos c, List.filterMap_cons, if_pos c]
      rfl
    · rw [List.filterMap_cons, if_neg c, List.filterMap_cons, if_neg c]
/-- what was handed up to now -/
structure Hng (K : PySem.W.Frag) (kl : Kl) (R : Rn) (cs : List (Addr × Addr)) (S S1 : LS) (N : Nat) (f : Fr) (hs : List (Hd × Option Nat)) (ts : List Th) (ws : List Str) (X : List Addr) (h d ap : Addr) (H3 : Hp) (j : Nat) (H' : Hp)
    (cs' ds : List (Addr × Addr)) (xs ys pvs : List V) (pls : List (Option Nat)) (hsj : List (Hd × Option Nat)) (Sj : LS) : Prop where
  k : Keep (ap :: h :: d :: trk R cs) H3 H'
  ec : cs' = cs ++ ds
  fr : ∀ z ∈ flat ds, H3 z = none
  g : PS K H' kl R cs' Sj
  eh : H' h = some (.lst xs)
  ed : H' d = some (.lst ys)
  ea : H' ap = some (.lst pvs)
  lx : xs.length = j
  ly : ys.length = j
  lp : pvs.length = j
  lq : pls.length = j
  lh : hsj.length = j
  rest : ∃ rest, hs = hsj ++ rest ∧ handsF N f Sj (ts.drop j) (ws.drop j) = some (rest, S1)
  phd : ∀ (i : Nat) (hd : Hd) (b : Option Nat), hsj[i]? = some (hd, b) → ∃ x y, xs[i]? = some x ∧ ys[i]? = some y ∧ PHd K H' kl (X ++ h :: d :: trk R cs') cs' hd x y
  bk : ∀ (i : Nat) (hd : Hd) (b : Option Nat), hsj[i]? = some (hd, b) → ∃ pl way, pls[i]? = some pl ∧ ws[i]? = some way ∧ b = if way = "back" then pl else none
  pv : ∀ (i : Nat) (pl : Option Nat), pls[i]? = some pl → (pl = none → pvs[i]? = some .non) ∧ ∀ p, pl = some p → ∃ c, cs'[p]? = some c ∧ pvs[i]? = some (.ref c.1)
  lent : ∃ L, Sj.lent = S.lent ++ L
  cnt : ∀ p, (lentOf Sj.lent p).length = (lentOf S.lent p).length + cntP p pls
  low : Low Sj.at_
  le : Le S Sj
theorem okDoCall {tk : Nat → Tok} {aP aW : Addr} {kl : Kl} {N n : Nat} {PP : List Wk} {W : List (List Str)} (D : DefAt K mg "do_call" sdo_call pdo_call) (T : Prg K tk aP aW kl mg) (C_hand : Callee P w K mg base "hand" (2 * N + 3) phand (spHand K kl N)) (C_Frame : Maker P w K mg base "Frame" kl.F 3 pFrame_init (spFrame kl))
    (C_do_body : Callee P w K mg base "do_body" (3 * n + 2 * N + 4) pdo_body (spDoBody K kl N PP W n)) : Callee P w K mg base "do_call" (3 * n + 2 * N + 5) pdo_call (spDoCall K kl N PP W n) := by
  refine D.ok scdo_call (fun vs H Q E h => ?_) (fun f cdv A outer s H vs Q E hr h => ?_)
  · obtain ⟨R, vf, vt, cs, S, S', f, k, ts, m, rfl, _⟩ := h
    rfl
  obtain ⟨R, vf, vt, cs, S, S', f, k, ts, m, rfl, G, hrun, hT, lt, PL, mn, e, fit, q⟩ := h
  obtain ⟨g, hF, lf, la, h3, ll, wl⟩ := id G
  refine ⟨_, (pss_cons (ps_asg (pe_ix (ixT (K := K)) (peFld (K := K) (pv 0) rfl) (pv 2) (fun _ _ => rfl)) (pgTup (K := K) (by rfl) (pgs_cons (pg_name (i := 4) scdo_call.nd rfl (Or.inl rfl)) (pgs_cons (pg_name (i := 5) scdo_call.nd rfl (Or.inl rfl)) (pgs_cons (pg_name (i := 6) scdo_call.nd rfl (Or.inl rfl)) pgs_nil)))))
  (pss_cons (ps_set (i := 7) scdo_call.nd rfl (Or.inl rfl) (pe_ix (ixT (K := K)) (peFld (K := K) (pv 0) rfl) (pv 2) (fun _ _ => rfl)))
  (pss_cons (ps_set (i := 8) scdo_call.nd rfl (Or.inl rfl) (pmake C_Frame (hr.mono (by omega)) rfl (pa_cons (pv 5) pa_nil)))
  (pss_cons (ps_set (i := 9) scdo_call.nd rfl (Or.inl rfl) (pe_lst pa_nil))
  (pss_cons (ps_for PassesOwn.never rfl (piZip (K := K) rfl T.zip (pa_cons (pv 3) (pa_cons (pv 7) pa_nil))) (pgTup (K := K) (by rfl) (pgs_cons (pg_name (i := 10) scdo_call.nd rfl (Or.inl rfl)) (pgs_cons (pg_name (i := 11) scdo_call.nd rfl (Or.inl rfl)) pgs_nil)))
   (pss_one (ps_expr (peApp (K := K) (pv 9) (pcall C_hand (hr.mono (by omega)) rfl (pa_cons (pv 0) (pa_cons (pv 1) (pa_cons (pv 8) (pa_cons (pv 10) (pa_cons (pv 11) pa_nil))))))))))
  (pss_cons (ps_expr (pcall C_do_body (hr.mono (by omega)) rfl (pa_cons (pv 0) (pa_cons (pv 8) (pa_cons (pv 6) pa_nil)))))
  (pss_cons (ps_for PassesOwn.never rfl (piList (K := K) (pv 9)) (pg_name (i := 12) scdo_call.nd rfl (Or.inl rfl))
   (pss_one (ps_if (pt_cmpR op_notN1 (pv 12) pe_non (nomark _)) (pss_one (ps_expr (pePop (K := K) (peFld (K := K) (pv 12) rfl)))) pss_nil)))
  (pss_one (ps_for PassesOwn.never rfl (pi_zip3 (K := K) rfl T.zip (pa_cons (pv 9) (pa_cons (pv 7) (pa_cons (peFld (K := K) (pv 8) rfl) pa_nil)))) (pgTup (K := K) (by rfl) (pgs_cons (pg_name (i := 12) scdo_call.nd rfl (Or.inl rfl)) (pgs_cons (pg_name (i := 11) scdo_call.nd rfl (Or.inl rfl)) (pgs_cons (pg_name (i := 13) scdo_call.nd rfl (Or.inl rfl)) pgs_nil))))
   (pss_one (ps_if (PW.pt (pw_and (pt_cmpR op_eq (pv 11) pe_str (nomark _)) (pw_and1 (pt_cmpR op_notN1 (pv 12) pe_non (nomark _))))) (pss_one (psFld (K := K) (pv 12) (peFld (K := K) (pv 13) rfl) rfl)) pss_nil))))))))))), ?_⟩
  unfold stepF at e
  unfold St.lit at *
  cases ew : W[k]? with
  | none => rw [ew] at e; cases e
  | some ws =>
  rw [ew] at e
  have e1 : (if ws.length = ts.length then (handsF N f S ts ws).bind fun (hs, S1) => PP[k]?.bind fun wk =>
    (iter (stepF PP W N m (.mk (ownsOf S1 wk.owns) (Hds.of hs))) wk.body (S1.enter wk.owns)).bind fun S2 => (backsF S2.at_ hs).map fun a => { S2 with at_ := a, lent := S2.lent.take S.lent.length } else none) = some S' := e
  have c : ws.length = ts.length := by
    by_cases c : ws.length = ts.length
    · exact c
    · rw [if_neg c] at e1; cases e1
  rw [if_pos c] at e1
  cases eh : handsF N f S ts ws with
  | none => rw [eh] at e1; cases e1
  | some r =>
  obtain ⟨hs, S1⟩ := r
  rw [eh] at e1
  cases ek : PP[k]? with
  | none => rw [ek] at e1; cases e1
  | some wk =>
  rw [ek] at e1
  have e2 : ((iter (stepF PP W N m (.mk (ownsOf S1 wk.owns) (Hds.of hs))) wk.body (S1.enter wk.owns)).bind fun S2 => (backsF S2.at_ hs).map fun a => { S2 with at_ := a, lent := S2.lent.take S.lent.length }) = some S' := e1
  cases ei : iter (stepF PP W N m (.mk (ownsOf S1 wk.owns) (Hds.of hs))) wk.body (S1.enter wk.owns) with
  | none => rw [ei] at e2; cases e2
  | some S2 =>
  rw [ei] at e2
  have e3 : ((backsF S2.at_ hs).map fun a => { S2 with at_ := a, lent := S2.lent.take S.lent.length }) = some S' := e2
  cases eb : backsF S2.at_ hs with
  | none => rw [eb] at e3; cases e3
  | some aa =>
  rw [eb] at e3
  cases e3
  have fit2 : Fits S2 := ⟨by rw [← backsF_len eb]; exact fit.1, fit.2.1, fit.2.2⟩
  have le1 := handsF_le eh
  have le2 : Le (S1.enter wk.owns) S2 := iter_le (fun S s S' h => stepF_le h) ei
  have low1 := handsF_low lf la lt eh
  have many1 : S1.many ≤ 90000 := Nat.le_trans le2.m fit2.2.2
  obtain ⟨a1, xs1, ep, hT1, hl1, hat⟩ := encP_at hrun.p
  obtain ⟨wp, vb, ap1, hW1, hB⟩ := hat k wk ek
  obtain ⟨a2, ys1, eq2, hT2, hy1⟩ := hrun.w.tup_inv
  obtain ⟨vr, evr, hvr⟩ := hy1.get (i := k) (d := .tuple (ws.map PyData.str)) (by rw [List.getElem?_map, ew]; rfl)
  obtain ⟨a3, zs1, rfl, hT3, hz1⟩ := hvr.tup_inv
  have ar1 := atI_nat evr
  obtain ⟨a4, us1, rfl, hT4, hu1⟩ := hT.tup_inv
  have lu1 : us1.length = ts.length := by rw [hu1.length, List.length_map]
  have lz1 : zs1.length = ws.length := by rw [hz1.length, List.length_map]
  obtain ⟨dr, er⟩ := g.run
  rw [ep, eq2] at er
  have clR := T.own.clR
  have np := T.own.program
  have nw := T.own.ways
  have o1000 := hrun.o wk (List.mem_of_getElem? ek)
  walk_at "rd"
  refine made fun ia dxi H1 nia ndx nxd h1 hdx k1 => ⟨ia, dxi, wk.owns, rfl, h1, o1000, fun ods o h d H2 nw2 no nh nd hdn oof hof dof k2 h2 h3o h4h h5d ohn odn => ⟨rfl, ?_⟩⟩
  have k02 : Keep [] H H2 := k1.fresh1 k2 nia
  walk_at "rd"
  intro ap H3 nap h6 k3
  have k03 : Keep [] H H3 := k02.trans k3
  have t03 := kts0 k03
  have nh0 := free0 k1 nh
  have nd0 := free0 k1 nd
  have nap0 := free0 k02 nap
  have ei3 := k3 _ _ h2 (by simp)
  have eo3 := k3 _ _ h3o (by simp)
  have eh3 := k3 _ _ h4h (by simp)
  have ed3 := k3 _ _ h5d (by simp)
  have new3 := (nw2.keep k3 fun _ _ z => nomatch z).back fun x hx => free0 k1 hx
  have g3 := g.keep0 k03
  have aph : ap ≠ h := fun z => by rw [z, h4h] at nap; cases nap
  have apd : ap ≠ d := fun z => by rw [z, h5d] at nap; cases nap
  have apf : ap ∉ flat ods := fun z => nw2.al _ z nap
  have oldne : ∀ (u : Addr), H u = none → u ∉ R.lc :: trk R cs := fun u hu z => g.all u z hu
  have hF3 : PFr K H3 kl ((ap :: flat ods) ++ h :: d :: trk R cs) cs f vf := hF.go (k0 k03) t03 (fun x hx => by
    rcases List.mem_append.mp hx with z | z
    · rcases List.mem_cons.mp z with z | z
      · exact .inr (z ▸ nap0)
      · exact .inr (new3.new x z)
    rcases List.mem_cons.mp z with z | z
    · exact .inr (z ▸ nh0)
    rcases List.mem_cons.mp z with z | z
    · exact .inr (z ▸ nd0)
    · exact .inl z) fun _ _ z => z
  have hT3' := t03.sqT hT3
  have hT4' := t03.sqT hT4
  have lo3 : Lo H3 (ap :: h :: d :: trk R cs) := fun x hx => by
    rcases List.mem_cons.mp hx with rfl | hx
    · exact .inl ⟨_, h6⟩
    rcases List.mem_cons.mp hx with rfl | hx
    · exact .inl ⟨_, eh3⟩
    rcases List.mem_cons.mp hx with rfl | hx
    · exact .inl ⟨_, ed3⟩
    exact g3.lo_ x hx
  have odsM : ∀ x ∈ flat ods, x ∉ ap :: h :: d :: trk R cs := fun x hx z => by
    rcases List.mem_cons.mp z with rfl | z
    · exact apf hx
    rcases List.mem_cons.mp z with rfl | z
    · exact hof hx
    rcases List.mem_cons.mp z with rfl | z
    · exact dof hx
    exact oldne x (new3.new x hx) (List.mem_cons_of_mem _ z)
  have iaM : ia ∉ ap :: h :: d :: trk R cs := fun z => by
    rcases List.mem_cons.mp z with rfl | z
    · rw [h2] at nap; cases nap
    rcases List.mem_cons.mp z with rfl | z
    · rw [eh3] at ei3; cases ei3
    rcases List.mem_cons.mp z with rfl | z
    · rw [ed3] at ei3; cases ei3
    exact oldne ia nia (List.mem_cons_of_mem _ z)
  have trkA : ∀ (ds : List (Addr × Addr)) (x : Addr), x ∈ trk R (cs ++ ds) → x ∈ trk R cs ∨ x ∈ flat ds := fun ds x hx => by
    unfold trk at hx ⊢
    rw [flat_app] at hx
    have hx' : x ∈ (R.r :: R.ls :: flat cs) ++ flat ds := hx
    exact List.mem_append.mp hx'
  have trkL : ∀ (ds : List (Addr × Addr)) (x : Addr), x ∈ trk R cs → x ∈ trk R (cs ++ ds) := fun ds x hx => by
    unfold trk at hx ⊢
    rw [flat_app]
    have : x ∈ (R.r :: R.ls :: flat cs) ++ flat ds := List.mem_append_left _ hx
    exact this
  walk_at "rd"
  refine forZT (xs := us1) (ys := zs1) (by omega) (fun j σ H' => ∃ (x10 x11 : Option V) (cs' ds : List (Addr × Addr)) (xs ys pvs : List V) (pls : List (Option Nat)) (hsj : List (Hd × Option Nat)) (Sj : LS), σ = [some (.ref R.r), some vf, some (.int (k : Int)), some (.ref a4), some (.int (wk.params : Int)), some (.int (wk.owns : Int)), some vb, some (.ref a3), some (.ref ia), some (.ref ap), x10, x11, none, none] ∧
      Hng K kl R cs S S1 N f hs ts ws (ap :: flat ods) h d ap H3 j H' cs' ds xs ys pvs pls hsj Sj)
    ⟨_, _, cs, [], [], [], [], [], [], S, rfl, ⟨Keep.refl, (List.append_nil _).symm, (fun z hz => nomatch hz), g3, eh3, ed3, h6, rfl, rfl, rfl, rfl, rfl, ⟨hs, rfl, eh⟩, (fun i hd b e => by simp at e), (fun i hd b e => by simp at e), (fun i pl e => by simp at e), ⟨[], (List.append_nil _).symm⟩, (fun p => rfl), la, Le.refl⟩⟩
    (fun j σ H' hp => ?_) (fun j x y Tp σ H' H4 hx hy hp nT hT1 k4 => ?_) (fun σ H' hp => ?_)
  · obtain ⟨x10, x11, cs', ds, xs, ys, pvs, pls, hsj, Sj, rfl, I⟩ := hp
    exact ⟨(I.k.ts lo3).sqT hT4', (I.k.ts lo3).sqT hT3'⟩
  · obtain ⟨x10, x11, cs', ds, xs, ys, pvs, pls, hsj, Sj, rfl, I⟩ := hp
    have ec := I.ec
    obtain ⟨dt, et0, ht⟩ := hu1.get' hx
    rw [List.getElem?_map] at et0
    obtain ⟨t, et, rfl⟩ := Option.map_eq_some_iff.mp et0
    obtain ⟨dw, ewj0, hw⟩ := hz1.get' hy
    rw [List.getElem?_map] at ewj0
    obtain ⟨way, ewj, rfl⟩ := Option.map_eq_some_iff.mp ewj0
    cases hw.str_inv
    obtain ⟨rest, er2, e4⟩ := I.rest
    rw [drop_get et, drop_get ewj] at e4
    unfold handsF at e4
    cases e5 : handF N Sj f t way with
    | none => rw [e5] at e4; cases e4
    | some rr =>
    obtain ⟨hd, b, Sk⟩ := rr
    rw [e5] at e4
    have e6 : ((handsF N f Sk (ts.drop (j + 1)) (ws.drop (j + 1))).map fun (r, S2) => ((hd, b) :: r, S2)) = some (rest, S1) := e4
    cases e7 : handsF N f Sk (ts.drop (j + 1)) (ws.drop (j + 1)) with
    | none => rw [e7] at e6; cases e6
    | some rr2 =>
    obtain ⟨rest2, Sz⟩ := rr2
    rw [e7] at e6
    cases e6
    have ltt := lt t (List.mem_of_getElem? et)
    have t34 := (I.k.ts lo3).trans (kts0 k4)
    have g4 := I.g.keep0 k4
    have ei4 := k4 _ _ (I.k _ _ ei3 iaM) (by simp)
    have eh4 := k4 _ _ I.eh (by simp)
    have ed4 := k4 _ _ I.ed (by simp)
    have ea4 := k4 _ _ I.ea (by simp)
    have newO := (new3.keep I.k odsM).keep k4 fun _ _ z => nomatch z
    have hFu : Fr.lit f ∧ Low Sk.at_ := ⟨lf, (handF_low I.low lf ltt e5).1⟩
    have inD : ∀ (u : Addr), H3 u ≠ none → u ∉ R.lc :: trk R cs → u ∉ R.lc :: trk R cs' := fun u hu hn z => by
      rcases List.mem_cons.mp z with q | q
      · exact hn (q ▸ List.mem_cons_self)
      rw [ec] at q
      rcases trkA ds u q with q | q
      · exact hn (List.mem_cons_of_mem _ q)
      · exact hu (I.fr u q)
    have hM' := inD h (by rw [eh3]; exact fun z => nomatch z) (oldne h nh0)
    have dM' := inD d (by rw [ed3]; exact fun z => nomatch z) (oldne d nd0)
    have aM' := inD ap (by rw [h6]; exact fun z => nomatch z) (oldne ap nap0)
    have iM' := inD ia (by rw [ei3]; exact fun z => nomatch z) (oldne ia nia)
    have hF4 : PFr K H4 kl ((ap :: flat ods) ++ h :: d :: trk R cs') cs' f vf := by
      refine hF3.go ((I.k.mono fun x hx => ?_).trans (k0 k4)) t34 (fun x hx => ?_) fun p c hc => by rw [ec]; exact app_get hc
      · rcases List.mem_cons.mp hx with rfl | hx
        · exact List.mem_append_left _ List.mem_cons_self
        · exact List.mem_append_right _ hx
      · rcases List.mem_append.mp hx with z | z
        · exact .inl (List.mem_append_left _ z)
        rcases List.mem_cons.mp z with z | z
        · exact .inl (List.mem_append_right _ (z ▸ List.mem_cons_self))
        rcases List.mem_cons.mp z with z | z
        · exact .inl (List.mem_append_right _ (z ▸ List.mem_cons_of_mem _ List.mem_cons_self))
        rw [ec] at z
        rcases trkA ds x z with z | z
        · exact .inl (List.mem_append_right _ (List.mem_cons_of_mem _ (List.mem_cons_of_mem _ z)))
        · exact .inr (I.fr x z)
    have ltx : j < 1000 := by
      have := (List.getElem?_eq_some_iff.mp ewj).1
      have := hrun.l ws (List.mem_of_getElem? ew)
      omega
    have c3 : 3 ≤ cs'.length := by rw [ec, List.length_append]; omega
    have hTT := SqT.of (K := K) hT1
    walk_at "rd"
    refine ask ⟨R, vf, x, ap :: flat ods, cs', Sj, f, t, way, ia, dxi, o, h, d, xs, ys, hd, b, Sk, rfl, g4, (fun z hz => ?_), hF4, ht.ts (t03.trans t34), ltt, lf, I.low, c3, hrun.k ws (List.mem_of_getElem? ew) way (List.mem_of_getElem? ewj), ei4, eh4, ed4, hdn, hM', dM', (fun z => iM' (List.mem_cons_of_mem _ z)),
      by have := I.lx; omega, by have := I.ly; omega, e5, Nat.le_trans (handsF_le e7).1.m many1, I.le.l ll, wl.mono I.le.m, fun ds' x' y' pv H5 fr5 g5 p5 eh5 ed5 k5 hn hsm => ?_⟩
    · rcases List.mem_cons.mp hz with rfl | hz
      · rw [ea4]; exact fun z => nomatch z
      · exact newO.al z hz
    have aN : ap ∉ h :: d :: trk R cs' := fun z => by
      rcases List.mem_cons.mp z with z | z
      · exact aph z
      rcases List.mem_cons.mp z with z | z
      · exact apd z
      exact aM' (List.mem_cons_of_mem _ z)
    have ea5 := k5 _ _ ea4 aN
    have lpv : pvs.length ≤ 1000 := by have := I.lp; omega
    walk_at "rd"
    intro H6 ea6 k6
    have lo4 : Lo H4 (h :: d :: trk R cs') := fun x hx => by
      rcases List.mem_cons.mp hx with rfl | hx
      · exact .inl ⟨_, eh4⟩
      rcases List.mem_cons.mp hx with rfl | hx
      · exact .inl ⟨_, ed4⟩
      exact g4.lo_ x hx
    have t56 : Tst H5 H6 := k6.ts fun x hx => by cases List.mem_singleton.mp hx; exact .inl ⟨_, ea5⟩
    have t46 : Tst H' H6 := ((kts0 k4).trans (k5.ts lo4)).trans t56
    have k46 : Keep (ap :: h :: d :: trk R cs') H' H6 := ((k0 k4).trans (k5.mono fun x hx => List.mem_cons_of_mem _ hx)).trans (k6.mono fun x hx => by cases List.mem_singleton.mp hx; exact List.mem_cons_self)
    have fr4 : ∀ z, H4 z = none → H3 z = none := fun z hz => free0 (Keep.refl) ((I.k.trans (k0 k4)).free (fun m hm => by
      rcases List.mem_cons.mp hm with rfl | hm
      · rw [ea4]; exact fun z => nomatch z
      rcases List.mem_cons.mp hm with rfl | hm
      · rw [eh4]; exact fun z => nomatch z
      rcases List.mem_cons.mp hm with rfl | hm
      · rw [ed4]; exact fun z => nomatch z
      exact g4.al m (by rw [ec]; exact trkL ds m hm)) hz)
    refine ⟨_, _, cs' ++ ds', ds ++ ds', xs ++ [x'], ys ++ [y'], pvs ++ [pv], pls ++ [lentP N Sj f t way], hsj ++ [(hd, b)], Sk, rfl, ?_⟩
    obtain ⟨l1, l2, l3⟩ := handF_lent e5
    refine ⟨?_, by rw [ec, List.append_assoc], ?_, ?_, k6 _ _ eh5 (by simpa using Ne.symm aph), k6 _ _ ed5 (by simpa using Ne.symm apd), ea6, ?_, ?_, ?_, ?_, ?_, ⟨rest2, by rw [er2, List.append_assoc]; rfl, e7⟩, ?_, ?_, ?_, ?_, ?_, hFu.2, I.le.trans (handF_le e5).1⟩
    · refine Keep.lessN (M' := ap :: h :: d :: trk R cs') ((I.k.mono fun x hx => ?_).trans k46) fun x hx => ?_
      · rcases List.mem_cons.mp hx with rfl | hx
        · exact List.mem_cons_self
        rcases List.mem_cons.mp hx with rfl | hx
        · exact List.mem_cons_of_mem _ List.mem_cons_self
        rcases List.mem_cons.mp hx with rfl | hx
        · exact List.mem_cons_of_mem _ (List.mem_cons_of_mem _ List.mem_cons_self)
        exact List.mem_cons_of_mem _ (List.mem_cons_of_mem _ (List.mem_cons_of_mem _ (by rw [ec]; exact trkL ds x hx)))
      · rcases List.mem_cons.mp hx with rfl | hx
        · exact .inl List.mem_cons_self
        rcases List.mem_cons.mp hx with rfl | hx
        · exact .inl (List.mem_cons_of_mem _ List.mem_cons_self)
        rcases List.mem_cons.mp hx with rfl | hx
        · exact .inl (List.mem_cons_of_mem _ (List.mem_cons_of_mem _ List.mem_cons_self))
        rw [ec] at hx
        rcases trkA ds x hx with z | z
        · exact .inl (List.mem_cons_of_mem _ (List.mem_cons_of_mem _ (List.mem_cons_of_mem _ z)))
        · exact .inr (I.fr x z)
    · intro z hz
      rw [flat_app] at hz
      rcases List.mem_append.mp hz with hz | hz
      · exact I.fr z hz
      · exact fr4 z (fr5 z hz)
    · refine g5.keepN k6 fun u hu z => ?_
      rw [List.mem_singleton.mp z] at hu
      rcases List.mem_cons.mp hu with q | q
      · exact aM' (q ▸ List.mem_cons_self)
      unfold trk at q
      rw [flat_app] at q
      have q' : ap ∈ (R.r :: R.ls :: flat cs') ++ flat ds' := q
      rcases List.mem_append.mp q' with q | q
      · exact aM' (List.mem_cons_of_mem _ q)
      · have := fr5 ap q
        rw [ea4] at this
        cases this
    · rw [List.length_append, I.lx]; rfl
    · rw [List.length_append, I.ly]; rfl
    · rw [List.length_append, I.lp]; rfl
    · rw [List.length_append, I.lq]; rfl
    · rw [List.length_append, I.lh]; rfl
    · intro i hd' b' ei'
      rcases get_snoc ei' with z | ⟨z1, z2⟩
      · obtain ⟨x2, y2, q1, q2, q3⟩ := I.phd i hd' b' z
        refine ⟨x2, y2, app_get q1, app_get q2, q3.go (k46.mono fun x hx => ?_) t46 (fun x hx => ?_) fun p c hc => app_get hc⟩
        · rcases List.mem_cons.mp hx with rfl | hx
          · exact List.mem_append_left _ List.mem_cons_self
          · exact List.mem_append_right _ hx
        · rcases List.mem_append.mp hx with z | z
          · exact .inl (List.mem_append_left _ z)
          rcases List.mem_cons.mp z with z | z
          · exact .inl (List.mem_append_right _ (z ▸ List.mem_cons_self))
          rcases List.mem_cons.mp z with z | z
          · exact .inl (List.mem_append_right _ (z ▸ List.mem_cons_of_mem _ List.mem_cons_self))
          unfold trk at z
          rw [flat_app] at z
          have z' : x ∈ (R.r :: R.ls :: flat cs') ++ flat ds' := z
          rcases List.mem_append.mp z' with z | z
          · exact .inl (List.mem_append_right _ (List.mem_cons_of_mem _ (List.mem_cons_of_mem _ z)))
          · exact .inr (free0 k4 (fr5 x z))
      · cases z2
        rw [I.lh] at z1
        subst z1
        refine ⟨x', y', snoc_get I.lx, snoc_get I.ly, p5.go (k6.mono fun x hx => ?_) t56 (fun x hx => .inl hx) fun p c hc => hc⟩
        cases List.mem_singleton.mp hx
        exact List.mem_append_left _ List.mem_cons_self
    · intro i hd' b' ei'
      rcases get_snoc ei' with z | ⟨z1, z2⟩
      · obtain ⟨pl, way', q1, q2, q3⟩ := I.bk i hd' b' z
        exact ⟨pl, way', app_get q1, q2, q3⟩
      · cases z2
        rw [I.lh] at z1
        subst z1
        exact ⟨_, way, snoc_get I.lq, ewj, l3⟩
    · intro i pl ei'
      rcases get_snoc ei' with z | ⟨z1, z2⟩
      · obtain ⟨q1, q2⟩ := I.pv i pl z
        refine ⟨fun e => app_get (q1 e), fun p e => ?_⟩
        obtain ⟨c, r1, r2⟩ := q2 p e
        exact ⟨c, app_get r1, app_get r2⟩
      · subst z2
        rw [I.lq] at z1
        subst z1
        refine ⟨fun e => by rw [hn e]; exact snoc_get I.lp, fun p e => ?_⟩
        obtain ⟨c, r1, r2⟩ := hsm p e
        exact ⟨c, app_get r1, by rw [r2]; exact snoc_get I.lp⟩
    · obtain ⟨L, hL⟩ := I.lent
      exact ⟨L ++ lentB Sj.many (lentP N Sj f t way), by rw [l1, hL, List.append_assoc]⟩
    · intro p
      rw [l1, lentOf_app, List.length_append, I.cnt p, lentB_len, cntP_app, Nat.add_assoc]
  obtain ⟨x10, x11, cs', ds, xs, ys, pvs, pls, hsj, Sj, rfl, I⟩ := hp
  have ec := I.ec
  have ends : hs = hsj ∧ Sj = S1 := by
    obtain ⟨rest, er2, e4⟩ := I.rest
    rw [lu1, List.drop_length] at e4
    unfold handsF at e4
    cases e4
    exact ⟨by rw [er2, List.append_nil], rfl⟩
  obtain ⟨e1, e2⟩ := ends
  subst e1 e2
  have t3' := I.k.ts lo3
  have newO := new3.keep I.k odsM
  have c3 : 3 ≤ cs'.length := by rw [ec, List.length_append]; omega
  have inD : ∀ (u : Addr), H3 u ≠ none → u ∉ R.lc :: trk R cs → u ∉ R.lc :: trk R cs' := fun u hu hn z => by
    rcases List.mem_cons.mp z with q | q
    · exact hn (q ▸ List.mem_cons_self)
    rw [ec] at q
    rcases trkA ds u q with q | q
    · exact hn (List.mem_cons_of_mem _ q)
    · exact hu (I.fr u q)
  have splt : ∀ (a b : List (Addr × Addr)) (x : Addr), x ∈ trk R (a ++ b) → x ∈ trk R a ∨ x ∈ flat b := fun a b x hx => by
    unfold trk at hx ⊢
    rw [flat_app] at hx
    have hx' : x ∈ (R.r :: R.ls :: flat a) ++ flat b := hx
    exact List.mem_append.mp hx'
  have sptl : ∀ (a b : List (Addr × Addr)) (x : Addr), x ∈ trk R a → x ∈ trk R (a ++ b) := fun a b x hx => by
    unfold trk at hx ⊢
    rw [flat_app]
    have : x ∈ (R.r :: R.ls :: flat a) ++ flat b := List.mem_append_left _ hx
    exact this
  have no0 := free0 k1 no
  have hM' := inD h (by rw [eh3]; exact fun z => nomatch z) (oldne h nh0)
  have dM' := inD d (by rw [ed3]; exact fun z => nomatch z) (oldne d nd0)
  have aM' := inD ap (by rw [h6]; exact fun z => nomatch z) (oldne ap nap0)
  have iM' := inD ia (by rw [ei3]; exact fun z => nomatch z) (oldne ia nia)
  have oM' := inD o (by rw [eo3]; exact fun z => nomatch z) (oldne o no0)
  have iof : ia ∉ flat ods := fun z => by have := nw2.new ia z; rw [h1] at this; cases this
  have inO : ∀ (u : Addr), u ∉ R.lc :: trk R cs' → u ∉ flat ods → u ∉ trk R (cs' ++ ods) := fun u hu hn z => by
    rcases splt _ _ u z with q | q
    · exact hu (List.mem_cons_of_mem _ q)
    · exact hn q
  have oapd : o ∉ ap :: h :: d :: trk R cs := fun z => by
    rcases List.mem_cons.mp z with rfl | z
    · rw [h3o] at nap; cases nap
    rcases List.mem_cons.mp z with z | z
    · exact ohn z
    rcases List.mem_cons.mp z with z | z
    · exact odn z
    exact oldne o no0 (List.mem_cons_of_mem _ z)
  have eo' := I.k _ _ eo3 oapd
  have ei' := I.k _ _ ei3 iaM
  have len1 : cs'.length = Sj.at_.length := I.g.len
  have gI : PS K H' kl R (cs' ++ ods) (Sj.enter wk.owns) := I.g.more (ds := ods) (vs := List.replicate wk.owns 0) c3 newO.l newO.nd (fun x hx => ⟨(fun z => oldne x (newO.new x hx) (z ▸ List.mem_cons_self)), fun z => by
    rw [ec] at z
    rcases trkA ds x z with q | q
    · exact oldne x (newO.new x hx) (List.mem_cons_of_mem _ q)
    · exact new3.al x hx (I.fr x q)⟩) newO.at_
  have hFI : PFr K H' kl (trk R (cs' ++ ods)) (cs' ++ ods) (.mk (ownsOf Sj wk.owns) (Hds.of hs)) (.ref ia) := by
    unfold PFr
    refine ⟨ia, dxi, o, h, d, _, xs, ys, rfl, ei', inO ia iM' iof, eo', inO o oM' oof, fun k' p hk => ?_, I.eh, inO h hM' hof, I.ed, inO d dM' dof, PHds.of (by rw [I.lx, I.lh]) (by rw [I.ly, I.lh]) fun i hd b e => ?_⟩
    · unfold ownsOf at hk
      have hk1 := (List.getElem?_eq_some_iff.mp hk).1
      rw [List.length_range'] at hk1
      rw [List.getElem?_range' hk1] at hk
      have ep' : p = Sj.at_.length + k' := by
        have := Option.some.inj hk
        omega
      have lo' : k' < ods.length := by rw [newO.l, List.length_replicate]; exact hk1
      refine ⟨ods[k'], ?_, ?_⟩
      · rw [ep', ← len1, List.getElem?_append_right (Nat.le_add_right _ _), Nat.add_sub_cancel_left]
        exact List.getElem?_eq_getElem lo'
      · rw [List.getElem?_map, List.getElem?_eq_getElem lo']
        rfl
    · obtain ⟨x, y, q1, q2, q3⟩ := I.phd i hd b e
      refine ⟨x, y, q1, q2, q3.go Keep.refl Tst.refl (fun x hx => .inl ?_) fun p c hc => app_get hc⟩
      rcases splt _ _ x hx with z | z
      · exact List.mem_append_right _ (List.mem_cons_of_mem _ (List.mem_cons_of_mem _ z))
      · exact List.mem_append_left _ (List.mem_cons_of_mem _ z)
  walk_at "rd"
  refine ask ⟨R, .ref ia, vb, cs' ++ ods, Sj.enter wk.owns, S2, .mk (ownsOf Sj wk.owns) (Hds.of hs), wk.body, m, rfl, ⟨gI, hFI, by unfold Fr.lit; exact low1.2, low1.1.app low_rep, by rw [List.length_append]; omega, le1.1.l ll, by unfold Fr.wsLe; exact le1.2 wl⟩, hrun.ts (t03.trans t3'), hB.ts (t03.trans t3'), PL wk (List.mem_of_getElem? ek), PL, mn, ei, fit2, fun ds3 H5 fr5 k5 g5 => ?_⟩
  have lent2 : S2.lent = Sj.lent := by
    have := iter_lent (g := stepF PP W N m (.mk (ownsOf Sj wk.owns) (Hds.of hs))) (fun S s S' h => stepF_lent h) ei
    exact this
  obtain ⟨Ls, eLs⟩ := I.lent
  have t5 : Tst H' H5 := gI.ts k5
  have eaH5 := k5 _ _ I.ea (inO ap aM' apf)
  have ehH5 := k5 _ _ I.eh (inO h hM' hof)
  have eiH5 := k5 _ _ ei' (inO ia iM' iof)
  have alr : ∀ (u : Addr), H' u ≠ none → u ∉ R.lc :: trk R cs' → u ∉ flat ods → u ∉ trk R (cs' ++ ods ++ ds3) := fun u hu h1 h2 z => by
    rcases splt _ _ u z with q | q
    · exact inO u h1 h2 q
    · exact hu (fr5 u q)
  have ap3 := alr ap (by rw [I.ea]; exact fun z => nomatch z) aM' apf
  have hh3 := alr h (by rw [I.eh]; exact fun z => nomatch z) hM' hof
  have ia3 := alr ia (by rw [ei']; exact fun z => nomatch z) iM' iof
  have cs3 : ∀ (p : Nat) (c : Addr × Addr), cs'[p]? = some c → (cs' ++ ods ++ ds3)[p]? = some c := fun p c hc => app_get (app_get hc)
  have clC := T.own.tC.cl
  have nl := T.own.loans
  have nn := T.own.number
  have clF := T.own.clF
  have nhd := T.own.handed
  generalize hcs3 : cs' ++ ods ++ ds3 = cs3' at *
  have g5' : PSt K H5 kl R cs3' S2 (fun i => (lentOf Sj.lent i).take ((lentOf S.lent i).length + cntP i (pls.drop 0))) := by
    have e : (fun i => (lentOf Sj.lent i).take ((lentOf S.lent i).length + cntP i (pls.drop 0))) = lentOf S2.lent := by
      funext i
      rw [List.drop_zero, ← I.cnt i, List.take_length, lent2]
    rw [e]
    exact g5
  walk_at "rd"
  refine forL (xs := pvs) (fun j σ H6 => ∃ x12 : Option V, σ = [some (.ref R.r), some vf, some (.int (k : Int)), some (.ref a4), some (.int (wk.params : Int)), some (.int (wk.owns : Int)), some vb, some (.ref a3), some (.ref ia), some (.ref ap), x10, x11, x12, none] ∧
      Keep (trk R cs3') H5 H6 ∧ PSt K H6 kl R cs3' S2 (fun i => (lentOf Sj.lent i).take ((lentOf S.lent i).length + cntP i (pls.drop j))))
    ⟨_, rfl, Keep.refl, g5'⟩ (fun j σ H6 _ hp => ?_) (fun j v σ H6 hx hp => ?_) (fun σ H6 hp => ?_)
  · obtain ⟨x12, rfl, k6, g6⟩ := hp
    exact SqL.of (k6 _ _ eaH5 ap3)
  · obtain ⟨x12, rfl, k6, g6⟩ := hp
    have hj : j < pls.length := by
      have := (List.getElem?_eq_some_iff.mp hx).1
      have := I.lp
      have := I.lq
      omega
    have epl : pls[j]? = some pls[j] := List.getElem?_eq_getElem hj
    obtain ⟨v1, v2⟩ := I.pv j _ epl
    have dr1 := drop_get epl
    generalize pls[j] = pl at epl v1 v2 dr1
    cases pl with
    | none =>
      have ev := v1 rfl
      rw [hx] at ev
      cases ev
      walk_at "rd"
      refine ⟨_, rfl, k6, ?_⟩
      have e : (fun i => (lentOf Sj.lent i).take ((lentOf S.lent i).length + cntP i (pls.drop (j + 1)))) = fun i => (lentOf Sj.lent i).take ((lentOf S.lent i).length + cntP i (pls.drop j)) := by
        funext i
        rw [dr1]
        show _ = (lentOf Sj.lent i).take ((lentOf S.lent i).length + ((if (none : Option Nat) = some i then 1 else 0) + cntP i (pls.drop (j + 1))))
        rw [if_neg (fun z => nomatch z), Nat.zero_add]
      rw [e]
      exact g6
    | some p =>
      obtain ⟨c, hc, ev⟩ := v2 p rfl
      rw [hx] at ev
      cases ev
      have hc3 := cs3 p c hc
      obtain ⟨dx, nn', L, q1, q2, q3, q4⟩ := g6.cell p c hc3
      have ep1 : cntP p (pls.drop j) = cntP p (pls.drop (j + 1)) + 1 := by
        rw [dr1]
        show (if some p = some p then 1 else 0) + _ = _
        rw [if_pos rfl, Nat.add_comm]
      have lj : (lentOf S.lent p).length + cntP p (pls.drop j) ≤ (lentOf Sj.lent p).length := by
        rw [I.cnt p]
        have : cntP p pls = cntP p (pls.take j) + cntP p (pls.drop j) := by rw [← cntP_app, List.take_append_drop]
        omega
      have q4' : (lentOf Sj.lent p).take ((lentOf S.lent p).length + cntP p (pls.drop (j + 1)) + 1) = L.map (· + 1) := by
        rw [← q4, ep1]
        rfl
      have lL : L.length = (lentOf S.lent p).length + cntP p (pls.drop (j + 1)) + 1 := by
        have := congrArg List.length q4'
        rw [List.length_take, List.length_map] at this
        omega
      have hne : L ≠ [] := fun z => by rw [z] at lL; cases lL
      obtain ⟨L', l, rfl⟩ : ∃ L' l, L = L' ++ [l] := ⟨L.dropLast, L.getLast hne, (List.dropLast_concat_getLast hne).symm⟩
      have q3' : H6 c.2 = some (.lst (nums L' ++ [V.int (l : Int)])) := by rw [q3, nums_app]; rfl
      walk_at "rd"
      intro H7 h7 k7
      refine ⟨_, rfl, k6.trans (k7.mono fun x hx => by
        cases List.mem_singleton.mp hx
        exact List.mem_cons_of_mem _ (List.mem_cons_of_mem _ (mem_flat2 hc3))), ?_⟩
      refine g6.loan hc3 k7 h7 ?_ fun i hi => ?_
      · have l' : (L'.map (· + 1)).length = (lentOf S.lent p).length + cntP p (pls.drop (j + 1)) := by
          rw [List.length_map]
          rw [List.length_append, List.length_singleton] at lL
          omega
        show (lentOf Sj.lent p).take ((lentOf S.lent p).length + cntP p (pls.drop (j + 1))) = L'.map (· + 1)
        have e : (lentOf Sj.lent p).take ((lentOf S.lent p).length + cntP p (pls.drop (j + 1))) = ((lentOf Sj.lent p).take ((lentOf S.lent p).length + cntP p (pls.drop (j + 1)) + 1)).take ((lentOf S.lent p).length + cntP p (pls.drop (j + 1))) := by
          rw [List.take_take, Nat.min_eq_left (Nat.le_succ _)]
        rw [e, q4', List.map_append]
        exact List.take_left' l'
      · show (lentOf Sj.lent i).take ((lentOf S.lent i).length + cntP i (pls.drop (j + 1))) = (lentOf Sj.lent i).take ((lentOf S.lent i).length + cntP i (pls.drop j))
        rw [dr1]
        show _ = (lentOf Sj.lent i).take ((lentOf S.lent i).length + ((if some p = some i then 1 else 0) + cntP i (pls.drop (j + 1))))
        rw [if_neg (fun z => hi (Option.some.inj z).symm), Nat.zero_add]
  obtain ⟨x12, rfl, k6, g6⟩ := hp
  have g6' : PSt K H6 kl R cs3' S2 (lentOf S.lent) := by
    have e : (fun i => (lentOf Sj.lent i).take ((lentOf S.lent i).length + cntP i (pls.drop pvs.length))) = lentOf S.lent := by
      funext i
      have : pls.drop pvs.length = [] := List.drop_eq_nil_of_le (by rw [I.lp, I.lq]; exact Nat.le_refl _)
      rw [this, eLs, lentOf_app]
      exact List.take_left' rfl
    rw [← e]
    exact g6
  have hT3f : SqT K H6 a3 zs1 := ((t3'.trans t5).trans (g5.ts k6)).sqT hT3'
  have eaH6 := k6 _ _ eaH5 ap3
  have ehH6 := k6 _ _ ehH5 hh3
  have eiH6 := k6 _ _ eiH5 ia3
  walk_at "rd"
  refine forZ3 (xs := pvs) (ys := zs1) (zs := xs) (by have := I.lp; omega) (by rw [I.lp, I.lx]) (fun j σ H8 => ∃ (x11 x12 x13 : Option V) (A : List Nat), σ = [some (.ref R.r), some vf, some (.int (k : Int)), some (.ref a4), some (.int (wk.params : Int)), some (.int (wk.owns : Int)), some vb, some (.ref a3), some (.ref ia), some (.ref ap), x10, x11, x12, x13] ∧
      Keep (trk R cs3') H6 H8 ∧ PSt K H8 kl R cs3' { S2 with at_ := A } (lentOf S.lent) ∧ backsF A (hs.drop j) = some aa)
    ⟨_, _, _, S2.at_, rfl, Keep.refl, g6', eb⟩ (fun j σ H8 hp => ?_) (fun j x y z Tp σ H8 H9 hx hy hz hp nT hT1 k9 => ?_) (fun σ H8 hp => ?_)
  · obtain ⟨x11, x12, x13, A, rfl, k8, g8, b8⟩ := hp
    exact ⟨SqL.of (k8 _ _ eaH6 ap3), (g6'.ts k8).sqT hT3f, SqL.of (k8 _ _ ehH6 hh3)⟩
  · obtain ⟨x11, x12, x13, A, rfl, k8, g8, b8⟩ := hp
    have hj : j < hs.length := by
      have := (List.getElem?_eq_some_iff.mp hx).1
      have := I.lp
      have := I.lh
      omega
    have ehj : hs[j]? = some hs[j] := List.getElem?_eq_getElem hj
    generalize ehb : hs[j] = hb at ehj
    obtain ⟨hd, b⟩ := hb
    obtain ⟨x', y', f1, f2, f3⟩ := I.phd j hd b ehj
    obtain ⟨pl, way, f4, f5, f6⟩ := I.bk j hd b ehj
    obtain ⟨v1, v2⟩ := I.pv j pl f4
    rw [hz] at f1
    cases f1
    obtain ⟨dw, ewj0, hw⟩ := hz1.get' hy
    rw [List.getElem?_map, f5] at ewj0
    cases ewj0
    cases hw.str_inv
    rw [drop_get ehj] at b8
    have hTT := SqT.of (K := K) hT1
    have g9 := g8.keep0 k9
    have k69 := k8.trans (k0 k9)
    walk_at "rd"
    cases pl with
    | none =>
      have ev := v1 rfl
      rw [hx] at ev
      cases ev
      have eb0 : b = none := by rw [f6]; split <;> rfl
      subst eb0
      unfold backsF at b8
      refine r_andP (a := decide (V.str way = V.str "back")) (b := false) (fun R0 hR => by walk_at "rd"; exact hR) (fun _ R0 hR => by walk_at "rd"; exact hR) ?_
      rw [Bool.and_false, if_neg Bool.false_ne_true]
      walk_at "rd"
      exact ⟨_, _, _, A, rfl, k69, g9, b8⟩
    | some p =>
      obtain ⟨c, hc, ev⟩ := v2 p rfl
      rw [hx] at ev
      cases ev
      by_cases cw : way = "back"
      · subst cw
        rw [if_pos rfl] at f6
        subst f6
        cases hd with
        | want u f2 => unfold backsF at b8; cases b8
        | road qq ws2 =>
          unfold backsF at b8
          by_cases cp : p < A.length
          · rw [if_pos cp] at b8
            cases eq8 : A[qq]? with
            | none => rw [eq8] at b8; cases b8
            | some v8 =>
              rw [eq8] at b8
              have b9 : backsF (A.set p v8) (hs.drop (j + 1)) = some aa := b8
              unfold PHd at f3
              obtain ⟨c2, tp, L, r1, rfl, rfl, r2, r3⟩ := f3
              obtain ⟨dx1, n1, L1, q1, q2, q3, q4⟩ := g9.cell qq c2 (cs3 qq c2 r1)
              obtain ⟨dx2, n2, L2, s1, s2, s3, s4⟩ := g9.cell p c (cs3 p c hc)
              have en : n1 = v8 := by
                have q1' : A[qq]? = some n1 := q1
                rw [eq8] at q1'
                exact (Option.some.inj q1').symm
              subst en
              refine r_andP (a := true) (b := true) (fun R0 hR => by walk_at "rd"; rw [show decide (V.str "back" = V.str "back") = true by decide +kernel]; exact hR) (fun _ R0 hR => by walk_at "rd"; exact hR) ?_
              rw [if_pos (by decide)]
              walk_at "rd"
              intro H10 h10 k10
              rw [cell_put] at h10
              exact ⟨_, _, _, A.set p n1, rfl, k69.trans (k10.mono fun x hx => by
                cases List.mem_singleton.mp hx
                exact List.mem_cons_of_mem _ (List.mem_cons_of_mem _ (mem_flat1 (cs3 p c hc)))), g9.put (cs3 p c hc) k10 h10, b9⟩
          · rw [if_neg cp] at b8
            cases b8
      · rw [if_neg cw] at f6
        subst f6
        unfold backsF at b8
        refine r_andP (a := false) (b := true) (fun R0 hR => by walk_at "rd"; rw [decide_eq_false (fun z => cw (V.str.inj z))]; exact hR) (fun z => nomatch z) ?_
        rw [if_neg (by decide)]
        walk_at "rd"
        exact ⟨_, _, _, A, rfl, k69, g9, b8⟩
  obtain ⟨x11, x12, x13, A, rfl, k8, g8, b8⟩ := hp
  have : hs.drop pvs.length = [] := List.drop_eq_nil_of_le (by rw [I.lp, I.lh]; exact Nat.le_refl _)
  rw [this] at b8
  unfold backsF at b8
  cases b8
  have elent : S2.lent.take S.lent.length = S.lent := by rw [lent2, eLs]; exact List.take_left' rfl
  have trkAll : ∀ x, x ∈ trk R cs3' → x ∈ trk R cs ∨ H x = none := fun x hx => by
    rw [← hcs3] at hx
    rcases splt _ _ x hx with z | z
    · rcases splt _ _ x z with z | z
      · rw [ec] at z
        rcases trkA ds x z with z | z
        · exact .inl z
        · exact .inr (free0 k03 (I.fr x z))
      · exact .inr (new3.new x z)
    · exact .inr (free0 k03 (I.k.free (fun m hm => by
        rcases List.mem_cons.mp hm with rfl | hm
        · rw [I.ea]; exact fun z => nomatch z
        rcases List.mem_cons.mp hm with rfl | hm
        · rw [I.eh]; exact fun z => nomatch z
        rcases List.mem_cons.mp hm with rfl | hm
        · rw [I.ed]; exact fun z => nomatch z
        exact I.g.al m (by rw [ec]; exact trkL ds m hm)) (fr5 x z)))
  have kall : Keep (ap :: h :: d :: trk R cs3') H H8 := by
    refine (((k0 k03).trans (I.k.mono fun x hx => ?_)).trans (k5.mono fun x hx => ?_)).trans ((k6.trans k8).mono fun x hx => List.mem_cons_of_mem _ (List.mem_cons_of_mem _ (List.mem_cons_of_mem _ hx)))
    · rcases List.mem_cons.mp hx with rfl | hx
      · exact List.mem_cons_self
      rcases List.mem_cons.mp hx with rfl | hx
      · exact List.mem_cons_of_mem _ List.mem_cons_self
      rcases List.mem_cons.mp hx with rfl | hx
      · exact List.mem_cons_of_mem _ (List.mem_cons_of_mem _ List.mem_cons_self)
      refine List.mem_cons_of_mem _ (List.mem_cons_of_mem _ (List.mem_cons_of_mem _ ?_))
      rw [← hcs3]
      exact sptl _ _ x (sptl _ _ x (by rw [ec]; exact trkL ds x hx))
    · refine List.mem_cons_of_mem _ (List.mem_cons_of_mem _ (List.mem_cons_of_mem _ ?_))
      rw [← hcs3]
      exact sptl _ _ x hx
  refine q (ds ++ (ods ++ ds3)) H8 (fun z hz => ?_) (kall.lessN fun x hx => ?_) ?_
  · rw [flat_app, flat_app] at hz
    rcases List.mem_append.mp hz with hz | hz
    · exact free0 k03 (I.fr z hz)
    rcases List.mem_append.mp hz with hz | hz
    · exact new3.new z hz
    · exact free0 k03 (I.k.free (fun m hm => by
        rcases List.mem_cons.mp hm with rfl | hm
        · rw [I.ea]; exact fun z => nomatch z
        rcases List.mem_cons.mp hm with rfl | hm
        · rw [I.eh]; exact fun z => nomatch z
        rcases List.mem_cons.mp hm with rfl | hm
        · rw [I.ed]; exact fun z => nomatch z
        exact I.g.al m (by rw [ec]; exact trkL ds m hm)) (fr5 z hz))
  · rcases List.mem_cons.mp hx with rfl | hx
    · exact .inr nap0
    rcases List.mem_cons.mp hx with rfl | hx
    · exact .inr nh0
    rcases List.mem_cons.mp hx with rfl | hx
    · exact .inr nd0
    exact trkAll x hx
  · have e : cs ++ (ds ++ (ods ++ ds3)) = cs3' := by rw [← hcs3, ec, List.append_assoc, List.append_assoc]
    rw [e]
    have g8' : ∀ (l : List (Nat × Nat)), l = S.lent → PSt K H8 kl R cs3' { S2 with at_ := aa, lent := l } (lentOf l) := fun l el => by
      subst el
      exact g8.cast rfl rfl rfl rfl
    exact g8' _ elent
end
end Hw
namespace Hw
open PySem PySem.Spec PyProof.Rows L2
local macro_rules | `(tactic| walk_at "sz") => `(tactic| first | exact Nat.le_of_ble_eq_true rfl | exact small (by first | omega | (simp; done) | (simp; omega)))
local macro_rules | `(tactic| walk_at "szT") => `(tactic| first | exact Nat.lt_of_lt_of_le (Nat.lt_succ_self _) (Nat.le_of_ble_eq_true rfl) | exact smallT (by first | omega | (simp; done) | (simp; omega)))
local macro_rules | `(tactic| walk_at "cond") => `(tactic| first | decide | omega | (dsimp only; omega) | exact ⟨by omega, by omega⟩ | exact .inr ⟨by decide, by decide⟩)
local macro_rules | `(tactic| walk_at "sq") => `(tactic| first | assumption | exact SqL.of (by assumption) | exact SqT.of (by assumption))
local macro_rules | `(tactic| walk_at "ty") => `(tactic| first | (with_reducible assumption) | exact .base (.int _) | exact .base (.str _) | exact .base (.bl _) | exact .base .non | exact tyT (by walk_at "sq") | exact tyL (by walk_at "sq"))
local macro_rules | `(tactic| walk_at "rd1") => `(tactic| first
  | ((with_reducible apply r_seq))
  | ((with_reducible apply r_asg))
  | ((with_reducible apply r_name))
  | ((with_reducible apply r_op))
  | ((with_reducible apply r_var); exact rfl)
  | ((with_reducible apply r_c))
  | ((with_reducible apply r_ixT); (walk_at "sq"); first | exact rfl | assumption)
  | ((with_reducible apply r_ixL); (walk_at "sq"); first | exact rfl | assumption)
  | ((with_reducible apply r_ixA); (first | exact .inl (by walk_at "sq") | exact .inr (by walk_at "sq")); first | exact rfl | assumption)
  | ((with_reducible apply r_isi); (walk_at "ty"); (decide +kernel))
  | ((with_reducible apply r_isiT2); assumption; (walk_at "ty"); (decide +kernel); (decide +kernel))
  | ((with_reducible apply r_I0))
  | ((with_reducible apply r_I); (walk_at "cond"))
  | ((with_reducible apply r_eq); exact rfl)
  | ((with_reducible apply r_ne); exact rfl)
  | ((with_reducible apply r_test))
  | ((with_reducible apply r_bl))
  | ((with_reducible apply r_if))
  | ((with_reducible apply r_nil))
  | ((with_reducible apply r_cons))
  | ((with_reducible apply r_call))
  | ((with_reducible apply r_cb))
  | ((with_reducible apply r_tup))
  | ((with_reducible apply r_lst))
  | ((with_reducible apply new); (walk_at "sz"))
  | ((with_reducible apply r_ret))
  | ((with_reducible apply r_retN))
  | ((with_reducible apply r_next))
  | ((with_reducible apply r_drop))
  | ((with_reducible apply r_lenL); (walk_at "sq"))
  | ((with_reducible apply r_lenT); (walk_at "sq"))
  | ((with_reducible apply r_int))
  | ((with_reducible apply r_intB))
  | ((with_reducible apply r_isN))
  | ((with_reducible apply r_notN))
  | ((with_reducible apply r_B))
  | ((with_reducible apply r_not))
  | ((with_reducible apply r_notV))
  | ((with_reducible apply r_andV))
  | ((with_reducible apply r_orV))
  | ((with_reducible apply r_ifE))
  | ((with_reducible apply r_chain))
  | ((with_reducible apply ite_t); (first | (with_reducible exact nRN) | (with_reducible exact nIN) | (with_reducible exact dNN) | decide +kernel))
  | ((with_reducible apply ite_f); (first | (with_reducible exact dRN) | (with_reducible exact dIN) | (with_reducible exact nNN) | decide +kernel))
  | ((with_reducible apply r_in); (first | exact .inl (by walk_at "sq") | exact .inr (by walk_at "sq")); exact rfl; (first | exact nums_flat | exact rfl))
  | ((with_reducible apply turn))
  | ((with_reducible apply r_for))
  | ((with_reducible apply r_iRng1))
  | ((with_reducible apply r_rng); (first | decide | omega | (simp; omega)); (first | decide | omega | (simp; omega)))
  | ((with_reducible apply r_iList))
  | ((with_reducible apply r_iTup))
  | ((with_reducible apply r_overL); (walk_at "sq"))
  | ((with_reducible apply r_overT); (walk_at "sq"))
  | ((with_reducible apply r_lc))
  | ((with_reducible apply acc); assumption; (walk_at "szT"))
  | ((with_reducible apply r_sub))
  | ((with_reducible apply r_setL); assumption; exact rfl)
  | ((with_reducible apply r_gtup); (walk_at "sq"); rfl)
  | ((with_reducible apply r_gnil))
  | ((with_reducible apply r_gcons))
  | ((with_reducible apply r_par))
  | ((with_reducible apply r_par2))
  | ((with_reducible apply r_sl))
  | ((with_reducible apply r_part))
  | ((with_reducible apply r_part1))
  | ((with_reducible apply r_noPart))
  | ((with_reducible apply r_slL); (walk_at "sq"))
  | ((with_reducible apply r_slA); (walk_at "sq"))
  | ((with_reducible apply r_tupL); (walk_at "sq"))
  | ((with_reducible apply r_tupT); (walk_at "sq"))
  | ((with_reducible apply r_lstL); (walk_at "sq"))
  | ((with_reducible apply r_lstT); (walk_at "sq"))
  | ((with_reducible apply r_append))
  | ((with_reducible apply r_isL); (walk_at "sq"))
  | ((with_reducible apply r_app); assumption; (walk_at "szT"))
  | ((with_reducible apply r_dget))
  | ((with_reducible apply r_dgetS); assumption; (walk_at "dk"))
  | ((with_reducible apply r_dput))
  | ((with_reducible apply r_dputS); assumption; (walk_at "szT"))
  | ((with_reducible apply r_disp))
  | ((with_reducible apply r_pnil))
  | ((with_reducible apply r_pcons))
  | ((with_reducible apply r_fld))
  | ((with_reducible apply r_fld1); assumption; assumption; assumption; (first | exact rfl | assumption))
  | ((with_reducible apply r_sfld))
  | ((with_reducible apply r_sfld1); assumption; assumption; assumption; exact (by decide)))
local macro_rules | `(tactic| walk_at "rd") => `(tactic| repeat walk_at "rd1")
local macro_rules | `(tactic| walk_at "lk") => `(tactic| first | (with_reducible exact cell_number) | (with_reducible exact cell_loans) | (with_reducible exact frame_owns) | (with_reducible exact frame_handed) | (with_reducible exact frame_roads) | (with_reducible exact want_thing) | (with_reducible exact want_frame) | (with_reducible exact run_program) | (with_reducible exact run_ways) | (with_reducible exact run_commons) | (with_reducible exact run_said) | (with_reducible exact run_lent) | (with_reducible exact run_mixed))
local macro_rules | `(tactic| walk_at "rd1") => `(tactic| first
  | ((with_reducible apply r_enumT))
  | ((with_reducible apply r_overE); (walk_at "sq"))
  | ((with_reducible apply r_zipA))
  | ((with_reducible apply r_zipT); (walk_at "sq"); (walk_at "sq"))
  | ((with_reducible apply r_zip3))
  | ((with_reducible apply r_overZ3); (walk_at "sq"); (walk_at "sq"); (walk_at "sq"))
  | ((with_reducible apply r_make))
  | ((with_reducible apply r_isiC); assumption; assumption; assumption)
  | ((with_reducible apply r_popM))
  | ((with_reducible apply r_pop); assumption)
  | ((with_reducible apply r_tru))
  | ((with_reducible apply r_truL); (walk_at "sq"))
  | ((with_reducible apply r_fld1); assumption; assumption; assumption; (walk_at "lk"))
  | ((with_reducible apply r_sfld1); assumption; assumption; assumption; exact Nat.le_of_ble_eq_true rfl))
section
variable {P : Program} {w : World} {K : PySem.W.Frag} {mg : Str → Option Value} {base : Heap}
/-! ### running.py: do_step, do_body -/
def spDoStep (K : PySem.W.Frag) (kl : Kl) (N : Nat) (PP : List Wk) (W : List (List Str)) (n : Nat) : Sp := fun vs H Q _ => ∃ (R : Rn) (vf vb : V) (cs : List (Addr × Addr)) (S S' : LS) (f : Fr) (st : St) (m : Nat), vs = [.ref R.r, vf, vb] ∧ Gst K H kl R cs S f vf ∧ Run K H PP W R.vp R.vw ∧ Rp K H vb st.enc ∧ st.lit ∧ (∀ wk ∈ PP, wk.body.lit) ∧ m < n ∧
  stepF PP W N m f S st = some S' ∧ Fits S' ∧ Gend K H kl R cs S' Q
theorem okDoStep {tk : Nat → Tok} {aP aW : Addr} {kl : Kl} {N n : Nat} {PP : List Wk} {W : List (List Str)} (D : DefAt K mg "do_step" sdo_step pdo_step) (T : Prg K tk aP aW kl mg) (C_number_of : Callee P w K mg base "number_of" (2 * N + 2) pnumber_of (spNumber K kl N)) (C_do_set : Callee P w K mg base "do_set" (2 * N + 3) pdo_set (spDoSet K kl N PP W))
    (C_do_body : Callee P w K mg base "do_body" (3 * n + 2 * N + 4) pdo_body (spDoBody K kl N PP W n)) (C_do_call : Callee P w K mg base "do_call" (3 * n + 2 * N + 5) pdo_call (spDoCall K kl N PP W n)) : Callee P w K mg base "do_step" (3 * n + 2 * N + 6) pdo_step (spDoStep K kl N PP W (n + 1)) := by
  refine D.ok scdo_step (fun vs H Q E h => ?_) (fun f cdv A outer s H vs Q E hr h => ?_)
  · obtain ⟨R, vf, vb, cs, S, S', f, st, m, rfl, _⟩ := h
    rfl
  obtain ⟨R, vf, vb, cs, S, S', f, st, m, rfl, G, hrun, hT, lt, PL, mn, e, fit, q⟩ := h
  obtain ⟨g, hF, lf, la, h3, ll, wl⟩ := id G
  cases m with
  | zero => unfold stepF at e; cases e
  | succ m =>
  refine ⟨_, (pss_cons (ps_set (i := 3) scdo_step.nd rfl (Or.inl rfl) (pe_ix (ixT (K := K)) (pv 2) pe_int (fun _ _ => rfl)))
  (pss_one (ps_if (pt_cmpR op_eq (pv 3) pe_str (nomark _)) (pss_one (ps_expr (pcall C_do_set (hr.mono (by omega)) rfl (pa_cons (pv 0) (pa_cons (pv 1) (pa_cons (pe_ix (ixT (K := K)) (pv 2) pe_int (fun _ _ => rfl)) (pa_cons (pe_ix (ixT (K := K)) (pv 2) pe_int (fun _ _ => rfl)) pa_nil))))))) (pss_one (ps_if (pt_cmpR op_eq (pv 3) pe_str (nomark _)) (pss_one (ps_expr (peApp (K := K) (peFld (K := K) (pv 0) rfl) (pcall C_number_of (hr.mono (by omega)) rfl (pa_cons (pv 0) (pa_cons (pv 1) (pa_cons (pe_ix (ixT (K := K)) (pv 2) pe_int (fun _ _ => rfl)) pa_nil))))))) (pss_one (ps_if (pt_cmpR op_eq (pv 3) pe_str (nomark _)) (pss_cons (ps_set (i := 4) scdo_step.nd rfl (Or.inl rfl) (pe_ifExp (pt_cmpR op_eq (pcall C_number_of (hr.mono (by omega)) rfl (pa_cons (pv 0) (pa_cons (pv 1) (pa_cons (pe_ix (ixT (K := K)) (pv 2) pe_int (fun _ _ => rfl)) pa_nil)))) pe_int (nomark _)) (pe_ix (ixT (K := K)) (pv 2) pe_int (fun _ _ => rfl)) (pe_ix (ixT (K := K)) (pv 2) pe_int (fun _ _ => rfl))))
  (pss_one (ps_expr (pcall C_do_body (hr.mono (by omega)) rfl (pa_cons (pv 0) (pa_cons (pv 1) (pa_cons (pv 4) pa_nil))))))) (pss_one (ps_expr (pcall C_do_call (hr.mono (by omega)) rfl (pa_cons (pv 0) (pa_cons (pv 1) (pa_cons (pe_ix (ixT (K := K)) (pv 2) pe_int (fun _ _ => rfl)) (pa_cons (pe_ix (ixT (K := K)) (pv 2) pe_int (fun _ _ => rfl)) pa_nil)))))))))))))), ?_⟩
  cases st with
  | set p t =>
    obtain ⟨a1, u, x, rfl, hS, hu, hx⟩ := St.inv_set hT
    have a0 : atI [V.str "set", u, x] 0 = some (.str "set") := at0
    have a1' : atI [V.str "set", u, x] 1 = some u := at1
    have a2' : atI [V.str "set", u, x] 2 = some x := at2
    unfold St.lit at lt
    walk_at "rd"
    refine ask ⟨R, vf, u, x, cs, S, S', f, p, t, m, rfl, G, hu, hx, lt.1, lt.2, e, q⟩
  | say t =>
    obtain ⟨a1, u, rfl, hS, hu⟩ := St.inv_say hT
    have a0 : atI [V.str "say", u] 0 = some (.str "say") := at0
    have a1' : atI [V.str "say", u] 1 = some u := at1
    unfold St.lit at lt
    have clR := T.own.clR
    have ns := T.own.said
    obtain ⟨dr, er⟩ := g.run
    have esd := g.sd
    unfold stepF at e
    cases en : numF S.at_ N f t with
    | none => rw [en] at e; cases e
    | some v =>
    rw [en] at e
    cases e
    walk_at "rd"
    refine ask ⟨R, vf, u, cs, S, f, t, v, rfl, g, hF, hu, lt, lf, la, h3, en, fun H1 k1 g1 => ?_⟩
    have es1 := g1.sd
    have lsd : (nums S.said).length ≤ 90000 := by
      have := fit.2.1
      have e' : (S.said ++ [v]).length ≤ 90000 := this
      rw [List.length_append] at e'
      rw [nums_len]
      omega
    have es1' : H1 R.ls = some (.lst (nums S.said)) := es1
    walk_at "rd"
    intro H2 h2 k2
    have h2' : H2 R.ls = some (.lst (nums (S.said ++ [v]))) := by rw [nums_app]; exact h2
    refine q [] H2 (fun z hz => nomatch hz) ((PSt.kr k1).trans (k2.mono fun x hx => by
      cases List.mem_singleton.mp hx
      exact List.mem_cons_of_mem _ List.mem_cons_self)) ?_
    rw [List.append_nil]
    exact g1.say k2 h2'
  | ite t b1 b2 =>
    obtain ⟨a1, u, x, y, rfl, hS, hu, hx, hy⟩ := St.inv_ite hT
    have a0 : atI [V.str "if", u, x, y] 0 = some (.str "if") := at0
    have a1' : atI [V.str "if", u, x, y] 1 = some u := at1
    have a2' : atI [V.str "if", u, x, y] 2 = some x := at2
    have a3' : atI [V.str "if", u, x, y] 3 = some y := at3
    unfold St.lit at lt
    unfold stepF at e
    cases en : numF S.at_ N f t with
    | none => rw [en] at e; cases e
    | some v =>
    rw [en] at e
    have e' : iter (stepF PP W N m f) (if v = 0 then b2 else b1) (S.mix (mixN S.at_ S.lent N f t)) = some S' := e
    walk_at "rd"
    refine ask ⟨R, vf, u, cs, S, f, t, v, rfl, g, hF, hu, lt.1, lf, la, h3, en, fun H1 k1 g1 => ?_⟩
    have t1 := g.ktr k1
    have hF1 := hF.keep (PSt.kr k1) t1
    have hS1 := t1.sqT hS
    have G1 : Gst K H1 kl R cs (S.mix (mixN S.at_ S.lent N f t)) f vf := ⟨g1, hF1, lf, la, h3, ll, wl⟩
    have fin : Gend K H1 kl R cs S' Q := fun ds H' fr k gg => q ds H' (fun z hz => (PSt.kr (cs := cs) k1).free (fun m hm => g1.al m hm) (fr z hz)) ((PSt.kr k1).trans k) gg
    walk_at "rd"
    by_cases c : v = 0
    · rw [if_pos c] at e'
      subst c
      rw [if_pos (by rfl)]
      walk_at "rd"
      refine ask ⟨R, vf, y, cs, _, S', f, b2, m, rfl, G1, hrun.ts t1, hy.ts t1, lt.2.2, PL, by omega, e', fit, fin⟩
    · rw [if_neg c] at e'
      rw [if_neg (by rw [decide_eq_true_eq]; exact fun z => c (by have := V.int.inj z; omega))]
      walk_at "rd"
      refine ask ⟨R, vf, x, cs, _, S', f, b1, m, rfl, G1, hrun.ts t1, hx.ts t1, lt.2.1, PL, by omega, e', fit, fin⟩
  | call k ts =>
    obtain ⟨a1, x, rfl, hS, hx⟩ := St.inv_call hT
    have a0 : atI [V.str "call", V.int (k : Int), x] 0 = some (.str "call") := at0
    have a1' : atI [V.str "call", V.int (k : Int), x] 1 = some (.int (k : Int)) := at1
    have a2' : atI [V.str "call", V.int (k : Int), x] 2 = some x := at2
    unfold St.lit at lt
    walk_at "rd"
    refine ask ⟨R, vf, x, cs, S, S', f, k, ts, m, rfl, G, hrun, hx, lt, PL, by omega, e, fit, q⟩
theorem okDoBody {tk : Nat → Tok} {aP aW : Addr} {kl : Kl} {N n : Nat} {PP : List Wk} {W : List (List Str)} (D : DefAt K mg "do_body" sdo_body pdo_body) (T : Prg K tk aP aW kl mg) (C_do_step : Callee P w K mg base "do_step" (3 * n + 2 * N + 6) pdo_step (spDoStep K kl N PP W (n + 1))) :
    Callee P w K mg base "do_body" (3 * n + 2 * N + 7) pdo_body (spDoBody K kl N PP W (n + 1)) := by
  refine D.ok scdo_body (fun vs H Q E h => ?_) (fun f cdv A outer s H vs Q E hr h => ?_)
  · obtain ⟨R, vf, vb, cs, S, S', f, b, m, rfl, _⟩ := h
    rfl
  obtain ⟨R, vf, vb, cs, S, S', f, b, m, rfl, G, hrun, hB, lb, PL, mn, e, fit, q⟩ := h
  obtain ⟨a, xs, rfl, hT, hxs⟩ := hB.tup_inv
  refine ⟨_, (pss_one (ps_for PassesOwn.never rfl (piTup (K := K) (pv 2)) (pg_name (i := 3) scdo_body.nd rfl (Or.inl rfl))
   (pss_one (ps_expr (pcall C_do_step (hr.mono (by omega)) rfl (pa_cons (pv 0) (pa_cons (pv 1) (pa_cons (pv 3) pa_nil)))))))), ?_⟩
  walk_at "rd"
  refine forT (xs := xs) (fun j σ H' => ∃ (x3 : Option V) (ds : List (Addr × Addr)) (Sj : LS), σ = [some (.ref R.r), some vf, some (.ref a), x3] ∧ (∀ z ∈ flat ds, H z = none) ∧ Keep (trk R cs) H H' ∧ Gst K H' kl R (cs ++ ds) Sj f vf ∧ iter (stepF PP W N m f) (b.drop j) Sj = some S' ∧ (b.drop j).lit)
    ⟨_, [], S, rfl, (fun z hz => nomatch hz), Keep.refl, by rw [List.append_nil]; exact G, e, lb⟩ (fun j σ H' _ hp => ?_) (fun j x σ H' hx hp => ?_) (fun σ H' hp => ?_)
  · obtain ⟨x3, ds, Sj, rfl, fr, k, g, ei, lj⟩ := hp
    exact (G.ps.ts k).sqT hT
  · obtain ⟨x3, ds, Sj, rfl, fr, k, g, ei, lj⟩ := hp
    obtain ⟨dd, ed, rd⟩ := hxs.get' hx
    obtain ⟨st, rfl, est⟩ := Sts.drop_get ed
    rw [est] at ei lj
    unfold iter at ei
    unfold Sts.lit at lj
    cases e1 : stepF PP W N m f Sj st with
    | none => rw [e1] at ei; cases ei
    | some Sk =>
    rw [e1] at ei
    have ei' : iter (stepF PP W N m f) (b.drop (j + 1)) Sk = some S' := ei
    have t1 := G.ps.ts k
    have le1 := stepF_le e1
    have leE : Le Sk S' := iter_le (g := stepF PP W N m f) (fun S s S' h => stepF_le h) ei'
    walk_at "rd"
    refine ask ⟨R, vf, x, cs ++ ds, Sj, Sk, f, st, m, rfl, g, hrun.ts t1, rd.ts t1, lj.1, PL, mn, e1, fit.le leE, fun ds' H2 fr2 k2 g2 => ?_⟩
    have frH : ∀ z, H' z = none → H z = none := fun z hz => k.free (fun m hm => g.ps.al m (by
      unfold trk at hm ⊢
      rw [flat_app]
      have : m ∈ (R.r :: R.ls :: flat cs) ++ flat ds := List.mem_append_left _ hm
      exact this)) hz
    have trkA : ∀ (cs ds : List (Addr × Addr)) (x : Addr), x ∈ trk R (cs ++ ds) → x ∈ trk R cs ∨ x ∈ flat ds := fun cs ds x hx => by
      unfold trk at hx ⊢
      rw [flat_app] at hx
      have hx' : x ∈ (R.r :: R.ls :: flat cs) ++ flat ds := hx
      exact List.mem_append.mp hx'
    have trkL : ∀ (x : Addr), x ∈ trk R cs → x ∈ trk R (cs ++ ds) := fun x hx => by
      unfold trk at hx ⊢
      rw [flat_app]
      have : x ∈ (R.r :: R.ls :: flat cs) ++ flat ds := List.mem_append_left _ hx
      exact this
    refine ⟨_, ds ++ ds', Sk, rfl, fun z hz => ?_, ?_, ?_, ei', lj.2⟩
    · rw [flat_app] at hz
      rcases List.mem_append.mp hz with hz | hz
      · exact fr z hz
      · exact frH z (fr2 z hz)
    · exact ((k.mono trkL).trans k2).lessN fun x hx => by
        rcases trkA cs ds x hx with z | z
        · exact .inl z
        · exact .inr (fr x z)
    · rw [← List.append_assoc]
      refine ⟨g2, ?_, g.lf, stepF_low PL g.lf lj.1 g.la e1, by rw [List.length_append]; have := g.l3; omega, le1.l g.ll, g.wl.mono le1.m⟩
      refine g.fr.go k2 (g.ps.ts k2) (fun x hx => ?_) fun p c hc => app_get hc
      rcases trkA _ _ x hx with z | z
      · exact .inl z
      · exact .inr (fr2 x z)
  · obtain ⟨x3, ds, Sj, rfl, fr, k, g, ei, lj⟩ := hp
    rw [hxs.length, Sts.drop_all] at ei
    unfold iter at ei
    cases ei
    exact q ds H' fr k g.ps
theorem okGo {tk : Nat → Tok} {aP aW : Addr} {kl : Kl} {N : Nat} {PP : List Wk} {W : List (List Str)} (Ds : DefAt K mg "do_step" sdo_step pdo_step) (Db : DefAt K mg "do_body" sdo_body pdo_body) (Dc : DefAt K mg "do_call" sdo_call pdo_call) (T : Prg K tk aP aW kl mg)
    (C_number_of : Callee P w K mg base "number_of" (2 * N + 2) pnumber_of (spNumber K kl N)) (C_do_set : Callee P w K mg base "do_set" (2 * N + 3) pdo_set (spDoSet K kl N PP W)) (C_hand : Callee P w K mg base "hand" (2 * N + 3) phand (spHand K kl N)) (C_Frame : Maker P w K mg base "Frame" kl.F 3 pFrame_init (spFrame kl)) :
    ∀ n : Nat, Callee P w K mg base "do_body" (3 * n + 2 * N + 4) pdo_body (spDoBody K kl N PP W n)
  | 0 => Db.none fun vs H Q E h => by
    obtain ⟨R, vf, vb, cs, S, S', f, b, m, rfl, _, _, _, _, _, z, _⟩ := h
    omega
  | n + 1 => by
    have ih := okGo (PP := PP) (W := W) Ds Db Dc T C_number_of C_do_set C_hand C_Frame n
    have h := okDoBody Db T (okDoStep Ds T C_number_of C_do_set ih (okDoCall Dc T C_hand C_Frame ih))
    have e : 3 * (n + 1) + 2 * N + 4 = 3 * n + 2 * N + 7 := by omega
    rw [e]
    exact h
end
end Hw
namespace Hw
open PySem PySem.Spec PyProof.Rows L2
local macro_rules | `(tactic| walk_at "sz") => `(tactic| first | exact Nat.le_of_ble_eq_true rfl | exact small (by first | omega | (simp; done) | (simp; omega)))
local macro_rules | `(tactic| walk_at "szT") => `(tactic| first | exact Nat.lt_of_lt_of_le (Nat.lt_succ_self _) (Nat.le_of_ble_eq_true rfl) | exact smallT (by first | omega | (simp; done) | (simp; omega)))
local macro_rules | `(tactic| walk_at "cond") => `(tactic| first | decide | omega | (dsimp only; omega) | exact ⟨by omega, by omega⟩ | exact .inr ⟨by decide, by decide⟩)
local macro_rules | `(tactic| walk_at "sq") => `(tactic| first | assumption | exact SqL.of (by assumption) | exact SqT.of (by assumption))
local macro_rules | `(tactic| walk_at "ty") => `(tactic| first | (with_reducible assumption) | exact .base (.int _) | exact .base (.str _) | exact .base (.bl _) | exact .base .non | exact tyT (by walk_at "sq") | exact tyL (by walk_at "sq"))
local macro_rules | `(tactic| walk_at "rd1") => `(tactic| first
  | ((with_reducible apply r_seq))
  | ((with_reducible apply r_asg))
  | ((with_reducible apply r_name))
  | ((with_reducible apply r_op))
  | ((with_reducible apply r_var); exact rfl)
  | ((with_reducible apply r_c))
  | ((with_reducible apply r_ixT); (walk_at "sq"); first | exact rfl | assumption)
  | ((with_reducible apply r_ixL); (walk_at "sq"); first | exact rfl | assumption)
  | ((with_reducible apply r_ixA); (first | exact .inl (by walk_at "sq") | exact .inr (by walk_at "sq")); first | exact rfl | assumption)
  | ((with_reducible apply r_isi); (walk_at "ty"); (decide +kernel))
  | ((with_reducible apply r_isiT2); assumption; (walk_at "ty"); (decide +kernel); (decide +kernel))
  | ((with_reducible apply r_I0))
  | ((with_reducible apply r_I); (walk_at "cond"))
  | ((with_reducible apply r_eq); exact rfl)
  | ((with_reducible apply r_ne); exact rfl)
  | ((with_reducible apply r_test))
  | ((with_reducible apply r_bl))
  | ((with_reducible apply r_if))
  | ((with_reducible apply r_nil))
  | ((with_reducible apply r_cons))
  | ((with_reducible apply r_call))
  | ((with_reducible apply r_cb))
  | ((with_reducible apply r_tup))
  | ((with_reducible apply r_lst))
  | ((with_reducible apply new); (walk_at "sz"))
  | ((with_reducible apply r_ret))
  | ((with_reducible apply r_retN))
  | ((with_reducible apply r_next))
  | ((with_reducible apply r_drop))
  | ((with_reducible apply r_lenL); (walk_at "sq"))
  | ((with_reducible apply r_lenT); (walk_at "sq"))
  | ((with_reducible apply r_int))
  | ((with_reducible apply r_intB))
  | ((with_reducible apply r_isN))
  | ((with_reducible apply r_notN))
  | ((with_reducible apply r_B))
  | ((with_reducible apply r_not))
  | ((with_reducible apply r_notV))
  | ((with_reducible apply r_andV))
  | ((with_reducible apply r_orV))
  | ((with_reducible apply r_ifE))
  | ((with_reducible apply r_chain))
  | ((with_reducible apply ite_t); (first | (with_reducible exact nRN) | (with_reducible exact nIN) | (with_reducible exact dNN) | decide +kernel))
  | ((with_reducible apply ite_f); (first | (with_reducible exact dRN) | (with_reducible exact dIN) | (with_reducible exact nNN) | decide +kernel))
  | ((with_reducible apply r_in); (first | exact .inl (by walk_at "sq") | exact .inr (by walk_at "sq")); exact rfl; (first | exact nums_flat | exact rfl))
  | ((with_reducible apply turn))
  | ((with_reducible apply r_for))
  | ((with_reducible apply r_iRng1))
  | ((with_reducible apply r_rng); (first | decide | omega | (simp; omega)); (first | decide | omega | (simp; omega)))
  | ((with_reducible apply r_iList))
  | ((with_reducible apply r_iTup))
  | ((with_reducible apply r_overL); (walk_at "sq"))
  | ((with_reducible apply r_overT); (walk_at "sq"))
  | ((with_reducible apply r_lc))
  | ((with_reducible apply acc); assumption; (walk_at "szT"))
  | ((with_reducible apply r_sub))
  | ((with_reducible apply r_setL); assumption; exact rfl)
  | ((with_reducible apply r_gtup); (walk_at "sq"); rfl)
  | ((with_reducible apply r_gnil))
  | ((with_reducible apply r_gcons))
  | ((with_reducible apply r_par))
  | ((with_reducible apply r_par2))
  | ((with_reducible apply r_sl))
  | ((with_reducible apply r_part))
  | ((with_reducible apply r_part1))
  | ((with_reducible apply r_noPart))
  | ((with_reducible apply r_slL); (walk_at "sq"))
  | ((with_reducible apply r_slA); (walk_at "sq"))
  | ((with_reducible apply r_tupL); (walk_at "sq"))
  | ((with_reducible apply r_tupT); (walk_at "sq"))
  | ((with_reducible apply r_lstL); (walk_at "sq"))
  | ((with_reducible apply r_lstT); (walk_at "sq"))
  | ((with_reducible apply r_append))
  | ((with_reducible apply r_isL); (walk_at "sq"))
  | ((with_reducible apply r_app); assumption; (walk_at "szT"))
  | ((with_reducible apply r_dget))
  | ((with_reducible apply r_dgetS); assumption; (walk_at "dk"))
  | ((with_reducible apply r_dput))
  | ((with_reducible apply r_dputS); assumption; (walk_at "szT"))
  | ((with_reducible apply r_disp))
  | ((with_reducible apply r_pnil))
  | ((with_reducible apply r_pcons))
  | ((with_reducible apply r_fld))
  | ((with_reducible apply r_fld1); assumption; assumption; assumption; (first | exact rfl | assumption))
  | ((with_reducible apply r_sfld))
  | ((with_reducible apply r_sfld1); assumption; assumption; assumption; exact (by decide)))
local macro_rules | `(tactic| walk_at "rd") => `(tactic| repeat walk_at "rd1")
local macro_rules | `(tactic| walk_at "lk") => `(tactic| first | (with_reducible exact cell_number) | (with_reducible exact cell_loans) | (with_reducible exact frame_owns) | (with_reducible exact frame_handed) | (with_reducible exact frame_roads) | (with_reducible exact want_thing) | (with_reducible exact want_frame) | (with_reducible exact run_program) | (with_reducible exact run_ways) | (with_reducible exact run_commons) | (with_reducible exact run_said) | (with_reducible exact run_lent) | (with_reducible exact run_mixed))
local macro_rules | `(tactic| walk_at "rd1") => `(tactic| first
  | ((with_reducible apply r_enumT))
  | ((with_reducible apply r_overE); (walk_at "sq"))
  | ((with_reducible apply r_zipA))
  | ((with_reducible apply r_zipT); (walk_at "sq"); (walk_at "sq"))
  | ((with_reducible apply r_zip3))
  | ((with_reducible apply r_overZ3); (walk_at "sq"); (walk_at "sq"); (walk_at "sq"))
  | ((with_reducible apply r_make))
  | ((with_reducible apply r_isiC); assumption; assumption; assumption)
  | ((with_reducible apply r_popM))
  | ((with_reducible apply r_pop); assumption)
  | ((with_reducible apply r_tru))
  | ((with_reducible apply r_truL); (walk_at "sq"))
  | ((with_reducible apply r_fld1); assumption; assumption; assumption; (walk_at "lk"))
  | ((with_reducible apply r_sfld1); assumption; assumption; assumption; exact Nat.le_of_ble_eq_true rfl))
section
variable {P : Program} {w : World} {K : PySem.W.Frag} {mg : Str → Option Value} {base : Heap}
/-! ### running.py: done, numbers_of, ran -/
def spDone (K : PySem.W.Frag) (kl : Kl) (N : Nat) (PP : List Wk) (W : List (List Str)) (n : Nat) : Sp := fun vs H Q _ => ∃ (vp vw : V) (ca : Addr) (cells : List Nat) (S : LS) (m : Nat), vs = [vp, vw, .ref ca] ∧ Run K H PP W vp vw ∧ SqT K H ca (nums cells) ∧ cells.length = 3 ∧ Low cells ∧ (∀ wk ∈ PP, wk.body.lit) ∧ m < n ∧
  ranF PP W N m cells = some S ∧ Fits S ∧ ∀ (R : Rn) (cs : List (Addr × Addr)) (H' : Hp), Keep [] H H' → PS K H' kl R cs S → H R.ls = none → Q (.ref R.r) H'
def spNumbersOf (K : PySem.W.Frag) (kl : Kl) : Sp := fun vs H Q _ => ∃ (R : Rn) (cs : List (Addr × Addr)) (S : LS) (lo : Nat → List Nat), vs = [.ref R.r] ∧ PSt K H kl R cs S lo ∧ ∀ (ta : Addr) (H' : Hp), Keep [] H H' → SqT K H' ta (nums (S.at_.take 3)) → Q (.ref ta) H'
def spRanP (K : PySem.W.Frag) (N : Nat) (PP : List Wk) (W : List (List Str)) (n : Nat) : Sp := fun vs H Q _ => ∃ (vp vw : V) (ca : Addr) (cells : List Nat) (S : LS) (m mm : Nat), vs = [vp, vw, .ref ca] ∧ Run K H PP W vp vw ∧ Good PP mm ∧ mm ≤ 100 ∧ WaysOk PP W ways4 ∧ SqT K H ca (nums cells) ∧ cells.length = 3 ∧ (∀ n ∈ cells, n < 3) ∧ m < n ∧
  ranF PP W N m cells = some S ∧ Fits S ∧ ∀ (a ls ta : Addr) (H' : Hp), Keep [] H H' → H ls = none → SqT K H' a [.ref ls, .ref ta] → H' ls = some (.lst (nums S.said)) → SqT K H' ta (nums (S.at_.take 3)) → Q (.ref a) H'
abbrev sdone : Stmt := top 31
abbrev ndone : List Str := ["program", "ways", "cells", "run", "params", "owns", "body"]
abbrev pdone : List Str := ["program", "ways", "cells"]
theorem scdone : FnScope ndone pdone (defScope sdone) := ⟨rfl, rfl, rfl, by decide +kernel, rfl, by decide +kernel, by decide +kernel⟩
abbrev snumbers_of : Stmt := top 32
abbrev nnumbers_of : List Str := ["run", "cell"]
abbrev pnumbers_of : List Str := ["run"]
theorem scnumbers_of : FnScope nnumbers_of pnumbers_of (defScope snumbers_of) := ⟨rfl, rfl, rfl, by decide +kernel, rfl, by decide +kernel, by decide +kernel⟩
theorem okDone {tk : Nat → Tok} {aP aW : Addr} {kl : Kl} {N n : Nat} {PP : List Wk} {W : List (List Str)} (D : DefAt K mg "done" sdone pdone) (T : Prg K tk aP aW kl mg) (C_Run : Maker P w K mg base "Run" kl.R 3 pRun_init (spRun K kl)) (C_Frame : Maker P w K mg base "Frame" kl.F 3 pFrame_init (spFrame kl))
    (C_do_body : Callee P w K mg base "do_body" (3 * n + 2 * N + 4) pdo_body (spDoBody K kl N PP W n)) : Callee P w K mg base "done" (3 * n + 2 * N + 5) pdone (spDone K kl N PP W n) := by
  refine D.ok scdone (fun vs H Q E h => ?_) (fun f cdv A outer s H vs Q E hr h => ?_)
  · obtain ⟨vp, vw, ca, cells, S, m, rfl, _⟩ := h
    rfl
  obtain ⟨vp, vw, ca, cells, S, m, rfl, hrun, hca, l3, lc, PL, mn, e, fit, q⟩ := h
  unfold ranF doesF at e
  cases ek : PP[0]? with
  | none => rw [ek] at e; cases e
  | some wk =>
  rw [ek] at e
  have e1 : iter (stepF PP W N m (.mk (ownsOf ⟨cells, [], [], 0, false⟩ wk.owns) .nil)) wk.body ((⟨cells, [], [], 0, false⟩ : LS).enter wk.owns) = some S := e
  obtain ⟨a1, xs1, rfl, hT1, hl1, hat⟩ := encP_at hrun.p
  obtain ⟨wp, vb, ap1, hW1, hB⟩ := hat 0 wk ek
  have ap1' : atI xs1 0 = some (.ref wp) := ap1
  have o1000 := hrun.o wk (List.mem_of_getElem? ek)
  refine ⟨_, (pss_cons (ps_set (i := 3) scdone.nd rfl (Or.inl rfl) (pmake C_Run (hr.mono (by omega)) rfl (pa_cons (pv 0) (pa_cons (pv 1) (pa_cons (pv 2) pa_nil)))))
  (pss_cons (ps_asg (pe_ix (ixT (K := K)) (pv 0) pe_int (fun _ _ => rfl)) (pgTup (K := K) (by rfl) (pgs_cons (pg_name (i := 4) scdone.nd rfl (Or.inl rfl)) (pgs_cons (pg_name (i := 5) scdone.nd rfl (Or.inl rfl)) (pgs_cons (pg_name (i := 6) scdone.nd rfl (Or.inl rfl)) pgs_nil)))))
  (pss_cons (ps_expr (pcall C_do_body (hr.mono (by omega)) rfl (pa_cons (pv 3) (pa_cons (pmake C_Frame (hr.mono (by omega)) rfl (pa_cons (pv 5) pa_nil)) (pa_cons (pv 6) pa_nil)))))
  (pss_one (ps_ret (pv 3)))))), ?_⟩
  walk_at "rd"
  refine made fun r dx H1 nr ndx nxd h1 hdx k1 => ⟨r, dx, ca, .ref a1, vw, cells, rfl, h1, (kts0 k1).sqT hca, by omega, fun ds lc0 ls H2 nw2 nlc nls lcls lcf lsf k2 h2 h2c h2s => ⟨rfl, ?_⟩⟩
  have k02 : Keep [] H H2 := k1.fresh1 k2 nr
  have t02 := kts0 k02
  have hT1' := t02.sqT hT1
  have hW1' := t02.sqT hW1
  have ld : ds.length = 3 := nw2.l.trans l3
  have rf : r ∉ flat ds := fun z => by have := nw2.new r z; rw [h1] at this; cases this
  have rls : r ≠ ls := fun z => by rw [← z, h1] at nls; cases nls
  have rlc : r ≠ lc0 := fun z => by rw [← z, h1] at nlc; cases nlc
  have g2 : PS K H2 kl ⟨r, lc0, ls, .ref a1, vw⟩ ds ⟨cells, [], [], 0, false⟩ := by
    refine ⟨⟨dx, h2⟩, by rw [List.take_of_length_le (by omega)]; exact h2c, h2s, nw2.l, fun i c hc => ?_, ?_, fun i _ => rfl⟩
    · obtain ⟨dx', n', q1, q2, q3⟩ := nw2.at_ i c hc
      exact ⟨dx', n', [], q1, q2, q3, rfl⟩
    · show (lc0 :: r :: ls :: flat ds).Nodup
      refine List.nodup_cons.mpr ⟨fun z => ?_, List.nodup_cons.mpr ⟨fun z => ?_, List.nodup_cons.mpr ⟨lsf, nw2.nd⟩⟩⟩
      · rcases List.mem_cons.mp z with z | z
        · exact rlc z.symm
        rcases List.mem_cons.mp z with z | z
        · exact lcls z
        · exact lcf z
      · rcases List.mem_cons.mp z with z | z
        · exact rls z
        · exact rf z
  walk_at "rd"
  refine made fun ia dxi H3 nia ndx2 nxd2 h3 hdx2 k3 => ⟨ia, dxi, wk.owns, rfl, h3, o1000, fun ods o h d H4 nw4 no nh nd hdn oof hof dof k4 h4 h4o h4h h4d ohn odn => ⟨rfl, ?_⟩⟩
  have k24 : Keep [] H2 H4 := k3.fresh1 k4 nia
  have g4 := g2.keep0 k24
  have oldne : ∀ (u : Addr), H2 u = none → u ∉ lc0 :: trk ⟨r, lc0, ls, .ref a1, vw⟩ ds := fun u hu z => g2.all u z hu
  have nwb := nw4.back fun x hx => free0 k3 hx
  have gI : PS K H4 kl ⟨r, lc0, ls, .ref a1, vw⟩ (ds ++ ods) ((⟨cells, [], [], 0, false⟩ : LS).enter wk.owns) := g4.more (ds := ods) (vs := List.replicate wk.owns 0) (by omega) nw4.l nw4.nd (fun x hx => ⟨(fun z => oldne x (nwb.new x hx) (z ▸ List.mem_cons_self)), fun z => oldne x (nwb.new x hx) (List.mem_cons_of_mem _ z)⟩) nw4.at_
  have inO : ∀ (u : Addr), H2 u = none → u ∉ flat ods → u ∉ trk ⟨r, lc0, ls, .ref a1, vw⟩ (ds ++ ods) := fun u hu hn z => by
    unfold trk at z
    rw [flat_app] at z
    have z' : u ∈ (r :: ls :: flat ds) ++ flat ods := z
    rcases List.mem_append.mp z' with q | q
    · exact oldne u hu (List.mem_cons_of_mem _ q)
    · exact hn q
  have iof : ia ∉ flat ods := fun z => by have := nw4.new ia z; rw [h3] at this; cases this
  have hFI : PFr K H4 kl (trk ⟨r, lc0, ls, .ref a1, vw⟩ (ds ++ ods)) (ds ++ ods) (.mk (ownsOf ⟨cells, [], [], 0, false⟩ wk.owns) .nil) (.ref ia) := by
    unfold PFr
    refine ⟨ia, dxi, o, h, d, _, [], [], rfl, h4, inO ia nia iof, h4o, inO o (free0 k3 no) oof, fun k' p hk => ?_, h4h, inO h (free0 k3 nh) hof, h4d, inO d (free0 k3 nd) dof, by unfold PHds; exact ⟨rfl, rfl⟩⟩
    unfold ownsOf at hk
    have hk1 := (List.getElem?_eq_some_iff.mp hk).1
    rw [List.length_range'] at hk1
    rw [List.getElem?_range' hk1] at hk
    have ep' : p = cells.length + k' := by
      have := Option.some.inj hk
      have e : (⟨cells, [], [], 0, false⟩ : LS).at_.length = cells.length := rfl
      omega
    have lo' : k' < ods.length := by rw [nw4.l, List.length_replicate]; exact hk1
    refine ⟨ods[k'], ?_, ?_⟩
    · rw [ep', List.getElem?_append_right (by omega), show cells.length + k' - ds.length = k' by omega]
      exact List.getElem?_eq_getElem lo'
    · rw [List.getElem?_map, List.getElem?_eq_getElem lo']
      rfl
  have t04 := t02.trans (kts0 k24)
  walk_at "rd"
  refine ask ⟨⟨r, lc0, ls, .ref a1, vw⟩, .ref ia, vb, ds ++ ods, _, S, .mk (ownsOf ⟨cells, [], [], 0, false⟩ wk.owns) .nil, wk.body, m, rfl, ⟨gI, hFI, by unfold Fr.lit Hds.lit; trivial, lc.app low_rep, by rw [List.length_append]; omega, Nat.le_refl _, by unfold Fr.wsLe Hds.wsLe; trivial⟩, hrun.ts t04, hB.ts t04, PL wk (List.mem_of_getElem? ek), PL, mn, e1, fit, fun ds3 H5 fr5 k5 g5 => ?_⟩
  walk_at "rd"
  refine q ⟨r, lc0, ls, .ref a1, vw⟩ (ds ++ ods ++ ds3) H5 ?_ g5 (free0 k1 nls)
  refine (((k0 k02).trans (k0 k24)).trans k5).lessN fun x hx => ?_
  refine .inr ?_
  unfold trk at hx
  rw [flat_app] at hx
  have hx' : x ∈ (r :: ls :: flat ds) ++ flat ods := hx
  rcases List.mem_append.mp hx' with z | z
  · rcases List.mem_cons.mp z with z | z
    · exact z ▸ nr
    rcases List.mem_cons.mp z with z | z
    · exact z ▸ free0 k1 nls
    · exact free0 k1 (nw2.new x z)
  · exact free0 k02 (nwb.new x z)
theorem okNumbersOf {tk : Nat → Tok} {aP aW : Addr} {kl : Kl} (D : DefAt K mg "numbers_of" snumbers_of pnumbers_of) (T : Prg K tk aP aW kl mg) : Callee P w K mg base "numbers_of" 1 pnumbers_of (spNumbersOf K kl) := by
  refine D.ok scnumbers_of (fun vs H Q E h => ?_) (fun f cdv A outer s H vs Q E hr h => ?_)
  · obtain ⟨R, cs, S, lo, rfl, _⟩ := h
    rfl
  obtain ⟨R, cs, S, lo, rfl, g, q⟩ := h
  have clR := T.own.clR
  have nc := T.own.commons
  have clC := T.own.tC.cl
  have nn := T.own.number
  obtain ⟨dr, er⟩ := g.run
  have ec := g.com
  refine ⟨_, (pss_one (ps_ret (pe_callTy (cTuple (K := K)) (by rfl) T.tuple (by decide +kernel) (pa_cons (pe_lc (own := [("cell", 1)]) (g := gName 1) (by rfl) scnumbers_of.nd (piList (K := K) (peFld (K := K) (pv 0) rfl)) (blkOk_by (own := [("cell", 1)]) (N := nnumbers_of) (sc := defScope snumbers_of) (by decide +kernel)) (fun _ _ _ _ _ => (pg_name (i := 1) scnumbers_of.nd rfl (Or.inl rfl))) (fun _ _ _ _ _ => pts_nil) (fun _ _ _ _ _ => (peFld (K := K) (pv 1) rfl))) pa_nil)))), ?_⟩
  walk_at "rd"
  refine lcL (xs := (cs.take 3).map fun c => V.ref c.1) (fun E i H' => H E = none ∧ Keep [] H H' ∧ H' E = some (.lst (nums ((S.at_.take 3).take i)))) (fun E H1 nE e1 k1 => ⟨nE, k1, by rw [List.take_zero]; exact e1⟩) (fun E i H1 hi hp => SqL.of (hp.2.1 _ _ ec (by simp))) (fun E i x H1 hx hp => ?_) (fun E H1 hp => ?_)
  · obtain ⟨nE, k1, e1⟩ := hp
    rw [List.getElem?_map] at hx
    obtain ⟨c, hc, rfl⟩ := Option.map_eq_some_iff.mp hx
    have i3 : i < 3 := by
      have := (List.getElem?_eq_some_iff.mp hc).1
      rw [List.length_take] at this
      omega
    rw [List.getElem?_take_of_lt i3] at hc
    obtain ⟨dx, m, L, q1, q2, q3, q4⟩ := (g.keep0 k1).cell i c hc
    have lt : (nums ((S.at_.take 3).take i)).length ≤ 1000 := by rw [nums_len, List.length_take, List.length_take]; omega
    walk_at "rd"
    refine ⟨rfl, ?_⟩
    walk_at "rd"
    intro H2 h2 k2
    refine ⟨nE, k1.fresh1 k2 nE, ?_⟩
    have e : (S.at_.take 3).take (i + 1) = (S.at_.take 3).take i ++ [m] := by
      rw [List.take_add_one, List.getElem?_take_of_lt i3, q1]
      rfl
    rw [e, nums_app]
    exact h2
  · obtain ⟨nE, k1, e1⟩ := hp
    rw [List.length_map, List.length_take, g.len] at e1
    have e : (S.at_.take 3).take (min 3 S.at_.length) = S.at_.take 3 := List.take_of_length_le (by rw [List.length_take]; exact Nat.le_refl _)
    rw [e] at e1
    walk_at "rd"
    intro ta H2 nta h2 k2
    exact q ta H2 (k1.trans k2) (SqT.of h2)
end
end Hw
namespace Hw
open PySem PySem.Spec PyProof.Rows L2
section
variable {P : Program} {w : World} {K : PySem.W.Frag} {mg : Str → Option Value} {base : Heap}
/-! ### all tuples of three numbers -/
/-- some of all tuples of three numbers -/
def Some27 (K : PySem.W.Frag) (H : Hp) (xs : List V) : Prop := ∀ v ∈ xs, ∃ (t : Addr) (i : Nat), v = .ref t ∧ i < 27 ∧ SqT K H t (cellsOf i)
def cells3 (i : Nat) : List Nat := [i / 9, i / 3 % 3, i % 3]
theorem cellsOf_nums {i : Nat} : cellsOf i = nums (cells3 i) := by
  unfold cellsOf nums cells3
  simp
theorem dp_nums {H : Hp} : ∀ {l : List Nat}, DpAll K H (nums l) (l.map fun (n : Nat) => PyData.int (n : Int))
  | [] => .nil
  | n :: l => .cons (.int _) dp_nums
theorem plain_nums {n : Nat} {l : List Nat} : ∀ e ∈ l.map (fun (n : Nat) => PyData.int (n : Int)), plain (n + 1) e := fun e he => by
  obtain ⟨k, _, rfl⟩ := List.mem_map.mp he
  unfold plain
  trivial
end
end Hw
namespace Hw
open PySem PySem.Spec PyProof.Rows L2
local macro_rules | `(tactic| walk_at "sz") => `(tactic| first | exact Nat.le_of_ble_eq_true rfl | exact small (by first | omega | (simp; done) | (simp; omega)))
local macro_rules | `(tactic| walk_at "szT") => `(tactic| first | exact Nat.lt_of_lt_of_le (Nat.lt_succ_self _) (Nat.le_of_ble_eq_true rfl) | exact smallT (by first | omega | (simp; done) | (simp; omega)))
local macro_rules | `(tactic| walk_at "cond") => `(tactic| first | decide | omega | (dsimp only; omega) | exact ⟨by omega, by omega⟩ | exact .inr ⟨by decide, by decide⟩)
local macro_rules | `(tactic| walk_at "sq") => `(tactic| first | assumption | exact SqL.of (by assumption) | exact SqT.of (by assumption))
local macro_rules | `(tactic| walk_at "ty") => `(tactic| first | (with_reducible assumption) | exact .base (.int _) | exact .base (.str _) | exact .base (.bl _) | exact .base .non | exact tyT (by walk_at "sq") | exact tyL (by walk_at "sq"))
local macro_rules | `(tactic| walk_at "rd1") => `(tactic| first
  | ((with_reducible apply r_seq))
  | ((with_reducible apply r_asg))
  | ((with_reducible apply r_name))
  | ((with_reducible apply r_op))
  | ((with_reducible apply r_var); exact rfl)
  | ((with_reducible apply r_c))
  | ((with_reducible apply r_ixT); (walk_at "sq"); first | exact rfl | assumption)
  | ((with_reducible apply r_ixL); (walk_at "sq"); first | exact rfl | assumption)
  | ((with_reducible apply r_ixA); (first | exact .inl (by walk_at "sq") | exact .inr (by walk_at "sq")); first | exact rfl | assumption)
  | ((with_reducible apply r_isi); (walk_at "ty"); (decide +kernel))
  | ((with_reducible apply r_isiT2); assumption; (walk_at "ty"); (decide +kernel); (decide +kernel))
  | ((with_reducible apply r_I0))
  | ((with_reducible apply r_I); (walk_at "cond"))
  | ((with_reducible apply r_eq); exact rfl)
  | ((with_reducible apply r_ne); exact rfl)
  | ((with_reducible apply r_test))
  | ((with_reducible apply r_bl))
  | ((with_reducible apply r_if))
  | ((with_reducible apply r_nil))
  | ((with_reducible apply r_cons))
  | ((with_reducible apply r_call))
  | ((with_reducible apply r_cb))
  | ((with_reducible apply r_tup))
  | ((with_reducible apply r_lst))
  | ((with_reducible apply new); (walk_at "sz"))
  | ((with_reducible apply r_ret))
  | ((with_reducible apply r_retN))
  | ((with_reducible apply r_next))
  | ((with_reducible apply r_drop))
  | ((with_reducible apply r_lenL); (walk_at "sq"))
  | ((with_reducible apply r_lenT); (walk_at "sq"))
  | ((with_reducible apply r_int))
  | ((with_reducible apply r_intB))
  | ((with_reducible apply r_isN))
  | ((with_reducible apply r_notN))
  | ((with_reducible apply r_B))
  | ((with_reducible apply r_not))
  | ((with_reducible apply r_notV))
  | ((with_reducible apply r_andV))
  | ((with_reducible apply r_orV))
  | ((with_reducible apply r_ifE))
  | ((with_reducible apply r_chain))
  | ((with_reducible apply ite_t); (first | (with_reducible exact nRN) | (with_reducible exact nIN) | (with_reducible exact dNN) | decide +kernel))
  | ((with_reducible apply ite_f); (first | (with_reducible exact dRN) | (with_reducible exact dIN) | (with_reducible exact nNN) | decide +kernel))
  | ((with_reducible apply r_in); (first | exact .inl (by walk_at "sq") | exact .inr (by walk_at "sq")); exact rfl; (first | exact nums_flat | exact rfl))
  | ((with_reducible apply turn))
  | ((with_reducible apply r_for))
  | ((with_reducible apply r_iRng1))
  | ((with_reducible apply r_rng); (first | decide | omega | (simp; omega)); (first | decide | omega | (simp; omega)))
  | ((with_reducible apply r_iList))
  | ((with_reducible apply r_iTup))
  | ((with_reducible apply r_overL); (walk_at "sq"))
  | ((with_reducible apply r_overT); (walk_at "sq"))
  | ((with_reducible apply r_lc))
  | ((with_reducible apply acc); assumption; (walk_at "szT"))
  | ((with_reducible apply r_sub))
  | ((with_reducible apply r_setL); assumption; exact rfl)
  | ((with_reducible apply r_gtup); (walk_at "sq"); rfl)
  | ((with_reducible apply r_gnil))
  | ((with_reducible apply r_gcons))
  | ((with_reducible apply r_par))
  | ((with_reducible apply r_par2))
  | ((with_reducible apply r_sl))
  | ((with_reducible apply r_part))
  | ((with_reducible apply r_part1))
  | ((with_reducible apply r_noPart))
  | ((with_reducible apply r_slL); (walk_at "sq"))
  | ((with_reducible apply r_slA); (walk_at "sq"))
  | ((with_reducible apply r_tupL); (walk_at "sq"))
  | ((with_reducible apply r_tupT); (walk_at "sq"))
  | ((with_reducible apply r_lstL); (walk_at "sq"))
  | ((with_reducible apply r_lstT); (walk_at "sq"))
  | ((with_reducible apply r_append))
  | ((with_reducible apply r_isL); (walk_at "sq"))
  | ((with_reducible apply r_app); assumption; (walk_at "szT"))
  | ((with_reducible apply r_dget))
  | ((with_reducible apply r_dgetS); assumption; (walk_at "dk"))
  | ((with_reducible apply r_dput))
  | ((with_reducible apply r_dputS); assumption; (walk_at "szT"))
  | ((with_reducible apply r_disp))
  | ((with_reducible apply r_pnil))
  | ((with_reducible apply r_pcons))
  | ((with_reducible apply r_fld))
  | ((with_reducible apply r_fld1); assumption; assumption; assumption; (first | exact rfl | assumption))
  | ((with_reducible apply r_sfld))
  | ((with_reducible apply r_sfld1); assumption; assumption; assumption; exact (by decide)))
local macro_rules | `(tactic| walk_at "rd") => `(tactic| repeat walk_at "rd1")
local macro_rules | `(tactic| walk_at "lk") => `(tactic| first | (with_reducible exact cell_number) | (with_reducible exact cell_loans) | (with_reducible exact frame_owns) | (with_reducible exact frame_handed) | (with_reducible exact frame_roads) | (with_reducible exact want_thing) | (with_reducible exact want_frame) | (with_reducible exact run_program) | (with_reducible exact run_ways) | (with_reducible exact run_commons) | (with_reducible exact run_said) | (with_reducible exact run_lent) | (with_reducible exact run_mixed))
local macro_rules | `(tactic| walk_at "rd1") => `(tactic| first
  | ((with_reducible apply r_enumT))
  | ((with_reducible apply r_overE); (walk_at "sq"))
  | ((with_reducible apply r_zipA))
  | ((with_reducible apply r_zipT); (walk_at "sq"); (walk_at "sq"))
  | ((with_reducible apply r_zip3))
  | ((with_reducible apply r_overZ3); (walk_at "sq"); (walk_at "sq"); (walk_at "sq"))
  | ((with_reducible apply r_make))
  | ((with_reducible apply r_isiC); assumption; assumption; assumption)
  | ((with_reducible apply r_popM))
  | ((with_reducible apply r_pop); assumption)
  | ((with_reducible apply r_tru))
  | ((with_reducible apply r_truL); (walk_at "sq"))
  | ((with_reducible apply r_fld1); assumption; assumption; assumption; (walk_at "lk"))
  | ((with_reducible apply r_sfld1); assumption; assumption; assumption; exact Nat.le_of_ble_eq_true rfl))
local macro_rules | `(tactic| walk_at "rd1") => `(tactic| (with_reducible apply r_lc2))
section
variable {P : Program} {w : World} {K : PySem.W.Frag} {mg : Str → Option Value} {base : Heap}
/-! ### beside.py: all_cells -/
inductive RelL (K : PySem.W.Frag) (H : Hp) : List V → List (List Nat) → Prop
  | nil : RelL K H [] []
  | cons {t : Addr} {l : List Nat} {vs : List V} {ls : List (List Nat)} : SqT K H t (nums l) → RelL K H vs ls → RelL K H (.ref t :: vs) (l :: ls)
theorem RelL.ts {H H1 : Hp} (t : Tst H H1) : ∀ {ls : List (List Nat)} {vs : List V}, RelL K H vs ls → RelL K H1 vs ls
  | [], _, h => by cases h; exact .nil
  | l :: ls, _, h => by
    cases h with
    | cons h1 h2 => exact .cons (t.sqT h1) (RelL.ts t h2)
theorem RelL.app {H : Hp} : ∀ {ls ls' : List (List Nat)} {vs vs' : List V}, RelL K H vs ls → RelL K H vs' ls' → RelL K H (vs ++ vs') (ls ++ ls')
  | [], _, _, _, h, h' => by cases h; exact h'
  | l :: ls, _, _, _, h, h' => by
    cases h with
    | cons h1 h2 => exact .cons h1 (RelL.app h2 h')
theorem RelL.len {H : Hp} : ∀ {ls : List (List Nat)} {vs : List V}, RelL K H vs ls → vs.length = ls.length
  | [], _, h => by cases h; rfl
  | l :: ls, _, h => by
    cases h with
    | cons h1 h2 => rw [List.length_cons, List.length_cons, RelL.len h2]
theorem RelL.get {H : Hp} : ∀ {ls : List (List Nat)} {vs : List V} {i : Nat} {v : V}, RelL K H vs ls → vs[i]? = some v → ∃ t l, v = .ref t ∧ ls[i]? = some l ∧ SqT K H t (nums l)
  | [], _, _, _, h, e => by cases h; simp at e
  | l :: ls, _, 0, v, h, e => by
    cases h with
    | cons h1 h2 =>
      simp at e
      subst e
      exact ⟨_, l, rfl, rfl, h1⟩
  | l :: ls, _, i + 1, v, h, e => by
    cases h with
    | cons h1 h2 =>
      obtain ⟨t, l', q1, q2, q3⟩ := RelL.get (i := i) h2 (by simpa using e)
      exact ⟨t, l', q1, by simpa using q2, q3⟩
def allT : Nat → List (List Nat)
  | 0 => [[]]
  | k + 1 => (allT k).flatMap fun c => [c ++ [0], c ++ [1], c ++ [2]]
theorem allT_len : ∀ k, k ≤ 3 → (allT k).length ≤ 27 ∧ ∀ l ∈ allT k, l.length ≤ 3 := by decide +kernel
theorem allT_3 : allT 3 = (List.range 27).map cells3 := by decide +kernel
def spAllCells (K : PySem.W.Frag) : Sp := fun vs H Q _ => vs = [] ∧ ∀ (p : Addr) (H' : Hp) (xs : List V), H p = none → Keep [] H H' → H' p = some (.lst xs) → RelL K H' xs ((List.range 27).map cells3) → Q (.ref p) H'
abbrev sall_cells : Stmt := top 46
abbrev nall_cells : List Str := ["told", "k", "cells", "number"]
abbrev pall_cells : List Str := []
theorem scall_cells : FnScope nall_cells pall_cells (defScope sall_cells) := ⟨rfl, rfl, rfl, by decide +kernel, rfl, by decide +kernel, by decide +kernel⟩
theorem okAllCells {tk : Nat → Tok} (D : DefAt K mg "all_cells" sall_cells pall_cells) (T : Nrs tk mg) : Callee P w K mg base "all_cells" 1 pall_cells (spAllCells K) := by
  refine D.ok scall_cells (fun vs H Q E h => ?_) (fun f cdv A outer s H vs Q E hr h => ?_)
  · obtain ⟨rfl, _⟩ := h
    rfl
  obtain ⟨rfl, q⟩ := h
  refine ⟨_, (pss_cons (ps_set (i := 0) scall_cells.nd rfl (Or.inl rfl) (pe_lst (pa_cons (pe_tup pa_nil) pa_nil)))
  (pss_cons (ps_for PassesOwn.never rfl (pi_range1 rfl T.range (pa_cons (pe_glob (v := .int 3) rfl T.COMMON_CELLS ⟨_, rfl⟩) pa_nil)) (pg_name (i := 1) scall_cells.nd rfl (Or.inl rfl))
   (pss_one (ps_setLc2 (i := 0) (own := [("cells", 2), ("number", 3)]) (g := gName 2) (g1 := gName 3) (vs1 := [3]) (by rfl) scall_cells.nd rfl rfl (sw_true rfl rfl rfl (by decide +kernel)) (piList (K := K) (pv 0)) (blkOk_by (own := [("cells", 2), ("number", 3)]) (N := nall_cells) (sc := defScope sall_cells) (by decide +kernel)) (by decide) (fun _ _ _ _ _ => (pg_name (i := 2) scall_cells.nd rfl (Or.inl rfl))) (fun _ _ _ _ _ => pts_nil) (fun _ _ _ _ _ => (pi_range1 rfl T.range (pa_cons (pe_glob (v := .int 3) rfl T.NUMBERS ⟨_, rfl⟩) pa_nil))) (fun _ _ _ _ _ => (pg_name (i := 3) scall_cells.nd rfl (Or.inl rfl))) (fun _ _ _ _ _ => pts_nil) (fun _ _ _ _ _ => (pe_op (opCatA (K := K)) (pv 2) (pe_tup (pa_cons (pv 3) pa_nil)))))))
  (pss_one (ps_ret (pv 0))))), ?_⟩
  walk_at "rd"
  intro t0 H1 nt0 ht0 k1
  walk_at "rd"
  intro p0 H2 np0 hp0 k2
  walk_at "rd"
  refine forR (fun i σ H' => ∃ (p : Addr) (x1 : Option V) (xs : List V), σ = [some (.ref p), x1, none, none] ∧ H p = none ∧ Keep [] H H' ∧ H' p = some (.lst xs) ∧ RelL K H' xs (allT i)) ⟨p0, _, _, rfl, free0 k1 np0, k1.trans k2, hp0, .cons ((kts0 k2).sqT (SqT.of ht0)) .nil⟩ (fun i σ H3 hi hp => ?_) (fun σ H3 hp => ?_)
  · obtain ⟨p, x1, xs, rfl, np, k3, h3, r3⟩ := hp
    have i3 : i < 3 := hi
    obtain ⟨la, lb⟩ := allT_len i (by omega)
    walk_at "rd"
    refine lc2L (xs := xs) (fun E j H' => H3 E = none ∧ Keep [] H3 H' ∧ ∃ ys, H' E = some (.lst ys) ∧ RelL K H' ys (((allT i).take j).flatMap fun c => [c ++ [0], c ++ [1], c ++ [2]])) (fun E H4 nE e4 k4 => ⟨nE, k4, [], e4, by rw [List.take_zero]; exact .nil⟩) (fun E j H4 hj hp => SqL.of (hp.2.1 _ _ h3 (by simp))) (fun E j x H4 hx hp => ?_) (fun E H4 hp => ?_)
    · obtain ⟨nE, k4, ys, e4, r4⟩ := hp
      obtain ⟨t, l, rfl, el, ht⟩ := r3.get hx
      have ht4 := (kts0 k4).sqT ht
      have ll := lb l (List.mem_of_getElem? el)
      have jl : j < 27 := by
        have := (List.getElem?_eq_some_iff.mp el).1
        omega
      have ly : ys.length ≤ 3 * j := by
        rw [r4.len, List.length_flatMap]
        have : ((allT i).take j).length ≤ j := by rw [List.length_take]; omega
        have e : (List.map (fun c : List Nat => [c ++ [0], c ++ [1], c ++ [2]].length) ((allT i).take j)).sum = 3 * ((allT i).take j).length := by
          generalize (allT i).take j = z
          induction z with
          | nil => rfl
          | cons a z ih =>
            rw [List.map_cons, List.sum_cons, ih]
            show 3 + 3 * z.length = 3 * (z.length + 1)
            omega
        omega
      walk_at "rd"
      refine ⟨rfl, ?_⟩
      walk_at "rd"
      refine inR (fun m H' => H3 E = none ∧ Keep [] H3 H' ∧ SqT K H' t (nums l) ∧ ∃ ys, H' E = some (.lst ys) ∧ ys.length ≤ 3 * j + m ∧ RelL K H' ys ((((allT i).take j).flatMap fun c => [c ++ [0], c ++ [1], c ++ [2]]) ++ (List.range m).map fun m => l ++ [m])) ⟨nE, k4, ht4, ys, e4, ly, by rw [List.range_zero, List.map_nil, List.append_nil]; exact r4⟩ (fun m H5 hm hp => ?_) (fun H5 hp => ?_)
      · obtain ⟨nE, k5, ht5, zs, e5, lz, r5⟩ := hp
        have hm3 : m < 3 := hm
        walk_at "rd"
        refine ⟨rfl, ?_⟩
        walk_at "rd"
        intro t2 H6 nt2 ht2 k6
        have ht6 := (kts0 k6).sqT ht5
        walk_at "rd"
        refine r_catA ht6 (SqT.of ht2) (small (by rw [nums_len]; show l.length + 1 ≤ 100000; omega)) fun t3 H7 hS7 k7 fr7 => ?_
        have e7 := k7 _ _ (k6 _ _ e5 (by simp)) (by simp)
        have lz' : zs.length ≤ 1000 := by omega
        walk_at "rd"
        intro H8 e8 k8
        have t78 : Tst H7 H8 := k8.ts fun x hx => by cases List.mem_singleton.mp hx; exact .inl ⟨_, e7⟩
        refine ⟨nE, (((k5.trans k6).trans k7).fresh1 k8 nE), t78.sqT ((kts0 k7).sqT ht6), _, e8, by rw [List.length_append, List.length_singleton]; omega, ?_⟩
        rw [List.range_succ, List.map_append, ← List.append_assoc]
        exact ((r5.ts (((kts0 k6).trans (kts0 k7)).trans t78)).app (.cons (t78.sqT (by
          have e : nums (l ++ [m]) = nums l ++ [V.int (m : Int)] := nums_app
          rw [e]; exact hS7)) .nil))
      · obtain ⟨nE, k5, ht5, zs, e5, lz, r5⟩ := hp
        refine ⟨nE, k5, zs, e5, ?_⟩
        rw [List.take_add_one, el, List.flatMap_append]
        exact r5
    · obtain ⟨nE, k4, ys, e4, r4⟩ := hp
      rw [r3.len, List.take_length] at r4
      walk_at "rd"
      exact ⟨E, _, ys, rfl, free0 k3 nE, k3.trans k4, e4, r4⟩
  · obtain ⟨p, x1, xs, rfl, np, k3, h3, r3⟩ := hp
    walk_at "rd"
    have r3' : RelL K H3 xs (allT 3) := r3
    rw [allT_3] at r3'
    exact q p H3 xs np k3 h3 r3'
end
end Hw
namespace Hw
open PySem PySem.Spec PyProof.Rows L2
local macro_rules | `(tactic| walk_at "sz") => `(tactic| first | exact Nat.le_of_ble_eq_true rfl | exact small (by first | omega | (simp; done) | (simp; omega)))
local macro_rules | `(tactic| walk_at "szT") => `(tactic| first | exact Nat.lt_of_lt_of_le (Nat.lt_succ_self _) (Nat.le_of_ble_eq_true rfl) | exact smallT (by first | omega | (simp; done) | (simp; omega)))
local macro_rules | `(tactic| walk_at "cond") => `(tactic| first | decide | omega | (dsimp only; omega) | exact ⟨by omega, by omega⟩ | exact .inr ⟨by decide, by decide⟩)
local macro_rules | `(tactic| walk_at "sq") => `(tactic| first | assumption | exact SqL.of (by assumption) | exact SqT.of (by assumption))
local macro_rules | `(tactic| walk_at "ty") => `(tactic| first | (with_reducible assumption) | exact .base (.int _) | exact .base (.str _) | exact .base (.bl _) | exact .base .non | exact tyT (by walk_at "sq") | exact tyL (by walk_at "sq"))
local macro_rules | `(tactic| walk_at "rd1") => `(tactic| first
  | ((with_reducible apply r_seq))
  | ((with_reducible apply r_asg))
  | ((with_reducible apply r_name))
  | ((with_reducible apply r_op))
  | ((with_reducible apply r_var); exact rfl)
  | ((with_reducible apply r_c))
  | ((with_reducible apply r_ixT); (walk_at "sq"); first | exact rfl | assumption)
  | ((with_reducible apply r_ixL); (walk_at "sq"); first | exact rfl | assumption)
  | ((with_reducible apply r_ixA); (first | exact .inl (by walk_at "sq") | exact .inr (by walk_at "sq")); first | exact rfl | assumption)
  | ((with_reducible apply r_isi); (walk_at "ty"); (decide +kernel))
  | ((with_reducible apply r_isiT2); assumption; (walk_at "ty"); (decide +kernel); (decide +kernel))
  | ((with_reducible apply r_I0))
  | ((with_reducible apply r_I); (walk_at "cond"))
  | ((with_reducible apply r_eq); exact rfl)
  | ((with_reducible apply r_ne); exact rfl)
  | ((with_reducible apply r_test))
  | ((with_reducible apply r_bl))
  | ((with_reducible apply r_if))
  | ((with_reducible apply r_nil))
  | ((with_reducible apply r_cons))
  | ((with_reducible apply r_call))
  | ((with_reducible apply r_cb))
  | ((with_reducible apply r_tup))
  | ((with_reducible apply r_lst))
  | ((with_reducible apply new); (walk_at "sz"))
  | ((with_reducible apply r_ret))
  | ((with_reducible apply r_retN))
  | ((with_reducible apply r_next))
  | ((with_reducible apply r_drop))
  | ((with_reducible apply r_lenL); (walk_at "sq"))
  | ((with_reducible apply r_lenT); (walk_at "sq"))
  | ((with_reducible apply r_int))
  | ((with_reducible apply r_intB))
  | ((with_reducible apply r_isN))
  | ((with_reducible apply r_notN))
  | ((with_reducible apply r_B))
  | ((with_reducible apply r_not))
  | ((with_reducible apply r_notV))
  | ((with_reducible apply r_andV))
  | ((with_reducible apply r_orV))
  | ((with_reducible apply r_ifE))
  | ((with_reducible apply r_chain))
  | ((with_reducible apply ite_t); (first | (with_reducible exact nRN) | (with_reducible exact nIN) | (with_reducible exact dNN) | decide +kernel))
  | ((with_reducible apply ite_f); (first | (with_reducible exact dRN) | (with_reducible exact dIN) | (with_reducible exact nNN) | decide +kernel))
  | ((with_reducible apply r_in); (first | exact .inl (by walk_at "sq") | exact .inr (by walk_at "sq")); exact rfl; (first | exact nums_flat | exact rfl))
  | ((with_reducible apply turn))
  | ((with_reducible apply r_for))
  | ((with_reducible apply r_iRng1))
  | ((with_reducible apply r_rng); (first | decide | omega | (simp; omega)); (first | decide | omega | (simp; omega)))
  | ((with_reducible apply r_iList))
  | ((with_reducible apply r_iTup))
  | ((with_reducible apply r_overL); (walk_at "sq"))
  | ((with_reducible apply r_overT); (walk_at "sq"))
  | ((with_reducible apply r_lc))
  | ((with_reducible apply acc); assumption; (walk_at "szT"))
  | ((with_reducible apply r_sub))
  | ((with_reducible apply r_setL); assumption; exact rfl)
  | ((with_reducible apply r_gtup); (walk_at "sq"); rfl)
  | ((with_reducible apply r_gnil))
  | ((with_reducible apply r_gcons))
  | ((with_reducible apply r_par))
  | ((with_reducible apply r_par2))
  | ((with_reducible apply r_sl))
  | ((with_reducible apply r_part))
  | ((with_reducible apply r_part1))
  | ((with_reducible apply r_noPart))
  | ((with_reducible apply r_slL); (walk_at "sq"))
  | ((with_reducible apply r_slA); (walk_at "sq"))
  | ((with_reducible apply r_tupL); (walk_at "sq"))
  | ((with_reducible apply r_tupT); (walk_at "sq"))
  | ((with_reducible apply r_lstL); (walk_at "sq"))
  | ((with_reducible apply r_lstT); (walk_at "sq"))
  | ((with_reducible apply r_append))
  | ((with_reducible apply r_isL); (walk_at "sq"))
  | ((with_reducible apply r_app); assumption; (walk_at "szT"))
  | ((with_reducible apply r_dget))
  | ((with_reducible apply r_dgetS); assumption; (walk_at "dk"))
  | ((with_reducible apply r_dput))
  | ((with_reducible apply r_dputS); assumption; (walk_at "szT"))
  | ((with_reducible apply r_disp))
  | ((with_reducible apply r_pnil))
  | ((with_reducible apply r_pcons))
  | ((with_reducible apply r_fld))
  | ((with_reducible apply r_fld1); assumption; assumption; assumption; (first | exact rfl | assumption))
  | ((with_reducible apply r_sfld))
  | ((with_reducible apply r_sfld1); assumption; assumption; assumption; exact (by decide)))
local macro_rules | `(tactic| walk_at "rd") => `(tactic| repeat walk_at "rd1")
local macro_rules | `(tactic| walk_at "lk") => `(tactic| first | (with_reducible exact cell_number) | (with_reducible exact cell_loans) | (with_reducible exact frame_owns) | (with_reducible exact frame_handed) | (with_reducible exact frame_roads) | (with_reducible exact want_thing) | (with_reducible exact want_frame) | (with_reducible exact run_program) | (with_reducible exact run_ways) | (with_reducible exact run_commons) | (with_reducible exact run_said) | (with_reducible exact run_lent) | (with_reducible exact run_mixed))
local macro_rules | `(tactic| walk_at "rd1") => `(tactic| first
  | ((with_reducible apply r_enumT))
  | ((with_reducible apply r_overE); (walk_at "sq"))
  | ((with_reducible apply r_zipA))
  | ((with_reducible apply r_zipT); (walk_at "sq"); (walk_at "sq"))
  | ((with_reducible apply r_zip3))
  | ((with_reducible apply r_overZ3); (walk_at "sq"); (walk_at "sq"); (walk_at "sq"))
  | ((with_reducible apply r_make))
  | ((with_reducible apply r_isiC); assumption; assumption; assumption)
  | ((with_reducible apply r_popM))
  | ((with_reducible apply r_pop); assumption)
  | ((with_reducible apply r_tru))
  | ((with_reducible apply r_truL); (walk_at "sq"))
  | ((with_reducible apply r_fld1); assumption; assumption; assumption; (walk_at "lk"))
  | ((with_reducible apply r_sfld1); assumption; assumption; assumption; exact Nat.le_of_ble_eq_true rfl))
section
variable {P : Program} {w : World} {K : PySem.W.Frag} {mg : Str → Option Value} {base : Heap}
/-! ### beside.py: mixed -/
def listD (l : List Nat) : PyData := .tuple (l.map fun (n : Nat) => PyData.int (n : Int))
/-- the first one of which p holds, as data -/
def firstD (p : List Nat → Bool) (ls : List (List Nat)) : PyData := match ls.find? p with
  | some l => listD l
  | none => .none
theorem find_hit' {p : List Nat → Bool} : ∀ {ls : List (List Nat)} {i : Nat} {l : List Nat}, (∀ j, j < i → ∀ x, ls[j]? = some x → p x = false) → ls[i]? = some l → p l = true → ls.find? p = some l
  | [], i, l, _, e, _ => by simp at e
  | a :: ls, 0, l, _, e, h => by
    simp at e
    subst e
    rw [List.find?_cons_of_pos h]
  | a :: ls, i + 1, l, n, e, h => by
    have ha := n 0 (by omega) a rfl
    rw [List.find?_cons_of_neg (by rw [ha]; exact Bool.false_ne_true)]
    exact find_hit' (i := i) (fun j hj x hx => n (j + 1) (by omega) x (by simpa using hx)) (by simpa using e) h
theorem find_no {p : List Nat → Bool} {ls : List (List Nat)} (n : ∀ j, j < ls.length → ∀ x, ls[j]? = some x → p x = false) : ls.find? p = none := by
  rw [List.find?_eq_none]
  intro x hx
  obtain ⟨i, hi⟩ := List.mem_iff_getElem?.mp hx
  rw [n i (List.getElem?_eq_some_iff.mp hi).1 x hi]
  exact Bool.false_ne_true
def mixAt (PP : List Wk) (W : List (List Str)) (l : List Nat) : Bool := match ranF PP W 30 15 l with
  | some S => S.mixed
  | none => false
def all27 : List (List Nat) := (List.range 27).map cells3
theorem all27_ok {i : Nat} {l : List Nat} (h : all27[i]? = some l) : l.length = 3 ∧ (∀ n ∈ l, n < 3) := by
  unfold all27 at h
  rw [List.getElem?_map] at h
  obtain ⟨k, _, rfl⟩ := Option.map_eq_some_iff.mp h
  refine ⟨rfl, fun n hn => ?_⟩
  have hk := (List.getElem?_eq_some_iff.mp (by assumption : (List.range 27)[i]? = some k))
  obtain ⟨hk1, hk2⟩ := hk
  rw [List.getElem_range] at hk2
  rw [List.length_range] at hk1
  unfold cells3 at hn
  simp only [List.mem_cons, List.not_mem_nil, or_false] at hn
  omega
theorem dp_list {H : Hp} {t : Addr} {l : List Nat} (h : SqT K H t (nums l)) : Dp K H (.ref t) (listD l) := .tup h dp_nums
/-- what a program and its ways must be -/
structure Pw (PP : List Wk) (W : List (List Str)) : Prop where
  m : ∃ mm, Good PP mm ∧ mm ≤ 70
  w : WaysOk PP W ways4
theorem Pw.hW {PP : List Wk} {W : List (List Str)} (h : Pw PP W) : ∀ (i : Nat) (w : Wk), PP[i]? = some w → ∃ ws, W[i]? = some ws ∧ ws.length = w.params := fun i w e => by
  have hi := (List.getElem?_eq_some_iff.mp e).1
  rw [← h.w.1] at hi
  have e2 : W[i]? = some W[i] := List.getElem?_eq_getElem hi
  exact ⟨_, e2, (h.w.2 i w _ e e2).1⟩
theorem Pw.lit {PP : List Wk} {W : List (List Str)} (h : Pw PP W) : ∀ wk ∈ PP, wk.body.lit := fun wk hwk => by
  obtain ⟨mm, gd, _⟩ := h.m
  obtain ⟨i, hi⟩ := List.mem_iff_getElem?.mp hwk
  exact Sts.ok_lit (gd.body i wk hi)
theorem Pw.run {H : Hp} {PP : List Wk} {W : List (List Str)} (h : Pw PP W) {vp vw : V} (hp : Rp K H vp (encP PP)) (hw : Rp K H vw (encW W)) : Run K H PP W vp vw := by
  obtain ⟨mm, gd, _⟩ := h.m
  refine ⟨hp, hw, fun w hw => by have := gd.owns w hw; omega, fun ws hws x hx => ?_, fun ws hws => ?_⟩
  · obtain ⟨i, hi⟩ := List.mem_iff_getElem?.mp hws
    have h1 := (List.getElem?_eq_some_iff.mp hi).1
    rw [h.w.1] at h1
    exact (h.w.2 i _ ws (List.getElem?_eq_getElem h1) hi).2 x hx
  · obtain ⟨i, hi⟩ := List.mem_iff_getElem?.mp hws
    have h1 := (List.getElem?_eq_some_iff.mp hi).1
    rw [h.w.1] at h1
    have := (h.w.2 i _ ws (List.getElem?_eq_getElem h1) hi).1
    have := gd.params _ (List.getElem_mem h1)
    omega
theorem Pw.ran {PP : List Wk} {W : List (List Str)} (h : Pw PP W) {i : Nat} {l : List Nat} (e : all27[i]? = some l) : ∃ S, ranF PP W 30 15 l = some S ∧ Fits S ∧ 3 ≤ S.at_.length := by
  obtain ⟨mm, gd, m7⟩ := h.m
  obtain ⟨l3, lc⟩ := all27_ok e
  obtain ⟨S, eS, z1, z2, z3, aok⟩ := ranF_ok gd m7 h.hW l3 lc
  exact ⟨S, eS, ⟨z1, z2, z3⟩, aok.l⟩
def spMixed (K : PySem.W.Frag) (PP : List Wk) (W : List (List Str)) : Sp := fun vs H Q _ => ∃ (vp vw : V), vs = [vp, vw] ∧ Rp K H vp (encP PP) ∧ Rp K H vw (encW W) ∧ Pw PP W ∧ ∀ (v : V) (H' : Hp), Keep [] H H' → Dp K H' v (firstD (mixAt PP W) all27) → Q v H'
abbrev smixed : Stmt := top 44
abbrev nmixed : List Str := ["program", "ways", "cells"]
abbrev pmixed : List Str := ["program", "ways"]
theorem scmixed : FnScope nmixed pmixed (defScope smixed) := ⟨rfl, rfl, rfl, by decide +kernel, rfl, by decide +kernel, by decide +kernel⟩
theorem okMixed {tk : Nat → Tok} {aP aW : Addr} {kl : Kl} {PP : List Wk} {W : List (List Str)} (D : DefAt K mg "mixed" smixed pmixed) (T : Prg K tk aP aW kl mg) (C_need_ways : Callee P w K mg base "need_ways" 19 pneed_ways (spNeedWays K)) (C_all_cells : Callee P w K mg base "all_cells" 1 pall_cells (spAllCells K))
    (C_done : Callee P w K mg base "done" 113 pdone (spDone K kl 30 PP W 16)) : Callee P w K mg base "mixed" 114 pmixed (spMixed K PP W) := by
  refine D.ok scmixed (fun vs H Q E h => ?_) (fun f cdv A outer s H vs Q E hr h => ?_)
  · obtain ⟨vp, vw, rfl, _⟩ := h
    rfl
  obtain ⟨vp, vw, rfl, hp, hw, pw, q⟩ := h
  obtain ⟨mm, gd, m7⟩ := pw.m
  have clR := T.own.clR
  have nm := T.own.mixed
  refine ⟨_, (pss_cons (ps_expr (pcall C_need_ways (hr.mono (by omega)) rfl (pa_cons (pv 0) (pa_cons (pv 1) pa_nil))))
  (pss_cons (ps_for PassesOwn.never rfl (piList (K := K) (pcall0 C_all_cells (hr.mono (by omega)) rfl)) (pg_name (i := 2) scmixed.nd rfl (Or.inl rfl))
   (pss_one (ps_if (pt_val (peFld (K := K) (pcall C_done (hr.mono (by omega)) rfl (pa_cons (pv 0) (pa_cons (pv 1) (pa_cons (pv 2) pa_nil)))) rfl)) (pss_one (ps_ret (pv 2))) pss_nil)))
  (pss_one (ps_ret pe_non)))), ?_⟩
  walk_at "rd"
  refine ask ⟨vp, vw, PP, W, mm, rfl, hp, hw, gd, by omega, pw.w, fun H1 k1 => ?_⟩
  walk_at "rd"
  refine ask ⟨rfl, fun pc H2 xs npc k2 h2 r2 => ?_⟩
  have k02 := k1.trans k2
  walk_at "rd"
  refine forL (xs := xs) (fun i σ H' => ∃ x2 : Option V, σ = [some vp, some vw, x2] ∧ Keep [] H2 H' ∧ ∀ j, j < i → ∀ x, all27[j]? = some x → mixAt PP W x = false) ⟨_, rfl, Keep.refl, fun j hj => by omega⟩ (fun i σ H' _ hp => ?_) (fun i x σ H3 hx hp2 => ?_) (fun σ H3 hp2 => ?_)
  · obtain ⟨x2, rfl, k3, n3⟩ := hp
    exact SqL.of (k3 _ _ h2 (by simp))
  · obtain ⟨x2, rfl, k3, n3⟩ := hp2
    obtain ⟨t, l, rfl, el, ht⟩ := r2.get hx
    have el' : all27[i]? = some l := el
    obtain ⟨S, eS, fit, _⟩ := pw.ran el'
    obtain ⟨l3, lc⟩ := all27_ok el'
    have k03 := k02.trans k3
    have em : mixAt PP W l = S.mixed := by unfold mixAt; rw [eS]
    walk_at "rd"
    refine ask ⟨vp, vw, t, l, S, 15, rfl, pw.run (hp.ts (kts0 k03)) (hw.ts (kts0 k03)), (kts0 k3).sqT ht, l3, lc, pw.lit, by omega, eS, fit, fun R cs H4 k4 g4 nls => ?_⟩
    obtain ⟨dr, er⟩ := g4.run
    walk_at "rd"
    refine cases_b S.mixed (fun c => ?_) (fun c => ?_)
    · rw [if_pos c]
      walk_at "rd"
      refine q _ H4 (k03.trans k4) ?_
      unfold firstD
      rw [find_hit' n3 el' (em.trans c)]
      exact dp_list (((kts0 k3).trans (kts0 k4)).sqT ht)
    · rw [if_neg (by rw [c]; exact Bool.false_ne_true)]
      walk_at "rd"
      refine ⟨_, rfl, k3.trans k4, fun j hj x hx' => ?_⟩
      by_cases cj : j < i
      · exact n3 j cj x hx'
      · have : j = i := by omega
        subst this
        rw [el'] at hx'
        cases hx'
        exact em.trans c
  · obtain ⟨x2, rfl, k3, n3⟩ := hp2
    walk_at "rd"
    refine q _ H3 (k02.trans k3) ?_
    unfold firstD
    rw [find_no fun j hj x hx => n3 j (by rw [r2.len]; exact hj) x hx]
    exact .non
end
end Hw
namespace Hw
open PySem PySem.Spec PyProof.Rows L2
local macro_rules | `(tactic| walk_at "sz") => `(tactic| first | exact Nat.le_of_ble_eq_true rfl | exact small (by first | omega | (simp; done) | (simp; omega)))
local macro_rules | `(tactic| walk_at "szT") => `(tactic| first | exact Nat.lt_of_lt_of_le (Nat.lt_succ_self _) (Nat.le_of_ble_eq_true rfl) | exact smallT (by first | omega | (simp; done) | (simp; omega)))
local macro_rules | `(tactic| walk_at "cond") => `(tactic| first | decide | omega | (dsimp only; omega) | exact ⟨by omega, by omega⟩ | exact .inr ⟨by decide, by decide⟩)
local macro_rules | `(tactic| walk_at "sq") => `(tactic| first | assumption | exact SqL.of (by assumption) | exact SqT.of (by assumption))
local macro_rules | `(tactic| walk_at "ty") => `(tactic| first | (with_reducible assumption) | exact .base (.int _) | exact .base (.str _) | exact .base (.bl _) | exact .base .non | exact tyT (by walk_at "sq") | exact tyL (by walk_at "sq"))
local macro_rules | `(tactic| walk_at "rd1") => `(tactic| first
  | ((with_reducible apply r_seq))
  | ((with_reducible apply r_asg))
  | ((with_reducible apply r_name))
  | ((with_reducible apply r_op))
  | ((with_reducible apply r_var); exact rfl)
  | ((with_reducible apply r_c))
  | ((with_reducible apply r_ixT); (walk_at "sq"); first | exact rfl | assumption)
  | ((with_reducible apply r_ixL); (walk_at "sq"); first | exact rfl | assumption)
  | ((with_reducible apply r_ixA); (first | exact .inl (by walk_at "sq") | exact .inr (by walk_at "sq")); first | exact rfl | assumption)
  | ((with_reducible apply r_isi); (walk_at "ty"); (decide +kernel))
  | ((with_reducible apply r_isiT2); assumption; (walk_at "ty"); (decide +kernel); (decide +kernel))
  | ((with_reducible apply r_I0))
  | ((with_reducible apply r_I); (walk_at "cond"))
  | ((with_reducible apply r_eq); exact rfl)
  | ((with_reducible apply r_ne); exact rfl)
  | ((with_reducible apply r_test))
  | ((with_reducible apply r_bl))
  | ((with_reducible apply r_if))
  | ((with_reducible apply r_nil))
  | ((with_reducible apply r_cons))
  | ((with_reducible apply r_call))
  | ((with_reducible apply r_cb))
  | ((with_reducible apply r_tup))
  | ((with_reducible apply r_lst))
  | ((with_reducible apply new); (walk_at "sz"))
  | ((with_reducible apply r_ret))
  | ((with_reducible apply r_retN))
  | ((with_reducible apply r_next))
  | ((with_reducible apply r_drop))
  | ((with_reducible apply r_lenL); (walk_at "sq"))
  | ((with_reducible apply r_lenT); (walk_at "sq"))
  | ((with_reducible apply r_int))
  | ((with_reducible apply r_intB))
  | ((with_reducible apply r_isN))
  | ((with_reducible apply r_notN))
  | ((with_reducible apply r_B))
  | ((with_reducible apply r_not))
  | ((with_reducible apply r_notV))
  | ((with_reducible apply r_andV))
  | ((with_reducible apply r_orV))
  | ((with_reducible apply r_ifE))
  | ((with_reducible apply r_chain))
  | ((with_reducible apply ite_t); (first | (with_reducible exact nRN) | (with_reducible exact nIN) | (with_reducible exact dNN) | decide +kernel))
  | ((with_reducible apply ite_f); (first | (with_reducible exact dRN) | (with_reducible exact dIN) | (with_reducible exact nNN) | decide +kernel))
  | ((with_reducible apply r_in); (first | exact .inl (by walk_at "sq") | exact .inr (by walk_at "sq")); exact rfl; (first | exact nums_flat | exact rfl))
  | ((with_reducible apply turn))
  | ((with_reducible apply r_for))
  | ((with_reducible apply r_iRng1))
  | ((with_reducible apply r_rng); (first | decide | omega | (simp; omega)); (first | decide | omega | (simp; omega)))
  | ((with_reducible apply r_iList))
  | ((with_reducible apply r_iTup))
  | ((with_reducible apply r_overL); (walk_at "sq"))
  | ((with_reducible apply r_overT); (walk_at "sq"))
  | ((with_reducible apply r_lc))
  | ((with_reducible apply acc); assumption; (walk_at "szT"))
  | ((with_reducible apply r_sub))
  | ((with_reducible apply r_setL); assumption; exact rfl)
  | ((with_reducible apply r_gtup); (walk_at "sq"); rfl)
  | ((with_reducible apply r_gnil))
  | ((with_reducible apply r_gcons))
  | ((with_reducible apply r_par))
  | ((with_reducible apply r_par2))
  | ((with_reducible apply r_sl))
  | ((with_reducible apply r_part))
  | ((with_reducible apply r_part1))
  | ((with_reducible apply r_noPart))
  | ((with_reducible apply r_slL); (walk_at "sq"))
  | ((with_reducible apply r_slA); (walk_at "sq"))
  | ((with_reducible apply r_tupL); (walk_at "sq"))
  | ((with_reducible apply r_tupT); (walk_at "sq"))
  | ((with_reducible apply r_lstL); (walk_at "sq"))
  | ((with_reducible apply r_lstT); (walk_at "sq"))
  | ((with_reducible apply r_append))
  | ((with_reducible apply r_isL); (walk_at "sq"))
  | ((with_reducible apply r_app); assumption; (walk_at "szT"))
  | ((with_reducible apply r_dget))
  | ((with_reducible apply r_dgetS); assumption; (walk_at "dk"))
  | ((with_reducible apply r_dput))
  | ((with_reducible apply r_dputS); assumption; (walk_at "szT"))
  | ((with_reducible apply r_disp))
  | ((with_reducible apply r_pnil))
  | ((with_reducible apply r_pcons))
  | ((with_reducible apply r_fld))
  | ((with_reducible apply r_fld1); assumption; assumption; assumption; (first | exact rfl | assumption))
  | ((with_reducible apply r_sfld))
  | ((with_reducible apply r_sfld1); assumption; assumption; assumption; exact (by decide)))
local macro_rules | `(tactic| walk_at "rd") => `(tactic| repeat walk_at "rd1")
local macro_rules | `(tactic| walk_at "lk") => `(tactic| first | (with_reducible exact cell_number) | (with_reducible exact cell_loans) | (with_reducible exact frame_owns) | (with_reducible exact frame_handed) | (with_reducible exact frame_roads) | (with_reducible exact want_thing) | (with_reducible exact want_frame) | (with_reducible exact run_program) | (with_reducible exact run_ways) | (with_reducible exact run_commons) | (with_reducible exact run_said) | (with_reducible exact run_lent) | (with_reducible exact run_mixed))
local macro_rules | `(tactic| walk_at "rd1") => `(tactic| first
  | ((with_reducible apply r_enumT))
  | ((with_reducible apply r_overE); (walk_at "sq"))
  | ((with_reducible apply r_zipA))
  | ((with_reducible apply r_zipT); (walk_at "sq"); (walk_at "sq"))
  | ((with_reducible apply r_zip3))
  | ((with_reducible apply r_overZ3); (walk_at "sq"); (walk_at "sq"); (walk_at "sq"))
  | ((with_reducible apply r_make))
  | ((with_reducible apply r_isiC); assumption; assumption; assumption)
  | ((with_reducible apply r_popM))
  | ((with_reducible apply r_pop); assumption)
  | ((with_reducible apply r_tru))
  | ((with_reducible apply r_truL); (walk_at "sq"))
  | ((with_reducible apply r_fld1); assumption; assumption; assumption; (walk_at "lk"))
  | ((with_reducible apply r_sfld1); assumption; assumption; assumption; exact Nat.le_of_ble_eq_true rfl))
section
variable {P : Program} {w : World} {K : PySem.W.Frag} {mg : Str → Option Value} {base : Heap}
/-! ### beside.py: outcome, parted -/
theorem canLay_ints : ∀ {l : List Nat}, PyData.canLayAll0 (l.map fun (n : Nat) => PyData.int (n : Int)) = true
  | [] => rfl
  | n :: l => by
    show (true && PyData.canLayAll0 (l.map fun (n : Nat) => PyData.int (n : Int))) = true
    rw [canLay_ints]
    rfl
theorem depth_ints : ∀ {l : List Nat}, PyData.depthAll (l.map fun (n : Nat) => PyData.int (n : Int)) ≤ 1
  | [] => by show 0 ≤ 1; omega
  | n :: l => by
    have := depth_ints (l := l)
    show max (PyData.depth (.int (n : Int))) (PyData.depthAll (l.map fun (n : Nat) => PyData.int (n : Int))) ≤ 1
    have e : PyData.depth (.int (n : Int)) ≤ 1 := by show 0 ≤ 1; omega
    omega
theorem eqv_ints : ∀ {a b : List Nat}, PyData.eqvAll (a.map fun (n : Nat) => PyData.int (n : Int)) (b.map fun (n : Nat) => PyData.int (n : Int)) = decide (a = b)
  | [], [] => rfl
  | [], _ :: _ => rfl
  | _ :: _, [] => rfl
  | x :: a, y :: b => by
    show (((x : Int) == (y : Int)) && PyData.eqvAll (a.map fun (n : Nat) => PyData.int (n : Int)) (b.map fun (n : Nat) => PyData.int (n : Int))) = decide (x :: a = y :: b)
    rw [eqv_ints, Bool.eq_iff_iff, Bool.and_eq_true, beq_iff_eq, decide_eq_true_eq, decide_eq_true_eq]
    constructor
    · rintro ⟨h1, rfl⟩
      have : x = y := by omega
      rw [this]
    · intro h
      cases h
      exact ⟨rfl, rfl⟩
def outD (S : LS) : PyData := .tuple [listD S.said, listD (S.at_.take 3)]
def outL (S : LS) : PyData := .tuple [.list (S.said.map fun (n : Nat) => PyData.int (n : Int)), listD (S.at_.take 3)]
theorem outD_shaped {S : LS} : SeqAt.shaped (outD S) = true := by
  unfold SeqAt.shaped
  rw [Bool.and_eq_true_iff]
  constructor
  · show (PyData.canLayAll0 (S.said.map fun (n : Nat) => PyData.int (n : Int)) && (PyData.canLayAll0 ((S.at_.take 3).map fun (n : Nat) => PyData.int (n : Int)) && true)) = true
    rw [canLay_ints, canLay_ints]
    rfl
  · have h1 := depth_ints (l := S.said)
    have h2 := depth_ints (l := S.at_.take 3)
    refine decide_eq_true ?_
    show max (PyData.depthAll (S.said.map fun (n : Nat) => PyData.int (n : Int)) + 1) (max (PyData.depthAll ((S.at_.take 3).map fun (n : Nat) => PyData.int (n : Int)) + 1) 0) + 1 ≤ 64
    omega
theorem outL_shaped {S : LS} : SeqAt.shaped (outL S) = true := outD_shaped (S := S)
theorem eqv_outD {S T : LS} : PyData.eqv (outD S) (outD T) = (decide (S.said = T.said) && decide (S.at_.take 3 = T.at_.take 3)) := by
  show (PyData.eqvAll (S.said.map fun (n : Nat) => PyData.int (n : Int)) (T.said.map fun (n : Nat) => PyData.int (n : Int)) && (PyData.eqvAll ((S.at_.take 3).map fun (n : Nat) => PyData.int (n : Int)) ((T.at_.take 3).map fun (n : Nat) => PyData.int (n : Int)) && true)) = _
  rw [eqv_ints, eqv_ints, Bool.and_true]
theorem eqv_outL {S T : LS} : PyData.eqv (outL S) (outL T) = (decide (S.said = T.said) && decide (S.at_.take 3 = T.at_.take 3)) := eqv_outD (S := S) (T := T)
/-- the runs come out unlike -/
def partAt (PP : List Wk) (W W2 : List (List Str)) (l : List Nat) : Bool := match ranF PP W 30 15 l, ranF PP W2 30 15 l with
  | some S, some T => !(decide (S.said = T.said) && decide (S.at_.take 3 = T.at_.take 3))
  | _, _ => false
theorem partAt_comm {PP : List Wk} {W W2 : List (List Str)} : partAt PP W W2 = partAt PP W2 W := by
  funext l
  unfold partAt
  cases ranF PP W 30 15 l with
  | none => cases ranF PP W2 30 15 l <;> rfl
  | some S =>
    cases ranF PP W2 30 15 l with
    | none => rfl
    | some T =>
      show (!(decide (S.said = T.said) && decide (S.at_.take 3 = T.at_.take 3))) = (!(decide (T.said = S.said) && decide (T.at_.take 3 = S.at_.take 3)))
      rw [decide_eq_decide.mpr (eq_comm (a := S.said) (b := T.said)), decide_eq_decide.mpr (eq_comm (a := S.at_.take 3) (b := T.at_.take 3))]
def spOutcome (K : PySem.W.Frag) (PP : List Wk) (W : List (List Str)) : Sp := fun vs H Q _ => ∃ (vp vw : V) (t : Addr) (l : List Nat) (i : Nat) (S : LS), vs = [vp, vw, .ref t] ∧ Rp K H vp (encP PP) ∧ Rp K H vw (encW W) ∧ Pw PP W ∧ all27[i]? = some l ∧ SqT K H t (nums l) ∧ ranF PP W 30 15 l = some S ∧
  ∀ (v : V) (H' : Hp), Keep [] H H' → Dp K H' v (outD S) → Q v H'
def spOutcomeA (K : PySem.W.Frag) : Sp := fun vs H Q E => ∃ i : List Wk × List (List Str), spOutcome K i.1 i.2 vs H Q E
def spParted (K : PySem.W.Frag) : Sp := fun vs H Q _ => ∃ (vp v1 v2 : V) (PP : List Wk) (W W2 : List (List Str)), vs = [vp, v1, v2] ∧ Rp K H vp (encP PP) ∧ Rp K H v1 (encW W) ∧ Rp K H v2 (encW W2) ∧ Pw PP W ∧ Pw PP W2 ∧
  ∀ (v : V) (H' : Hp), Keep [] H H' → Dp K H' v (firstD (partAt PP W W2) all27) → Q v H'
abbrev soutcome : Stmt := top 45
abbrev noutcome : List Str := ["program", "ways", "cells", "run"]
abbrev poutcome : List Str := ["program", "ways", "cells"]
theorem scoutcome : FnScope noutcome poutcome (defScope soutcome) := ⟨rfl, rfl, rfl, by decide +kernel, rfl, by decide +kernel, by decide +kernel⟩
abbrev sparted : Stmt := top 43
abbrev nparted : List Str := ["program", "one", "other", "cells"]
abbrev pparted : List Str := ["program", "one", "other"]
theorem scparted : FnScope nparted pparted (defScope sparted) := ⟨rfl, rfl, rfl, by decide +kernel, rfl, by decide +kernel, by decide +kernel⟩
theorem okOutcome {tk : Nat → Tok} {aP aW : Addr} {kl : Kl} {PP : List Wk} {W : List (List Str)} (D : DefAt K mg "outcome" soutcome poutcome) (T : Prg K tk aP aW kl mg) (C_done : Callee P w K mg base "done" 113 pdone (spDone K kl 30 PP W 16)) (C_numbers_of : Callee P w K mg base "numbers_of" 1 pnumbers_of (spNumbersOf K kl)) :
    Callee P w K mg base "outcome" 114 poutcome (spOutcome K PP W) := by
  refine D.ok scoutcome (fun vs H Q E h => ?_) (fun f cdv A outer s H vs Q E hr h => ?_)
  · obtain ⟨vp, vw, t, l, i, S, rfl, _⟩ := h
    rfl
  obtain ⟨vp, vw, t, l, i, S, rfl, hp, hw, pw, el, ht, eS, q⟩ := h
  obtain ⟨S', eS', fit, _⟩ := pw.ran el
  rw [eS] at eS'
  cases eS'
  obtain ⟨l3, lc⟩ := all27_ok el
  have clR := T.own.clR
  have ns := T.own.said
  refine ⟨_, (pss_cons (ps_set (i := 3) scoutcome.nd rfl (Or.inl rfl) (pcall C_done (hr.mono (by omega)) rfl (pa_cons (pv 0) (pa_cons (pv 1) (pa_cons (pv 2) pa_nil)))))
  (pss_one (ps_ret (pe_tup (pa_cons (pe_callTy (cTuple (K := K)) (by rfl) T.tuple (by decide +kernel) (pa_cons (peFld (K := K) (pv 3) rfl) pa_nil)) (pa_cons (pcall C_numbers_of (hr.mono (by omega)) rfl (pa_cons (pv 3) pa_nil)) pa_nil)))))), ?_⟩
  walk_at "rd"
  refine ask ⟨vp, vw, t, l, S, 15, rfl, pw.run hp hw, ht, l3, lc, pw.lit, by omega, eS, fit, fun R cs H1 k1 g1 nls => ?_⟩
  obtain ⟨dr, er⟩ := g1.run
  have es := g1.sd
  walk_at "rd"
  intro t1 H2 nt1 ht1 k2
  have g2 := g1.keep0 k2
  walk_at "rd"
  refine ask ⟨R, cs, S, _, rfl, g2, fun ta H3 k3 h3 => ?_⟩
  walk_at "rd"
  intro a H4 na h4 k4
  exact q _ H4 (((k1.trans k2).trans k3).trans k4) (.tup (SqT.of h4) (.cons (dp_list (((kts0 k3).trans (kts0 k4)).sqT (SqT.of ht1))) (.cons (dp_list ((kts0 k4).sqT h3)) .nil)))
theorem okParted {tk : Nat → Tok} {aP aW : Addr} {kl : Kl} (D : DefAt K mg "parted" sparted pparted) (T : Prg K tk aP aW kl mg) (C_need_ways : Callee P w K mg base "need_ways" 19 pneed_ways (spNeedWays K)) (C_all_cells : Callee P w K mg base "all_cells" 1 pall_cells (spAllCells K))
    (C_outcome : Callee P w K mg base "outcome" 114 poutcome (spOutcomeA K)) : Callee P w K mg base "parted" 115 pparted (spParted K) := by
  refine D.ok scparted (fun vs H Q E h => ?_) (fun f cdv A outer s H vs Q E hr h => ?_)
  · obtain ⟨vp, v1, v2, PP, W, W2, rfl, _⟩ := h
    rfl
  obtain ⟨vp, v1, v2, PP, W, W2, rfl, hp, hw, hw2, pw, pw2, q⟩ := h
  obtain ⟨mm, gd, m7⟩ := pw.m
  refine ⟨_, (pss_cons (ps_expr (pcall C_need_ways (hr.mono (by omega)) rfl (pa_cons (pv 0) (pa_cons (pv 1) pa_nil))))
  (pss_cons (ps_expr (pcall C_need_ways (hr.mono (by omega)) rfl (pa_cons (pv 0) (pa_cons (pv 2) pa_nil))))
  (pss_cons (ps_for PassesOwn.never rfl (piList (K := K) (pcall0 C_all_cells (hr.mono (by omega)) rfl)) (pg_name (i := 3) scparted.nd rfl (Or.inl rfl))
   (pss_one (ps_if (pt_cmpR (opNeD (K := K) hr.units) (pcall C_outcome (hr.mono (by omega)) rfl (pa_cons (pv 0) (pa_cons (pv 1) (pa_cons (pv 3) pa_nil)))) (pcall C_outcome (hr.mono (by omega)) rfl (pa_cons (pv 0) (pa_cons (pv 2) (pa_cons (pv 3) pa_nil)))) (nomark _)) (pss_one (ps_ret (pv 3))) pss_nil)))
  (pss_one (ps_ret pe_non))))), ?_⟩
  walk_at "rd"
  refine ask ⟨vp, v1, PP, W, mm, rfl, hp, hw, gd, by omega, pw.w, fun H0 k0' => ?_⟩
  walk_at "rd"
  refine ask ⟨vp, v2, PP, W2, mm, rfl, hp.ts (kts0 k0'), hw2.ts (kts0 k0'), gd, by omega, pw2.w, fun H1 k1 => ?_⟩
  walk_at "rd"
  refine ask ⟨rfl, fun pc H2 xs npc k2 h2 r2 => ?_⟩
  have k02 := (k0'.trans k1).trans k2
  walk_at "rd"
  refine forL (xs := xs) (fun i σ H' => ∃ x3 : Option V, σ = [some vp, some v1, some v2, x3] ∧ Keep [] H2 H' ∧ ∀ j, j < i → ∀ x, all27[j]? = some x → partAt PP W W2 x = false) ⟨_, rfl, Keep.refl, fun j hj => by omega⟩ (fun i σ H' _ hp2 => ?_) (fun i x σ H3 hx hp2 => ?_) (fun σ H3 hp2 => ?_)
  · obtain ⟨x3, rfl, k3, n3⟩ := hp2
    exact SqL.of (k3 _ _ h2 (by simp))
  · obtain ⟨x3, rfl, k3, n3⟩ := hp2
    obtain ⟨t, l, rfl, el, ht⟩ := r2.get hx
    have el' : all27[i]? = some l := el
    obtain ⟨S, eS, fit, _⟩ := pw.ran el'
    obtain ⟨S2, eS2, fit2, _⟩ := pw2.ran el'
    have k03 := k02.trans k3
    have em : partAt PP W W2 l = !PyData.eqv (outD S) (outD S2) := by unfold partAt; rw [eS, eS2, eqv_outD]
    walk_at "rd"
    refine ask ⟨(PP, W), vp, v1, t, l, i, S, rfl, hp.ts (kts0 k03), hw.ts (kts0 k03), pw, el', (kts0 k3).sqT ht, eS, fun o1 H4 k4 d1 => ?_⟩
    have k04 := k03.trans k4
    walk_at "rd"
    refine ask ⟨(PP, W2), vp, v2, t, l, i, S2, rfl, hp.ts (kts0 k04), hw2.ts (kts0 k04), pw2, el', (kts0 (k3.trans k4)).sqT ht, eS2, fun o2 H5 k5 d2 => ?_⟩
    have k35 := (k3.trans k4).trans k5
    refine ⟨outD S, outD S2, Dp.keep0 k5 d1, d2, outD_shaped, outD_shaped, ?_⟩
    walk_at "rd"
    refine cases_b (!PyData.eqv (outD S) (outD S2)) (fun c => ?_) (fun c => ?_)
    · rw [if_pos c]
      walk_at "rd"
      refine q _ H5 (k02.trans k35) ?_
      unfold firstD
      rw [find_hit' n3 el' (em.trans c)]
      exact dp_list ((kts0 k35).sqT ht)
    · rw [if_neg (by rw [c]; exact Bool.false_ne_true)]
      walk_at "rd"
      refine ⟨_, rfl, k35, fun j hj x hx' => ?_⟩
      by_cases cj : j < i
      · exact n3 j cj x hx'
      · have : j = i := by omega
        subst this
        rw [el'] at hx'
        cases hx'
        exact em.trans c
  · obtain ⟨x3, rfl, k3, n3⟩ := hp2
    walk_at "rd"
    refine q _ H3 (k02.trans k3) ?_
    unfold firstD
    rw [find_no fun j hj x hx => n3 j (by rw [r2.len]; exact hj) x hx]
    exact .non
end
end Hw
namespace Hw
open PySem PySem.Spec PyProof.Rows L2
local macro_rules | `(tactic| walk_at "sz") => `(tactic| first | exact Nat.le_of_ble_eq_true rfl | exact small (by first | omega | (simp; done) | (simp; omega)))
local macro_rules | `(tactic| walk_at "szT") => `(tactic| first | exact Nat.lt_of_lt_of_le (Nat.lt_succ_self _) (Nat.le_of_ble_eq_true rfl) | exact smallT (by first | omega | (simp; done) | (simp; omega)))
local macro_rules | `(tactic| walk_at "cond") => `(tactic| first | decide | omega | (dsimp only; omega) | exact ⟨by omega, by omega⟩ | exact .inr ⟨by decide, by decide⟩)
local macro_rules | `(tactic| walk_at "sq") => `(tactic| first | assumption | exact SqL.of (by assumption) | exact SqT.of (by assumption))
local macro_rules | `(tactic| walk_at "ty") => `(tactic| first | (with_reducible assumption) | exact .base (.int _) | exact .base (.str _) | exact .base (.bl _) | exact .base .non | exact tyT (by walk_at "sq") | exact tyL (by walk_at "sq"))
local macro_rules | `(tactic| walk_at "rd1") => `(tactic| first
  | ((with_reducible apply r_seq))
  | ((with_reducible apply r_asg))
  | ((with_reducible apply r_name))
  | ((with_reducible apply r_op))
  | ((with_reducible apply r_var); exact rfl)
  | ((with_reducible apply r_c))
  | ((with_reducible apply r_ixT); (walk_at "sq"); first | exact rfl | assumption)
  | ((with_reducible apply r_ixL); (walk_at "sq"); first | exact rfl | assumption)
  | ((with_reducible apply r_ixA); (first | exact .inl (by walk_at "sq") | exact .inr (by walk_at "sq")); first | exact rfl | assumption)
  | ((with_reducible apply r_isi); (walk_at "ty"); (decide +kernel))
  | ((with_reducible apply r_isiT2); assumption; (walk_at "ty"); (decide +kernel); (decide +kernel))
  | ((with_reducible apply r_I0))
  | ((with_reducible apply r_I); (walk_at "cond"))
  | ((with_reducible apply r_eq); exact rfl)
  | ((with_reducible apply r_ne); exact rfl)
  | ((with_reducible apply r_test))
  | ((with_reducible apply r_bl))
  | ((with_reducible apply r_if))
  | ((with_reducible apply r_nil))
  | ((with_reducible apply r_cons))
  | ((with_reducible apply r_call))
  | ((with_reducible apply r_cb))
  | ((with_reducible apply r_tup))
  | ((with_reducible apply r_lst))
  | ((with_reducible apply new); (walk_at "sz"))
  | ((with_reducible apply r_ret))
  | ((with_reducible apply r_retN))
  | ((with_reducible apply r_next))
  | ((with_reducible apply r_drop))
  | ((with_reducible apply r_lenL); (walk_at "sq"))
  | ((with_reducible apply r_lenT); (walk_at "sq"))
  | ((with_reducible apply r_int))
  | ((with_reducible apply r_intB))
  | ((with_reducible apply r_isN))
  | ((with_reducible apply r_notN))
  | ((with_reducible apply r_B))
  | ((with_reducible apply r_not))
  | ((with_reducible apply r_notV))
  | ((with_reducible apply r_andV))
  | ((with_reducible apply r_orV))
  | ((with_reducible apply r_ifE))
  | ((with_reducible apply r_chain))
  | ((with_reducible apply ite_t); (first | (with_reducible exact nRN) | (with_reducible exact nIN) | (with_reducible exact dNN) | decide +kernel))
  | ((with_reducible apply ite_f); (first | (with_reducible exact dRN) | (with_reducible exact dIN) | (with_reducible exact nNN) | decide +kernel))
  | ((with_reducible apply r_in); (first | exact .inl (by walk_at "sq") | exact .inr (by walk_at "sq")); exact rfl; (first | exact nums_flat | exact rfl))
  | ((with_reducible apply turn))
  | ((with_reducible apply r_for))
  | ((with_reducible apply r_iRng1))
  | ((with_reducible apply r_rng); (first | decide | omega | (simp; omega)); (first | decide | omega | (simp; omega)))
  | ((with_reducible apply r_iList))
  | ((with_reducible apply r_iTup))
  | ((with_reducible apply r_overL); (walk_at "sq"))
  | ((with_reducible apply r_overT); (walk_at "sq"))
  | ((with_reducible apply r_lc))
  | ((with_reducible apply acc); assumption; (walk_at "szT"))
  | ((with_reducible apply r_sub))
  | ((with_reducible apply r_setL); assumption; exact rfl)
  | ((with_reducible apply r_gtup); (walk_at "sq"); rfl)
  | ((with_reducible apply r_gnil))
  | ((with_reducible apply r_gcons))
  | ((with_reducible apply r_par))
  | ((with_reducible apply r_par2))
  | ((with_reducible apply r_sl))
  | ((with_reducible apply r_part))
  | ((with_reducible apply r_part1))
  | ((with_reducible apply r_noPart))
  | ((with_reducible apply r_slL); (walk_at "sq"))
  | ((with_reducible apply r_slA); (walk_at "sq"))
  | ((with_reducible apply r_tupL); (walk_at "sq"))
  | ((with_reducible apply r_tupT); (walk_at "sq"))
  | ((with_reducible apply r_lstL); (walk_at "sq"))
  | ((with_reducible apply r_lstT); (walk_at "sq"))
  | ((with_reducible apply r_append))
  | ((with_reducible apply r_isL); (walk_at "sq"))
  | ((with_reducible apply r_app); assumption; (walk_at "szT"))
  | ((with_reducible apply r_dget))
  | ((with_reducible apply r_dgetS); assumption; (walk_at "dk"))
  | ((with_reducible apply r_dput))
  | ((with_reducible apply r_dputS); assumption; (walk_at "szT"))
  | ((with_reducible apply r_disp))
  | ((with_reducible apply r_pnil))
  | ((with_reducible apply r_pcons))
  | ((with_reducible apply r_fld))
  | ((with_reducible apply r_fld1); assumption; assumption; assumption; (first | exact rfl | assumption))
  | ((with_reducible apply r_sfld))
  | ((with_reducible apply r_sfld1); assumption; assumption; assumption; exact (by decide)))
local macro_rules | `(tactic| walk_at "rd") => `(tactic| repeat walk_at "rd1")
local macro_rules | `(tactic| walk_at "lk") => `(tactic| first | (with_reducible exact cell_number) | (with_reducible exact cell_loans) | (with_reducible exact frame_owns) | (with_reducible exact frame_handed) | (with_reducible exact frame_roads) | (with_reducible exact want_thing) | (with_reducible exact want_frame) | (with_reducible exact run_program) | (with_reducible exact run_ways) | (with_reducible exact run_commons) | (with_reducible exact run_said) | (with_reducible exact run_lent) | (with_reducible exact run_mixed))
local macro_rules | `(tactic| walk_at "rd1") => `(tactic| first
  | ((with_reducible apply r_enumT))
  | ((with_reducible apply r_overE); (walk_at "sq"))
  | ((with_reducible apply r_zipA))
  | ((with_reducible apply r_zipT); (walk_at "sq"); (walk_at "sq"))
  | ((with_reducible apply r_zip3))
  | ((with_reducible apply r_overZ3); (walk_at "sq"); (walk_at "sq"); (walk_at "sq"))
  | ((with_reducible apply r_make))
  | ((with_reducible apply r_isiC); assumption; assumption; assumption)
  | ((with_reducible apply r_popM))
  | ((with_reducible apply r_pop); assumption)
  | ((with_reducible apply r_tru))
  | ((with_reducible apply r_truL); (walk_at "sq"))
  | ((with_reducible apply r_fld1); assumption; assumption; assumption; (walk_at "lk"))
  | ((with_reducible apply r_sfld1); assumption; assumption; assumption; exact Nat.le_of_ble_eq_true rfl))
local macro_rules | `(tactic| walk_at "rd1") => `(tactic| first
  | ((with_reducible apply r_revR))
  | ((with_reducible apply r_revOf); (first | omega | decide))
  | ((with_reducible apply r_zipT3))
  | ((with_reducible apply r_overZT3); (walk_at "sq"); (walk_at "sq"); (walk_at "sq"))
  | ((with_reducible apply r_rep1); assumption; (first | omega | (simp; omega))))
section
variable {P : Program} {w : World} {K : PySem.W.Frag} {mg : Str → Option Value} {base : Heap}
/-! ### sets.py: mark, mark_handed, mark_body -/
def bools (l : List Bool) : List V := l.map V.bl
theorem bools_len {l : List Bool} : (bools l).length = l.length := List.length_map _
theorem bools_get {l : List Bool} {i : Nat} {b : Bool} (h : l[i]? = some b) : (bools l)[i]? = some (.bl b) := by unfold bools; rw [List.getElem?_map, h]; rfl
theorem bools_set {l : List Bool} {i : Nat} {b : Bool} : (bools l).set i (.bl b) = bools (l.set i b) := by unfold bools; rw [List.map_set]
theorem keep_mark {m : Addr} {xs : List V} {H H1 : Hp} (k : Keep [m] H H1) (h : H m = some (.lst xs)) : Tst H H1 := k.ts fun x hx => by cases List.mem_singleton.mp hx; exact .inl ⟨_, h⟩
def spMark (K : PySem.W.Frag) : Sp := fun vs H Q _ => ∃ (vt : V) (m : Addr) (t : Th) (ms : List Bool), vs = [vt, .ref m] ∧ Rp K H vt t.enc ∧ H m = some (.lst (bools ms)) ∧ (∀ k, t = .par k → k < ms.length) ∧ ∀ H', Keep [m] H H' → H' m = some (.lst (bools (markT t ms))) → Q .non H'
def spMarkHanded (K : PySem.W.Frag) : Sp := fun vs H Q _ => ∃ (ra sa ta m : Addr) (ts : List Th) (ws : List Str) (bs ms : List Bool), vs = [.ref ra, .ref sa, .ref ta, .ref m] ∧ SqT K H ra (ws.map V.str) ∧ SqT K H sa (bools bs) ∧ Rp K H (.ref ta) (.tuple (ts.map Th.enc)) ∧ H m = some (.lst (bools ms)) ∧
  ws.length = ts.length ∧ bs.length = ts.length ∧ (∀ t ∈ ts, ∀ k, t = .par k → k < ms.length) ∧ ∀ H', Keep [m] H H' → H' m = some (.lst (bools (markH ts ws bs ms))) → Q .non H'
/-- what is told of the works -/
def TRel (K : PySem.W.Frag) (H : Hp) (tv : List V) (told : List (List Bool)) : Prop := tv.length = told.length ∧ ∀ (k : Nat) (bs : List Bool), told[k]? = some bs → ∃ a, tv[k]? = some (.ref a) ∧ SqT K H a (bools bs)
theorem TRel.ts {H H1 : Hp} {tv : List V} {told : List (List Bool)} (r : TRel K H tv told) (t : Tst H H1) : TRel K H1 tv told := ⟨r.1, fun k bs e => by
  obtain ⟨a, h1, h2⟩ := r.2 k bs e
  exact ⟨a, h1, t.sqT h2⟩⟩
def spMarkBody (K : PySem.W.Frag) (n : Nat) : Sp := fun vs H Q _ => ∃ (vw vb : V) (ta m : Addr) (W : List (List Str)) (sh : List (Nat × Nat)) (i d : Nat) (b : Sts) (told : List (List Bool)) (tv : List V) (ms : List Bool), vs = [vw, .ref ta, vb, .ref m] ∧ Rp K H vw (encW W) ∧
  H ta = some (.lst tv) ∧ TRel K H tv told ∧ Rp K H vb (.tuple b.encs) ∧ H m = some (.lst (bools ms)) ∧ ta ≠ m ∧ d < n ∧ Sts.ok sh i d b ∧ (sh.getD i (0, 0)).1 = ms.length ∧ (∀ w, i < w → w < sh.length → (W.getD w []).length = (sh.getD w (0, 0)).1 ∧ (told.getD w []).length = (sh.getD w (0, 0)).1) ∧
  W.length = sh.length ∧ told.length = sh.length ∧ ∀ H', Keep [m] H H' → H' m = some (.lst (bools (markB W told b ms))) → Q .non H'
abbrev smark : Stmt := top 51
abbrev nmark : List Str := ["thing", "marks"]
abbrev pmark : List Str := ["thing", "marks"]
theorem scmark : FnScope nmark pmark (defScope smark) := ⟨rfl, rfl, rfl, by decide +kernel, rfl, by decide +kernel, by decide +kernel⟩
abbrev smark_handed : Stmt := top 50
abbrev nmark_handed : List Str := ["row", "sets", "things", "marks", "thing", "way", "is_set"]
abbrev pmark_handed : List Str := ["row", "sets", "things", "marks"]
theorem scmark_handed : FnScope nmark_handed pmark_handed (defScope smark_handed) := ⟨rfl, rfl, rfl, by decide +kernel, rfl, by decide +kernel, by decide +kernel⟩
abbrev smark_body : Stmt := top 49
abbrev nmark_body : List Str := ["ways", "told", "body", "marks", "step"]
abbrev pmark_body : List Str := ["ways", "told", "body", "marks"]
theorem scmark_body : FnScope nmark_body pmark_body (defScope smark_body) := ⟨rfl, rfl, rfl, by decide +kernel, rfl, by decide +kernel, by decide +kernel⟩
theorem okMark (D : DefAt K mg "mark" smark pmark) : Callee P w K mg base "mark" 1 pmark (spMark K) := by
  refine D.ok scmark (fun vs H Q E h => ?_) (fun f cdv A outer s H vs Q E hr h => ?_)
  · obtain ⟨vt, m, t, ms, rfl, _⟩ := h
    rfl
  obtain ⟨vt, m, t, ms, rfl, ht, hm, hk, q⟩ := h
  refine ⟨_, (pss_one (ps_if (pt_cmpR op_eq (pe_ix (ixT (K := K)) (pv 0) pe_int (fun _ _ => rfl)) pe_str (nomark _)) (pss_one (ps_asg pe_bl (pg_sub (pv 1) (pe_ix (ixT (K := K)) (pv 0) pe_int (fun _ _ => rfl)) set_list))) pss_nil)), ?_⟩
  cases t with
  | par k =>
    obtain ⟨a, rfl, hT⟩ := Th.inv_par ht
    have a0 : atI [V.str "par", .int (k : Int)] 0 = some (.str "par") := at0
    have a1 : atI [V.str "par", .int (k : Int)] 1 = some (.int (k : Int)) := at1
    have kl := hk k rfl
    walk_at "rd"
    refine r_setL (j := k) hm (Evl.ixN_nat (by rw [bools_len]; exact kl)) fun H1 h1 k1 => ?_
    rw [bools_set] at h1
    exact q H1 k1 h1
  | num k =>
    obtain ⟨a, rfl, hT⟩ := Th.inv_num ht
    have a0 : atI [V.str "num", .int (k : Int)] 0 = some (.str "num") := at0
    walk_at "rd"
    exact q H Keep.refl hm
  | own k =>
    obtain ⟨a, rfl, hT⟩ := Th.inv_own ht
    have a0 : atI [V.str "own", .int (k : Int)] 0 = some (.str "own") := at0
    walk_at "rd"
    exact q H Keep.refl hm
  | cell u =>
    obtain ⟨a, x, rfl, hT, _⟩ := Th.inv_cell ht
    have a0 : atI [V.str "cell", x] 0 = some (.str "cell") := at0
    walk_at "rd"
    exact q H Keep.refl hm
  | sum u v =>
    obtain ⟨a, x, y, rfl, hT, _, _⟩ := Th.inv_sum ht
    have a0 : atI [V.str "sum", x, y] 0 = some (.str "sum") := at0
    walk_at "rd"
    exact q H Keep.refl hm
theorem okMarkHanded (D : DefAt K mg "mark_handed" smark_handed pmark_handed) (T : Blt mg) (C_mark : Callee P w K mg base "mark" 1 pmark (spMark K)) : Callee P w K mg base "mark_handed" 2 pmark_handed (spMarkHanded K) := by
  refine D.ok scmark_handed (fun vs H Q E h => ?_) (fun f cdv A outer s H vs Q E hr h => ?_)
  · obtain ⟨ra, sa, ta, m, ts, ws, bs, ms, rfl, _⟩ := h
    rfl
  obtain ⟨ra, sa, ta, m, ts, ws, bs, ms, rfl, hra, hsa, hta, hm, lw, lb, hk, q⟩ := h
  obtain ⟨_, xs, ea, hT, hxs⟩ := hta.tup_inv
  cases ea
  have lx : xs.length = ts.length := by rw [hxs.length, List.length_map]
  generalize eG : markH ts ws bs ms = G at q
  refine ⟨_, (pss_one (ps_for PassesOwn.never rfl (pi_zipT3 (K := K) rfl T.zip (pa_cons (pv 2) (pa_cons (pv 0) (pa_cons (pv 1) pa_nil)))) (pgTup (K := K) (by rfl) (pgs_cons (pg_name (i := 4) scmark_handed.nd rfl (Or.inl rfl)) (pgs_cons (pg_name (i := 5) scmark_handed.nd rfl (Or.inl rfl)) (pgs_cons (pg_name (i := 6) scmark_handed.nd rfl (Or.inl rfl)) pgs_nil))))
   (pss_one (ps_if (PW.pt (pw_and (pt_val (pv 6)) (pw_and1 (pt_cmpR op_ne (pv 5) pe_str (nomark _))))) (pss_one (ps_expr (pcall C_mark (hr.mono (by omega)) rfl (pa_cons (pv 4) (pa_cons (pv 3) pa_nil))))) pss_nil)))), ?_⟩
  walk_at "rd"
  refine forZT3 (xs := xs) (ys := ws.map V.str) (zs := bools bs) (by rw [List.length_map]; omega) (by rw [bools_len]; omega) (fun i σ H' => ∃ (x4 x5 x6 : Option V) (cur : List Bool), σ = [some (.ref ra), some (.ref sa), some (.ref ta), some (.ref m), x4, x5, x6] ∧ Keep [m] H H' ∧ H' m = some (.lst (bools cur)) ∧ cur.length = ms.length ∧
    markH (ts.drop i) (ws.drop i) (bs.drop i) cur = G) ⟨_, _, _, ms, rfl, Keep.refl, hm, rfl, eG⟩ (fun i σ H' hp => ?_) (fun i x y z Tp σ H' H1 hx hy hz hp nT hTp k1 => ?_) (fun σ H' hp => ?_)
  · obtain ⟨x4, x5, x6, cur, rfl, k, h, _, _⟩ := hp
    have t := keep_mark k hm
    exact ⟨t.sqT hT, t.sqT hra, t.sqT hsa⟩
  · obtain ⟨x4, x5, x6, cur, rfl, k, h, lc, e⟩ := hp
    have t := keep_mark k hm
    obtain ⟨dd, ed, rd⟩ := hxs.get' hx
    rw [List.getElem?_map] at ed hy
    obtain ⟨tt, ett, rfl⟩ := Option.map_eq_some_iff.mp ed
    obtain ⟨ww, eww, rfl⟩ := Option.map_eq_some_iff.mp hy
    unfold bools at hz
    rw [List.getElem?_map] at hz
    obtain ⟨bb, ebb, rfl⟩ := Option.map_eq_some_iff.mp hz
    have h1 := k1 _ _ h (by simp)
    obtain ⟨l1, e1⟩ := List.getElem?_eq_some_iff.mp ett
    obtain ⟨l2, e2⟩ := List.getElem?_eq_some_iff.mp eww
    obtain ⟨l3, e3⟩ := List.getElem?_eq_some_iff.mp ebb
    rw [List.drop_eq_getElem_cons l1, List.drop_eq_getElem_cons l2, List.drop_eq_getElem_cons l3, e1, e2, e3] at e
    unfold markH at e
    have k01 : Keep [m] H H1 := k.by0 k1
    walk_at "rd"
    refine r_andP (a := bb) (b := !decide (V.str ww = V.str "copy")) (fun R hr => by walk_at "rd"; exact hr) (fun _ R hr => by walk_at "rd"; exact hr) ?_
    have ec : (bb && !decide (V.str ww = V.str "copy")) = decide (bb = true ∧ ww ≠ "copy") := by
      cases bb with
      | false => simp
      | true => simp
    rw [ec]
    by_cases c : bb = true ∧ ww ≠ "copy"
    · rw [if_pos c] at e
      rw [if_pos (decide_eq_true c)]
      walk_at "rd"
      refine ask ⟨x, m, tt, cur, rfl, (rd.ts t).ts (kts0 k1), h1, fun j ej => by rw [lc]; exact hk tt (List.mem_of_getElem? ett) j ej, fun H2 k2 h2 => ?_⟩
      walk_at "rd"
      exact ⟨_, _, _, _, rfl, k01.trans k2, h2, by rw [markT_len]; exact lc, e⟩
    · rw [if_neg c] at e
      rw [if_neg (by rw [decide_eq_false c]; exact Bool.false_ne_true)]
      walk_at "rd"
      exact ⟨_, _, _, _, rfl, k01, h1, lc, e⟩
  · obtain ⟨x4, x5, x6, cur, rfl, k, h, lc, e⟩ := hp
    rw [lx, List.drop_length] at e
    unfold markH at e
    rw [e] at h
    walk_at "rd"
    exact q H' k h
theorem Th.ok_par_lt {p o d k : Nat} (h : Th.ok p o d (.par k)) : k < p := by cases d <;> exact h
theorem okMarkBody {n : Nat} (D : DefAt K mg "mark_body" smark_body pmark_body) (C_mark : Callee P w K mg base "mark" 1 pmark (spMark K)) (C_mark_handed : Callee P w K mg base "mark_handed" 2 pmark_handed (spMarkHanded K)) (C_mark_body : Callee P w K mg base "mark_body" (n + 2) pmark_body (spMarkBody K n)) :
    Callee P w K mg base "mark_body" (n + 3) pmark_body (spMarkBody K (n + 1)) := by
  refine D.ok scmark_body (fun vs H Q E h => ?_) (fun f cdv A outer s H vs Q E hr h => ?_)
  · obtain ⟨vw, vb, ta, m, W, sh, i, d, b, told, tv, ms, rfl, _⟩ := h
    rfl
  obtain ⟨vw, vb, ta, m, W, sh, i, d, b, told, tv, ms, rfl, hw, hta, tr, hb, hm, nt, dn, ok, hi, hl, lW, lT, q⟩ := h
  obtain ⟨bp, xs, rfl, hT, hxs⟩ := hb.tup_inv
  generalize eG : markB W told b ms = G at q
  refine ⟨_, (pss_one (ps_for PassesOwn.never rfl (piTup (K := K) (pv 2)) (pg_name (i := 4) scmark_body.nd rfl (Or.inl rfl))
   (pss_one (ps_if (pt_cmpR op_eq (pe_ix (ixT (K := K)) (pv 4) pe_int (fun _ _ => rfl)) pe_str (nomark _)) (pss_one (ps_expr (pcall C_mark (hr.mono (by omega)) rfl (pa_cons (pe_ix (ixT (K := K)) (pv 4) pe_int (fun _ _ => rfl)) (pa_cons (pv 3) pa_nil))))) (pss_one (ps_if (pt_cmpR op_eq (pe_ix (ixT (K := K)) (pv 4) pe_int (fun _ _ => rfl)) pe_str (nomark _)) (pss_cons (ps_expr (pcall C_mark_body (hr.mono (by omega)) rfl (pa_cons (pv 0) (pa_cons (pv 1) (pa_cons (pe_ix (ixT (K := K)) (pv 4) pe_int (fun _ _ => rfl)) (pa_cons (pv 3) pa_nil))))))
  (pss_one (ps_expr (pcall C_mark_body (hr.mono (by omega)) rfl (pa_cons (pv 0) (pa_cons (pv 1) (pa_cons (pe_ix (ixT (K := K)) (pv 4) pe_int (fun _ _ => rfl)) (pa_cons (pv 3) pa_nil)))))))) (pss_one (ps_if (pt_cmpR op_eq (pe_ix (ixT (K := K)) (pv 4) pe_int (fun _ _ => rfl)) pe_str (nomark _)) (pss_one (ps_expr (pcall C_mark_handed (hr.mono (by omega)) rfl (pa_cons (pe_ix (ixT (K := K)) (pv 0) (pe_ix (ixT (K := K)) (pv 4) pe_int (fun _ _ => rfl)) (fun _ _ => rfl)) (pa_cons (pe_ix (ixL (K := K)) (pv 1) (pe_ix (ixT (K := K)) (pv 4) pe_int (fun _ _ => rfl)) (fun _ _ => rfl)) (pa_cons (pe_ix (ixT (K := K)) (pv 4) pe_int (fun _ _ => rfl)) (pa_cons (pv 3) pa_nil))))))) pss_nil)))))))), ?_⟩
  walk_at "rd"
  refine forT (xs := xs) (fun j σ H' => ∃ (x4 : Option V) (cur : List Bool), σ = [some vw, some (.ref ta), some (.ref bp), some (.ref m), x4] ∧ Keep [m] H H' ∧ H' m = some (.lst (bools cur)) ∧ cur.length = ms.length ∧ markB W told (b.drop j) cur = G ∧ Sts.ok sh i d (b.drop j)) ⟨_, ms, rfl, Keep.refl, hm, rfl, eG, ok⟩ (fun j σ H' _ hp => ?_) (fun j x σ H' hx hp => ?_) (fun σ H' hp => ?_)
  · obtain ⟨x4, cur, rfl, k, h, _, _, _⟩ := hp
    exact (keep_mark k hm).sqT hT
  · obtain ⟨x4, cur, rfl, k, h, lc, e, okd⟩ := hp
    have t := keep_mark k hm
    obtain ⟨dd, ed, rd⟩ := hxs.get' hx
    obtain ⟨st, rfl, est⟩ := Sts.drop_get ed
    rw [est] at e okd
    unfold Sts.ok at okd
    unfold markB at e
    obtain ⟨oks, okr⟩ := okd
    have hw' := hw.ts t
    have rd' := rd.ts t
    have hta' := k _ _ hta (by simpa using nt)
    have tr' := tr.ts t
    cases st with
    | set p u =>
      obtain ⟨a, x1, x2, rfl, hS, h1, h2⟩ := St.inv_set rd'
      have b0 : atI [V.str "set", x1, x2] 0 = some (.str "set") := at0
      have b1 : atI [V.str "set", x1, x2] 1 = some x1 := at1
      unfold markS at e
      obtain ⟨_, okp, _⟩ := St.ok_set' oks
      walk_at "rd"
      refine ask ⟨x1, m, p, cur, rfl, h1, h, fun kk ek => by subst ek; rw [lc, ← hi]; exact Th.ok_par_lt okp, fun H2 k2 h2 => ?_⟩
      walk_at "rd"
      exact ⟨_, _, rfl, k.trans k2, h2, by rw [markT_len]; exact lc, e, okr⟩
    | say u =>
      obtain ⟨a, x1, rfl, hS, h1⟩ := St.inv_say rd'
      have b0 : atI [V.str "say", x1] 0 = some (.str "say") := at0
      unfold markS at e
      walk_at "rd"
      exact ⟨_, _, rfl, k, h, lc, e, okr⟩
    | ite u b1 b2 =>
      cases d with
      | zero => exact (by unfold St.ok at oks; exact oks : False).elim
      | succ d =>
        unfold St.ok at oks
        obtain ⟨a, x1, x2, x3, rfl, hS, h1, h2, h3⟩ := St.inv_ite rd'
        have c0 : atI [V.str "if", x1, x2, x3] 0 = some (.str "if") := at0
        have c2 : atI [V.str "if", x1, x2, x3] 2 = some x2 := at2
        have c3 : atI [V.str "if", x1, x2, x3] 3 = some x3 := at3
        unfold markS at e
        walk_at "rd"
        refine ask ⟨vw, x2, ta, m, W, sh, i, d, b1, told, tv, cur, rfl, hw', hta', tr', h2, h, nt, by omega, oks.2.1, by rw [lc]; exact hi, hl, lW, lT, fun H2 k2 m2 => ?_⟩
        have t2 := keep_mark k2 h
        have hS2 := t2.sqT hS
        walk_at "rd"
        refine ask ⟨vw, x3, ta, m, W, sh, i, d, b2, told, tv, _, rfl, hw'.ts t2, k2 _ _ hta' (by simpa using nt), tr'.ts t2, h3.ts t2, m2, nt, by omega, oks.2.2, by rw [markB_len, lc]; exact hi, hl, lW, lT, fun H3 k3 m3 => ?_⟩
        walk_at "rd"
        exact ⟨_, _, rfl, (k.trans k2).trans k3, m3, by rw [markB_len, markB_len]; exact lc, e, okr⟩
    | call kk ts =>
      obtain ⟨a, x1, rfl, hS, h1⟩ := St.inv_call rd'
      have c0 : atI [V.str "call", .int (kk : Int), x1] 0 = some (.str "call") := at0
      have c1 : atI [V.str "call", .int (kk : Int), x1] 1 = some (.int (kk : Int)) := at1
      have c2 : atI [V.str "call", .int (kk : Int), x1] 2 = some x1 := at2
      unfold markS at e
      obtain ⟨ik, kl, lt, okt⟩ := St.ok_call' oks
      obtain ⟨l1, l2⟩ := hl kk ik kl
      obtain ⟨tp, ys, rfl, hTy, hys⟩ := h1.tup_inv
      obtain ⟨wp, zs, rfl, hTz, hzs⟩ := hw'.tup_inv
      have kW : kk < W.length := by omega
      have kT : kk < told.length := by omega
      have eW : W[kk]? = some W[kk] := List.getElem?_eq_getElem kW
      have eT : told[kk]? = some told[kk] := List.getElem?_eq_getElem kT
      have gW : W.getD kk [] = W[kk] := by rw [List.getD_eq_getElem?_getD, eW]; rfl
      have gT : told.getD kk [] = told[kk] := by rw [List.getD_eq_getElem?_getD, eT]; rfl
      rw [gW] at l1 e
      rw [gT] at l2 e
      obtain ⟨v1, ev1, rv1⟩ := hzs.get (i := kk) (d := .tuple (W[kk].map PyData.str)) (by rw [List.getElem?_map, eW]; rfl)
      obtain ⟨ra, us, rfl, hTu, hus⟩ := rv1.tup_inv
      have eus := rps_strs hus
      subst eus
      obtain ⟨sa, es, hTs⟩ := tr'.2 kk _ eT
      have d1 := atI_nat ev1
      have d2 := atI_nat es
      walk_at "rd"
      refine ask ⟨ra, sa, tp, m, ts, W[kk], told[kk], cur, rfl, hTu, hTs, h1, h, by rw [l1, lt], by rw [l2, lt], fun u hu j ej => by subst ej; rw [lc, ← hi]; exact Th.ok_par_lt (okt _ hu), fun H2 k2 m2 => ?_⟩
      walk_at "rd"
      exact ⟨_, _, rfl, k.trans k2, m2, by rw [markH_len]; exact lc, e, okr⟩
  · obtain ⟨x4, cur, rfl, k, h, lc, e, okd⟩ := hp
    have lv : xs.length = b.encs.length := hxs.length
    rw [lv, Sts.drop_all] at e
    unfold markB at e
    rw [e] at h
    walk_at "rd"
    exact q H' k h
theorem okMarkBodies (D : DefAt K mg "mark_body" smark_body pmark_body) (C_mark : Callee P w K mg base "mark" 1 pmark (spMark K)) (C_mark_handed : Callee P w K mg base "mark_handed" 2 pmark_handed (spMarkHanded K)) : ∀ n, Callee P w K mg base "mark_body" (n + 2) pmark_body (spMarkBody K n)
  | 0 => D.none fun vs H Q E h => by
    obtain ⟨_, _, _, _, _, _, _, d, _, _, _, _, _, _, _, _, _, _, _, dn, _⟩ := h
    omega
  | n + 1 => okMarkBody D C_mark C_mark_handed (okMarkBodies D C_mark C_mark_handed n)
end
end Hw
namespace Hw
open PySem PySem.Spec PyProof.Rows L2
local macro_rules | `(tactic| walk_at "sz") => `(tactic| first | exact Nat.le_of_ble_eq_true rfl | exact small (by first | omega | (simp; done) | (simp; omega)))
local macro_rules | `(tactic| walk_at "szT") => `(tactic| first | exact Nat.lt_of_lt_of_le (Nat.lt_succ_self _) (Nat.le_of_ble_eq_true rfl) | exact smallT (by first | omega | (simp; done) | (simp; omega)))
local macro_rules | `(tactic| walk_at "cond") => `(tactic| first | decide | omega | (dsimp only; omega) | exact ⟨by omega, by omega⟩ | exact .inr ⟨by decide, by decide⟩)
local macro_rules | `(tactic| walk_at "sq") => `(tactic| first | assumption | exact SqL.of (by assumption) | exact SqT.of (by assumption))
local macro_rules | `(tactic| walk_at "ty") => `(tactic| first | (with_reducible assumption) | exact .base (.int _) | exact .base (.str _) | exact .base (.bl _) | exact .base .non | exact tyT (by walk_at "sq") | exact tyL (by walk_at "sq"))
local macro_rules | `(tactic| walk_at "rd1") => `(tactic| first
  | ((with_reducible apply r_seq))
  | ((with_reducible apply r_asg))
  | ((with_reducible apply r_name))
  | ((with_reducible apply r_op))
  | ((with_reducible apply r_var); exact rfl)
  | ((with_reducible apply r_c))
  | ((with_reducible apply r_ixT); (walk_at "sq"); first | exact rfl | assumption)
  | ((with_reducible apply r_ixL); (walk_at "sq"); first | exact rfl | assumption)
  | ((with_reducible apply r_ixA); (first | exact .inl (by walk_at "sq") | exact .inr (by walk_at "sq")); first | exact rfl | assumption)
  | ((with_reducible apply r_isi); (walk_at "ty"); (decide +kernel))
  | ((with_reducible apply r_isiT2); assumption; (walk_at "ty"); (decide +kernel); (decide +kernel))
  | ((with_reducible apply r_I0))
  | ((with_reducible apply r_I); (walk_at "cond"))
  | ((with_reducible apply r_eq); exact rfl)
  | ((with_reducible apply r_ne); exact rfl)
  | ((with_reducible apply r_test))
  | ((with_reducible apply r_bl))
  | ((with_reducible apply r_if))
  | ((with_reducible apply r_nil))
  | ((with_reducible apply r_cons))
  | ((with_reducible apply r_call))
  | ((with_reducible apply r_cb))
  | ((with_reducible apply r_tup))
  | ((with_reducible apply r_lst))
  | ((with_reducible apply new); (walk_at "sz"))
  | ((with_reducible apply r_ret))
  | ((with_reducible apply r_retN))
  | ((with_reducible apply r_next))
  | ((with_reducible apply r_drop))
  | ((with_reducible apply r_lenL); (walk_at "sq"))
  | ((with_reducible apply r_lenT); (walk_at "sq"))
  | ((with_reducible apply r_int))
  | ((with_reducible apply r_intB))
  | ((with_reducible apply r_isN))
  | ((with_reducible apply r_notN))
  | ((with_reducible apply r_B))
  | ((with_reducible apply r_not))
  | ((with_reducible apply r_notV))
  | ((with_reducible apply r_andV))
  | ((with_reducible apply r_orV))
  | ((with_reducible apply r_ifE))
  | ((with_reducible apply r_chain))
  | ((with_reducible apply ite_t); (first | (with_reducible exact nRN) | (with_reducible exact nIN) | (with_reducible exact dNN) | decide +kernel))
  | ((with_reducible apply ite_f); (first | (with_reducible exact dRN) | (with_reducible exact dIN) | (with_reducible exact nNN) | decide +kernel))
  | ((with_reducible apply r_in); (first | exact .inl (by walk_at "sq") | exact .inr (by walk_at "sq")); exact rfl; (first | exact nums_flat | exact rfl))
  | ((with_reducible apply turn))
  | ((with_reducible apply r_for))
  | ((with_reducible apply r_iRng1))
  | ((with_reducible apply r_rng); (first | decide | omega | (simp; omega)); (first | decide | omega | (simp; omega)))
  | ((with_reducible apply r_iList))
  | ((with_reducible apply r_iTup))
  | ((with_reducible apply r_overL); (walk_at "sq"))
  | ((with_reducible apply r_overT); (walk_at "sq"))
  | ((with_reducible apply r_lc))
  | ((with_reducible apply acc); assumption; (walk_at "szT"))
  | ((with_reducible apply r_sub))
  | ((with_reducible apply r_setL); assumption; exact rfl)
  | ((with_reducible apply r_gtup); (walk_at "sq"); rfl)
  | ((with_reducible apply r_gnil))
  | ((with_reducible apply r_gcons))
  | ((with_reducible apply r_par))
  | ((with_reducible apply r_par2))
  | ((with_reducible apply r_sl))
  | ((with_reducible apply r_part))
  | ((with_reducible apply r_part1))
  | ((with_reducible apply r_noPart))
  | ((with_reducible apply r_slL); (walk_at "sq"))
  | ((with_reducible apply r_slA); (walk_at "sq"))
  | ((with_reducible apply r_tupL); (walk_at "sq"))
  | ((with_reducible apply r_tupT); (walk_at "sq"))
  | ((with_reducible apply r_lstL); (walk_at "sq"))
  | ((with_reducible apply r_lstT); (walk_at "sq"))
  | ((with_reducible apply r_append))
  | ((with_reducible apply r_isL); (walk_at "sq"))
  | ((with_reducible apply r_app); assumption; (walk_at "szT"))
  | ((with_reducible apply r_dget))
  | ((with_reducible apply r_dgetS); assumption; (walk_at "dk"))
  | ((with_reducible apply r_dput))
  | ((with_reducible apply r_dputS); assumption; (walk_at "szT"))
  | ((with_reducible apply r_disp))
  | ((with_reducible apply r_pnil))
  | ((with_reducible apply r_pcons))
  | ((with_reducible apply r_fld))
  | ((with_reducible apply r_fld1); assumption; assumption; assumption; (first | exact rfl | assumption))
  | ((with_reducible apply r_sfld))
  | ((with_reducible apply r_sfld1); assumption; assumption; assumption; exact (by decide)))
local macro_rules | `(tactic| walk_at "rd") => `(tactic| repeat walk_at "rd1")
local macro_rules | `(tactic| walk_at "lk") => `(tactic| first | (with_reducible exact cell_number) | (with_reducible exact cell_loans) | (with_reducible exact frame_owns) | (with_reducible exact frame_handed) | (with_reducible exact frame_roads) | (with_reducible exact want_thing) | (with_reducible exact want_frame) | (with_reducible exact run_program) | (with_reducible exact run_ways) | (with_reducible exact run_commons) | (with_reducible exact run_said) | (with_reducible exact run_lent) | (with_reducible exact run_mixed))
local macro_rules | `(tactic| walk_at "rd1") => `(tactic| first
  | ((with_reducible apply r_enumT))
  | ((with_reducible apply r_overE); (walk_at "sq"))
  | ((with_reducible apply r_zipA))
  | ((with_reducible apply r_zipT); (walk_at "sq"); (walk_at "sq"))
  | ((with_reducible apply r_zip3))
  | ((with_reducible apply r_overZ3); (walk_at "sq"); (walk_at "sq"); (walk_at "sq"))
  | ((with_reducible apply r_make))
  | ((with_reducible apply r_isiC); assumption; assumption; assumption)
  | ((with_reducible apply r_popM))
  | ((with_reducible apply r_pop); assumption)
  | ((with_reducible apply r_tru))
  | ((with_reducible apply r_truL); (walk_at "sq"))
  | ((with_reducible apply r_fld1); assumption; assumption; assumption; (walk_at "lk"))
  | ((with_reducible apply r_sfld1); assumption; assumption; assumption; exact Nat.le_of_ble_eq_true rfl))
local macro_rules | `(tactic| walk_at "rd1") => `(tactic| first
  | ((with_reducible apply r_revR))
  | ((with_reducible apply r_revOf); (first | omega | decide))
  | ((with_reducible apply r_zipT3))
  | ((with_reducible apply r_overZT3); (walk_at "sq"); (walk_at "sq"); (walk_at "sq"))
  | ((with_reducible apply r_rep1); assumption; (first | omega | (simp; omega))))
section
variable {P : Program} {w : World} {K : PySem.W.Frag} {mg : Str → Option Value} {base : Heap}
/-! ### sets.py: may_set -/
def encB (T : List (List Bool)) : PyData := .tuple (T.map fun bs => .tuple (bs.map PyData.bool))
theorem bools_rps {H : Hp} : ∀ {l : List Bool}, Rps K H (bools l) (l.map PyData.bool)
  | [] => .nil
  | b :: l => .cons (.bl b) bools_rps
theorem TRel.rps {H : Hp} : ∀ {tv : List V} {told : List (List Bool)}, TRel K H tv told → Rps K H tv (told.map fun bs => PyData.tuple (bs.map PyData.bool))
  | [], [], _ => .nil
  | v :: tv, bs :: told, r => by
    obtain ⟨a, h1, h2⟩ := r.2 0 bs rfl
    cases h1
    exact .cons (.tup h2 bools_rps) (TRel.rps ⟨Nat.succ.inj r.1, fun k bs e => r.2 (k + 1) bs e⟩)
  | [], _ :: _, r => by cases r.1
  | _ :: _, [], r => by cases r.1
theorem TRel.set {H : Hp} {tv : List V} {told : List (List Bool)} {i : Nat} {a : Addr} {bs : List Bool} (r : TRel K H tv told) (h : SqT K H a (bools bs)) : TRel K H (tv.set i (.ref a)) (told.set i bs) := by
  refine ⟨by rw [List.length_set, List.length_set]; exact r.1, fun k cs e => ?_⟩
  rw [List.getElem?_set] at e ⊢
  have l := r.1
  by_cases c : i = k
  · rw [if_pos c] at e ⊢
    by_cases d : i < told.length
    · rw [if_pos d] at e
      cases e
      exact ⟨a, by rw [if_pos (by omega)], h⟩
    · rw [if_neg d] at e
      cases e
  · rw [if_neg c] at e ⊢
    exact r.2 k cs e
theorem shapes_params {P : List Wk} {i : Nat} : ((shapes P).getD i (0, 0)).1 = (P.getD i ⟨0, 0, .nil⟩).params := by
  unfold shapes
  rw [List.getD_eq_getElem?_getD, List.getD_eq_getElem?_getD, List.getElem?_map]
  cases P[i]? <;> rfl
def spMaySet (K : PySem.W.Frag) : Sp := fun vs H Q _ => ∃ (vp vw : V) (PP : List Wk) (W : List (List Str)) (mm : Nat), vs = [vp, vw] ∧ Rp K H vp (encP PP) ∧ Rp K H vw (encW W) ∧ Good PP mm ∧ mm ≤ 100 ∧ WaysOk PP W ways4 ∧
  ∀ (v : V) (H' : Hp), Keep [] H H' → Rp K H' v (encB (maySet PP W)) → Q v H'
abbrev smay_set : Stmt := top 48
abbrev nmay_set : List Str := ["program", "ways", "told", "at", "params", "owns", "body", "marks"]
abbrev pmay_set : List Str := ["program", "ways"]
theorem scmay_set : FnScope nmay_set pmay_set (defScope smay_set) := ⟨rfl, rfl, rfl, by decide +kernel, rfl, by decide +kernel, by decide +kernel⟩
theorem okMaySet (D : DefAt K mg "may_set" smay_set pmay_set) (T : Blt mg) (T2 : Blt2 mg) (C_need_ways : Callee P w K mg base "need_ways" 19 pneed_ways (spNeedWays K)) (C_mark_body : Callee P w K mg base "mark_body" 5 pmark_body (spMarkBody K 3)) :
    Callee P w K mg base "may_set" 20 pmay_set (spMaySet K) := by
  refine D.ok scmay_set (fun vs H Q E h => ?_) (fun f cdv A outer s H vs Q E hr h => ?_)
  · obtain ⟨vp, vw, PP, W, mm, rfl, _⟩ := h
    rfl
  obtain ⟨vp, vw, PP, W, mm, rfl, hp, hw, gd, m1, wo, q⟩ := h
  have few := gd.few
  refine ⟨_, (pss_cons (ps_expr (pcall C_need_ways (hr.mono (by omega)) rfl (pa_cons (pv 0) (pa_cons (pv 1) pa_nil))))
  (pss_cons (ps_set (i := 2) scmay_set.nd rfl (Or.inl rfl) (pe_op op_rep (pe_lst (pa_cons (pe_tup pa_nil) pa_nil)) (pe_callB (cLen (K := K)) (by rfl) T.len PySem.boot_len (pa_cons (pv 0) pa_nil))))
  (pss_cons (ps_for PassesOwn.never rfl (pi_revR rfl T2.reversed (prg_1 rfl T.range (pe_callB (cLen (K := K)) (by rfl) T.len PySem.boot_len (pa_cons (pv 0) pa_nil)))) (pg_name (i := 3) scmay_set.nd rfl (Or.inl rfl))
   (pss_cons (ps_asg (pe_ix (ixT (K := K)) (pv 0) (pv 3) (fun _ _ => rfl)) (pgTup (K := K) (by rfl) (pgs_cons (pg_name (i := 4) scmay_set.nd rfl (Or.inl rfl)) (pgs_cons (pg_name (i := 5) scmay_set.nd rfl (Or.inl rfl)) (pgs_cons (pg_name (i := 6) scmay_set.nd rfl (Or.inl rfl)) pgs_nil)))))
  (pss_cons (ps_set (i := 7) scmay_set.nd rfl (Or.inl rfl) (pe_op op_rep (pe_lst (pa_cons pe_bl pa_nil)) (pv 4)))
  (pss_cons (ps_expr (pcall C_mark_body (hr.mono (by omega)) rfl (pa_cons (pv 1) (pa_cons (pv 2) (pa_cons (pv 6) (pa_cons (pv 7) pa_nil))))))
  (pss_one (ps_asg (pe_callTy (cTuple (K := K)) (by rfl) T.tuple (by decide +kernel) (pa_cons (pv 7) pa_nil)) (pg_sub (pv 2) (pv 3) set_list)))))))
  (pss_one (ps_ret (pe_callTy (cTuple (K := K)) (by rfl) T.tuple (by decide +kernel) (pa_cons (pv 2) pa_nil))))))), ?_⟩
  walk_at "rd"
  refine ask ⟨vp, vw, PP, W, mm, rfl, hp, hw, gd, m1, wo, fun H1 k1 => ?_⟩
  obtain ⟨a1, xs1, rfl, hT, hl1, hat⟩ := encP_at (hp.ts (kts0 k1))
  have hw1 := hw.ts (kts0 k1)
  walk_at "rd"
  intro t0 H2 nt0 ht0 k2
  walk_at "rd"
  intro l0 H3 nl0 hl0 k3
  have hT3 := ((kts0 k2).trans (kts0 k3)).sqT hT
  have ht03 := k3 _ _ ht0 (by simp)
  walk_at "rd"
  intro ta H4 nta hta k4
  rw [hl1] at hta
  have hT4 := (kts0 k4).sqT hT3
  have ht04 := k4 _ _ ht03 (by simp)
  have k14 := (k2.trans k3).trans k4
  have k04 := k1.trans k14
  have n0 : H ta = none := free0 ((k1.trans k2).trans k3) nta
  walk_at "rd"
  have tr0 : TRel K H4 (List.replicate PP.length (V.ref t0)) (toldF PP W 0) := by
    unfold toldF
    refine ⟨by rw [List.length_replicate, List.length_replicate], fun k bs e => ?_⟩
    have hb := (List.mem_replicate.mp (List.mem_of_getElem? e)).2
    subst hb
    have hk := (List.getElem?_eq_some_iff.mp e).1
    rw [List.length_replicate] at hk
    exact ⟨t0, by rw [List.getElem?_replicate, if_pos hk], SqT.of ht04⟩
  refine forRev (m := xs1.length) (fun i σ H' => ∃ (x3 x4 x5 x6 x7 : Option V) (tv : List V), σ = [some (.ref a1), some vw, some (.ref ta), x3, x4, x5, x6, x7] ∧ Keep [ta] H4 H' ∧ H' ta = some (.lst tv) ∧ TRel K H' tv (toldF PP W i)) ⟨_, _, _, _, _, _, rfl, Keep.refl, hta, tr0⟩ (fun i σ H5 hi hp5 => ?_) (fun σ H5 hp5 => ?_)
  · obtain ⟨x3, x4, x5, x6, x7, tv, rfl, k5, hta5, tr5⟩ := hp5
    have t45 : Tst H4 H5 := keep_mark k5 hta
    have hj : xs1.length - 1 - i < PP.length := by omega
    generalize ej : xs1.length - 1 - i = j at hj
    rw [hl1] at ej
    have ew : PP[j]? = some PP[j] := List.getElem?_eq_getElem hj
    obtain ⟨wp, vb, ap1, hW1, hB⟩ := hat j PP[j] ew
    have t15 : Tst H1 H5 := (kts0 k14).trans t45
    have hT5 := t45.sqT hT4
    have hW5 := t15.sqT hW1
    have hB5 := hB.ts t15
    have p3 := gd.params _ (List.getElem_mem hj)
    walk_at "rd"
    intro lf H6 nlf hlf k6
    have hta6 := k6 _ _ hta5 (by simp)
    walk_at "rd"
    intro m H7 nm hm k7
    have hta7 := k7 _ _ hta6 (by simp)
    have tm : ta ≠ m := fun z => by rw [← z, hta6] at nm; cases nm
    have k57 := k6.trans k7
    have t57 := kts0 k57
    have tr7 := tr5.ts t57
    have hm' : H7 m = some (.lst (bools (List.replicate PP[j].params false))) := by
      rw [hm]; unfold bools; rw [List.map_replicate]
    have gsh : ((shapes PP).getD j (0, 0)).1 = PP[j].params := by rw [shapes_params, List.getD_eq_getElem?_getD, ew]; rfl
    have lsh : (shapes PP).length = PP.length := by unfold shapes; exact List.length_map _
    have ltold := toldF_len (P := PP) (W := W) i
    walk_at "rd"
    refine ask ⟨vw, vb, ta, m, W, shapes PP, j, 2, PP[j].body, toldF PP W i, tv, List.replicate PP[j].params false, rfl, (hw1.ts t15).ts t57, hta7, tr7, hB5.ts t57, hm', tm, by omega, gd.body j _ ew, by rw [gsh, List.length_replicate], fun w' h1 h2 => ?_, by rw [lsh]; exact wo.1, by rw [lsh]; exact ltold, fun H8 k8 h8 => ?_⟩
    · rw [lsh] at h2
      have ew' : PP[w']? = some PP[w'] := List.getElem?_eq_getElem h2
      have hwl : w' < W.length := by rw [wo.1]; exact h2
      have eW' : W[w']? = some W[w'] := List.getElem?_eq_getElem hwl
      refine ⟨?_, ?_⟩
      · rw [shapes_params, List.getD_eq_getElem?_getD, eW', List.getD_eq_getElem?_getD, ew']
        exact (wo.2 w' _ _ ew' eW').1
      · rw [shapes_params]
        exact toldF_row i w' (by omega) (by omega) h2
    have t78 := keep_mark k8 hm'
    have hta8 := k8 _ _ hta7 (by simpa using tm)
    walk_at "rd"
    intro tp H9 ntp htp k9
    have hta9 := k9 _ _ hta8 (by simp)
    have tr9 := (tr7.ts t78).ts (kts0 k9)
    have l9 : j < tv.length := by rw [tr5.1, ltold]; exact hj
    walk_at "rd"
    refine r_setL (j := j) hta9 (Evl.ixN_nat l9) fun H10 h10 k10 => ?_
    have t910 := keep_mark k10 hta9
    refine ⟨_, _, _, _, _, _, rfl, ?_, h10, ?_⟩
    · have k59 : Keep [] H5 H9 := ((k57.fresh1 k8 (free0 k6 nm))).trans k9
      exact (k5.by0 k59).trans k10
    · have e : toldF PP W (i + 1) = (toldF PP W i).set j (markB W (toldF PP W i) PP[j].body (List.replicate PP[j].params false)) := by
        subst ej
        show (match PP[PP.length - 1 - i]? with
          | some wk => (toldF PP W i).set (PP.length - 1 - i) (markB W (toldF PP W i) wk.body (List.replicate wk.params false))
          | none => toldF PP W i) = _
        rw [ew]
      rw [e]
      exact (tr9.ts t910).set (t910.sqT (SqT.of htp))
  · obtain ⟨x3, x4, x5, x6, x7, tv, rfl, k5, hta5, tr5⟩ := hp5
    rw [hl1] at tr5
    walk_at "rd"
    intro tr H6 ntr htr k6
    exact q _ H6 (k04.fresh1 (k5.by0 k6) n0) (.tup (SqT.of htr) (tr5.ts (kts0 k6)).rps)
end
end Hw
namespace Hw
open PySem PySem.Spec PyProof.Rows L2
local macro_rules | `(tactic| walk_at "sz") => `(tactic| first | exact Nat.le_of_ble_eq_true rfl | exact small (by first | omega | (simp; done) | (simp; omega)))
local macro_rules | `(tactic| walk_at "szT") => `(tactic| first | exact Nat.lt_of_lt_of_le (Nat.lt_succ_self _) (Nat.le_of_ble_eq_true rfl) | exact smallT (by first | omega | (simp; done) | (simp; omega)))
local macro_rules | `(tactic| walk_at "cond") => `(tactic| first | decide | omega | (dsimp only; omega) | exact ⟨by omega, by omega⟩ | exact .inr ⟨by decide, by decide⟩)
local macro_rules | `(tactic| walk_at "sq") => `(tactic| first | assumption | exact SqL.of (by assumption) | exact SqT.of (by assumption))
local macro_rules | `(tactic| walk_at "ty") => `(tactic| first | (with_reducible assumption) | exact .base (.int _) | exact .base (.str _) | exact .base (.bl _) | exact .base .non | exact tyT (by walk_at "sq") | exact tyL (by walk_at "sq"))
local macro_rules | `(tactic| walk_at "rd1") => `(tactic| first
  | ((with_reducible apply r_seq))
  | ((with_reducible apply r_asg))
  | ((with_reducible apply r_name))
  | ((with_reducible apply r_op))
  | ((with_reducible apply r_var); exact rfl)
  | ((with_reducible apply r_c))
  | ((with_reducible apply r_ixT); (walk_at "sq"); first | exact rfl | assumption)
  | ((with_reducible apply r_ixL); (walk_at "sq"); first | exact rfl | assumption)
  | ((with_reducible apply r_ixA); (first | exact .inl (by walk_at "sq") | exact .inr (by walk_at "sq")); first | exact rfl | assumption)
  | ((with_reducible apply r_isi); (walk_at "ty"); (decide +kernel))
  | ((with_reducible apply r_isiT2); assumption; (walk_at "ty"); (decide +kernel); (decide +kernel))
  | ((with_reducible apply r_I0))
  | ((with_reducible apply r_I); (walk_at "cond"))
  | ((with_reducible apply r_eq); exact rfl)
  | ((with_reducible apply r_ne); exact rfl)
  | ((with_reducible apply r_test))
  | ((with_reducible apply r_bl))
  | ((with_reducible apply r_if))
  | ((with_reducible apply r_nil))
  | ((with_reducible apply r_cons))
  | ((with_reducible apply r_call))
  | ((with_reducible apply r_cb))
  | ((with_reducible apply r_tup))
  | ((with_reducible apply r_lst))
  | ((with_reducible apply new); (walk_at "sz"))
  | ((with_reducible apply r_ret))
  | ((with_reducible apply r_retN))
  | ((with_reducible apply r_next))
  | ((with_reducible apply r_drop))
  | ((with_reducible apply r_lenL); (walk_at "sq"))
  | ((with_reducible apply r_lenT); (walk_at "sq"))
  | ((with_reducible apply r_int))
  | ((with_reducible apply r_intB))
  | ((with_reducible apply r_isN))
  | ((with_reducible apply r_notN))
  | ((with_reducible apply r_B))
  | ((with_reducible apply r_not))
  | ((with_reducible apply r_notV))
  | ((with_reducible apply r_andV))
  | ((with_reducible apply r_orV))
  | ((with_reducible apply r_ifE))
  | ((with_reducible apply r_chain))
  | ((with_reducible apply ite_t); (first | (with_reducible exact nRN) | (with_reducible exact nIN) | (with_reducible exact dNN) | decide +kernel))
  | ((with_reducible apply ite_f); (first | (with_reducible exact dRN) | (with_reducible exact dIN) | (with_reducible exact nNN) | decide +kernel))
  | ((with_reducible apply r_in); (first | exact .inl (by walk_at "sq") | exact .inr (by walk_at "sq")); exact rfl; (first | exact nums_flat | exact rfl))
  | ((with_reducible apply turn))
  | ((with_reducible apply r_for))
  | ((with_reducible apply r_iRng1))
  | ((with_reducible apply r_rng); (first | decide | omega | (simp; omega)); (first | decide | omega | (simp; omega)))
  | ((with_reducible apply r_iList))
  | ((with_reducible apply r_iTup))
  | ((with_reducible apply r_overL); (walk_at "sq"))
  | ((with_reducible apply r_overT); (walk_at "sq"))
  | ((with_reducible apply r_lc))
  | ((with_reducible apply acc); assumption; (walk_at "szT"))
  | ((with_reducible apply r_sub))
  | ((with_reducible apply r_setL); assumption; exact rfl)
  | ((with_reducible apply r_gtup); (walk_at "sq"); rfl)
  | ((with_reducible apply r_gnil))
  | ((with_reducible apply r_gcons))
  | ((with_reducible apply r_par))
  | ((with_reducible apply r_par2))
  | ((with_reducible apply r_sl))
  | ((with_reducible apply r_part))
  | ((with_reducible apply r_part1))
  | ((with_reducible apply r_noPart))
  | ((with_reducible apply r_slL); (walk_at "sq"))
  | ((with_reducible apply r_slA); (walk_at "sq"))
  | ((with_reducible apply r_tupL); (walk_at "sq"))
  | ((with_reducible apply r_tupT); (walk_at "sq"))
  | ((with_reducible apply r_lstL); (walk_at "sq"))
  | ((with_reducible apply r_lstT); (walk_at "sq"))
  | ((with_reducible apply r_append))
  | ((with_reducible apply r_isL); (walk_at "sq"))
  | ((with_reducible apply r_app); assumption; (walk_at "szT"))
  | ((with_reducible apply r_dget))
  | ((with_reducible apply r_dgetS); assumption; (walk_at "dk"))
  | ((with_reducible apply r_dput))
  | ((with_reducible apply r_dputS); assumption; (walk_at "szT"))
  | ((with_reducible apply r_disp))
  | ((with_reducible apply r_pnil))
  | ((with_reducible apply r_pcons))
  | ((with_reducible apply r_fld))
  | ((with_reducible apply r_fld1); assumption; assumption; assumption; (first | exact rfl | assumption))
  | ((with_reducible apply r_sfld))
  | ((with_reducible apply r_sfld1); assumption; assumption; assumption; exact (by decide)))
local macro_rules | `(tactic| walk_at "rd") => `(tactic| repeat walk_at "rd1")
local macro_rules | `(tactic| walk_at "lk") => `(tactic| first | (with_reducible exact cell_number) | (with_reducible exact cell_loans) | (with_reducible exact frame_owns) | (with_reducible exact frame_handed) | (with_reducible exact frame_roads) | (with_reducible exact want_thing) | (with_reducible exact want_frame) | (with_reducible exact run_program) | (with_reducible exact run_ways) | (with_reducible exact run_commons) | (with_reducible exact run_said) | (with_reducible exact run_lent) | (with_reducible exact run_mixed))
local macro_rules | `(tactic| walk_at "rd1") => `(tactic| first
  | ((with_reducible apply r_enumT))
  | ((with_reducible apply r_overE); (walk_at "sq"))
  | ((with_reducible apply r_zipA))
  | ((with_reducible apply r_zipT); (walk_at "sq"); (walk_at "sq"))
  | ((with_reducible apply r_zip3))
  | ((with_reducible apply r_overZ3); (walk_at "sq"); (walk_at "sq"); (walk_at "sq"))
  | ((with_reducible apply r_make))
  | ((with_reducible apply r_isiC); assumption; assumption; assumption)
  | ((with_reducible apply r_popM))
  | ((with_reducible apply r_pop); assumption)
  | ((with_reducible apply r_tru))
  | ((with_reducible apply r_truL); (walk_at "sq"))
  | ((with_reducible apply r_fld1); assumption; assumption; assumption; (walk_at "lk"))
  | ((with_reducible apply r_sfld1); assumption; assumption; assumption; exact Nat.le_of_ble_eq_true rfl))
local macro_rules | `(tactic| walk_at "rd1") => `(tactic| first
  | ((with_reducible apply r_revR))
  | ((with_reducible apply r_revOf); (first | omega | decide))
  | ((with_reducible apply r_zipT3))
  | ((with_reducible apply r_overZT3); (walk_at "sq"); (walk_at "sq"); (walk_at "sq"))
  | ((with_reducible apply r_rep1); assumption; (first | omega | (simp; omega))))
section
variable {P : Program} {w : World} {K : PySem.W.Frag} {mg : Str → Option Value} {base : Heap}
/-! ### the law of nothing that is a place: programs whose calls hand no places -/
def plT (alone : Bool) (j : Nat) (t : Th) : Th := if alone = true then .num (j % 3) else .sum t (.num 1)
mutual
def plS (alone : Bool) : Nat → St → St
  | _, .set p t => .set p t
  | _, .say t => .say t
  | _, .ite t a b => .ite t (plB alone 0 a) (plB alone 0 b)
  | j, .call w ts => .call w (ts.map (plT alone j))
def plB (alone : Bool) : Nat → Sts → Sts
  | _, .nil => .nil
  | j, .cons s r => .cons (plS alone j s) (plB alone (j + 1) r)
end
theorem plT_place {alone : Bool} {j : Nat} {t : Th} : (plT alone j t).isPlace = false := by unfold plT; split <;> rfl
theorem plT_ok {alone : Bool} {j p o : Nat} {t : Th} (h : Th.ok p o 4 t) (d : t.dep ≤ 3) : Th.ok p o 4 (plT alone j t) := by
  unfold plT
  split
  · exact Th.ok_num (Nat.mod_lt _ (by omega))
  · exact ⟨Th.ok_cut h d, Th.ok_num (by omega)⟩
mutual
theorem plS_ok {alone : Bool} {sh : List (Nat × Nat)} {i : Nat} : ∀ {s : St} {d j : Nat}, St.ok sh i d s → s.thin → St.ok sh i d (plS alone j s)
  | .set p t, d, j, h, _ => by unfold plS; exact h
  | .say t, d, j, h, _ => by unfold plS; exact h
  | .ite t a b, 0, j, h, _ => by unfold St.ok at h; exact h.elim
  | .ite t a b, d + 1, j, h, g => by
    unfold St.ok at h
    unfold St.thin at g
    unfold plS
    exact St.ok_ite h.1 (plB_ok h.2.1 g.1) (plB_ok h.2.2 g.2)
  | .call w ts, d, j, h, g => by
    obtain ⟨iw, wl, lt, okt⟩ := St.ok_call' h
    unfold St.thin at g
    unfold plS
    refine St.ok_call iw wl (by rw [List.length_map]; exact lt) fun u hu => ?_
    obtain ⟨t, ht, rfl⟩ := List.mem_map.mp hu
    exact plT_ok (okt t ht) (g t ht)
theorem plB_ok {alone : Bool} {sh : List (Nat × Nat)} {i : Nat} : ∀ {b : Sts} {d j : Nat}, Sts.ok sh i d b → b.thin → Sts.ok sh i d (plB alone j b)
  | .nil, d, j, h, _ => by unfold plB; exact h
  | .cons s r, d, j, h, g => by
    unfold Sts.ok at h
    unfold Sts.thin at g
    unfold plB Sts.ok
    exact ⟨plS_ok h.1 g.1, plB_ok h.2 g.2⟩
end
mutual
theorem plS_many {alone : Bool} : ∀ {s : St} {j : Nat}, (plS alone j s).many = s.many ∧ (plS alone j s).calls = s.calls ∧ (plS alone j s).bare
  | .set p t, j => ⟨rfl, rfl, by unfold plS St.bare; trivial⟩
  | .say t, j => ⟨rfl, rfl, by unfold plS St.bare; trivial⟩
  | .ite t a b, j => by
    obtain ⟨m1, c1, b1⟩ := plB_many (alone := alone) (b := a) (j := 0)
    obtain ⟨m2, c2, b2⟩ := plB_many (alone := alone) (b := b) (j := 0)
    unfold plS
    refine ⟨?_, ?_, by unfold St.bare; exact ⟨b1, b2⟩⟩
    · show 1 + (plB alone 0 a).many + (plB alone 0 b).many = 1 + a.many + b.many
      rw [m1, m2]
    · show (plB alone 0 a).calls + (plB alone 0 b).calls = a.calls + b.calls
      rw [c1, c2]
  | .call w ts, j => ⟨rfl, rfl, by
    unfold plS St.bare
    intro u hu
    obtain ⟨t, ht, rfl⟩ := List.mem_map.mp hu
    exact plT_place⟩
theorem plB_many {alone : Bool} : ∀ {b : Sts} {j : Nat}, (plB alone j b).many = b.many ∧ (plB alone j b).calls = b.calls ∧ (plB alone j b).bare
  | .nil, j => ⟨rfl, rfl, by unfold plB Sts.bare; trivial⟩
  | .cons s r, j => by
    obtain ⟨m1, c1, b1⟩ := plS_many (alone := alone) (s := s) (j := j)
    obtain ⟨m2, c2, b2⟩ := plB_many (alone := alone) (b := r) (j := j + 1)
    unfold plB
    refine ⟨?_, ?_, by unfold Sts.bare; exact ⟨b1, b2⟩⟩
    · show (plS alone j s).many + (plB alone (j + 1) r).many = s.many + r.many
      rw [m1, m2]
    · show (plS alone j s).calls + (plB alone (j + 1) r).calls = s.calls + r.calls
      rw [c1, c2]
end
mutual
theorem plS_nums : ∀ {s : St} {j : Nat}, (∀ k, ((k, none) : Hn) ∉ hndS (plS true j s)) → (plS true j s).numsO
  | .set p t, j, h => by
    unfold plS at h ⊢
    unfold St.numsO
    intro k e
    subst e
    exact h k (by unfold hndS; exact List.mem_singleton.mpr rfl)
  | .say t, j, h => by unfold plS St.numsO; trivial
  | .ite t a b, j, h => by
    unfold plS at h ⊢
    unfold St.numsO
    unfold hndS at h
    exact ⟨plB_nums fun k m => h k (List.mem_append_left _ m), plB_nums fun k m => h k (List.mem_append_right _ m)⟩
  | .call w ts, j, h => by
    unfold plS St.numsO
    intro u hu
    obtain ⟨t, ht, rfl⟩ := List.mem_map.mp hu
    exact ⟨j % 3, by unfold plT; rw [if_pos rfl]⟩
theorem plB_nums : ∀ {b : Sts} {j : Nat}, (∀ k, ((k, none) : Hn) ∉ hndB (plB true j b)) → (plB true j b).numsO
  | .nil, j, h => by unfold plB Sts.numsO; trivial
  | .cons s r, j, h => by
    rw [plB] at h ⊢
    rw [hndB] at h
    unfold Sts.numsO
    exact ⟨plS_nums fun k m => h k (List.mem_append_left _ m), plB_nums fun k m => h k (List.mem_append_right _ m)⟩
end
def plP (alone : Bool) (P : List Wk) : List Wk := P.map fun w => ⟨w.params, w.owns, plB alone 0 w.body⟩
theorem plP_good {alone : Bool} {PP : List Wk} {s : Nat} (g : Drawn PP s) : Good (plP alone PP) s := by
  have esh : shapes (plP alone PP) = shapes PP := by
    unfold shapes plP
    rw [List.map_map]
    rfl
  have at_ : ∀ (i : Nat) (w : Wk), (plP alone PP)[i]? = some w → ∃ v, PP[i]? = some v ∧ w = ⟨v.params, v.owns, plB alone 0 v.body⟩ := fun i w e => by
    unfold plP at e
    rw [List.getElem?_map] at e
    obtain ⟨v, hv, rfl⟩ := Option.map_eq_some_iff.mp e
    exact ⟨v, hv, rfl⟩
  have mem : ∀ w ∈ plP alone PP, ∃ v ∈ PP, w = ⟨v.params, v.owns, plB alone 0 v.body⟩ := fun w hw => by
    unfold plP at hw
    obtain ⟨v, hv, rfl⟩ := List.mem_map.mp hw
    exact ⟨v, hv, rfl⟩
  have l : (plP alone PP).length = PP.length := List.length_map _
  refine ⟨by rw [l]; exact g.one, by rw [l]; exact g.few, fun w e => ?_, fun w hw => ?_, fun w hw => ?_, fun i w e => ?_, fun w hw => ?_, fun w hw => ?_⟩
  · obtain ⟨v, hv, rfl⟩ := at_ 0 w e
    exact g.first v hv
  · obtain ⟨v, hv, rfl⟩ := mem w hw
    exact g.params v hv
  · obtain ⟨v, hv, rfl⟩ := mem w hw
    exact g.owns v hv
  · obtain ⟨v, hv, rfl⟩ := at_ i w e
    rw [esh]
    exact plB_ok (g.body i v hv) (g.thin v (List.mem_of_getElem? hv))
  · obtain ⟨v, hv, rfl⟩ := mem w hw
    show (plB alone 0 v.body).many ≤ s
    rw [plB_many.1]
    exact g.many v hv
  · obtain ⟨v, hv, rfl⟩ := mem w hw
    show (plB alone 0 v.body).calls ≤ 4
    rw [plB_many.2.1]
    exact g.calls v hv
theorem plP_bare {alone : Bool} {PP : List Wk} : ∀ wk ∈ plP alone PP, wk.body.bare := fun wk hw => by
  unfold plP at hw
  obtain ⟨v, hv, rfl⟩ := List.mem_map.mp hw
  exact plB_many.2.2
theorem plB_app {alone : Bool} {j : Nat} {s : St} {r : Sts} : (plB alone j (.cons s r)).encs = (plS alone j s).enc :: (plB alone (j + 1) r).encs := by
  rw [plB]
  rfl
def spPlain (K : PySem.W.Frag) (n : Nat) : Sp := fun vs H Q _ => ∃ (vb : V) (alone : Bool) (b : Sts) (sh : List (Nat × Nat)) (i d : Nat), vs = [vb, .bl alone] ∧ Rp K H vb (.tuple b.encs) ∧ d < n ∧ Sts.ok sh i d b ∧ b.many ≤ 100 ∧ (∀ w, (sh.getD w (0, 0)).1 ≤ 3) ∧
  ∀ (v : V) (H' : Hp), Keep [] H H' → Rp K H' v (.tuple (plB alone 0 b).encs) → Q v H'
abbrev sL_plain : Stmt := top 61
abbrev nL_plain : List Str := ["_law_body_here", "_law_alone", "_law_found", "_law_step_here", "_law_things", "_law_thing_here"]
abbrev pL_plain : List Str := ["_law_body_here", "_law_alone"]
theorem scL_plain : FnScope nL_plain pL_plain (defScope sL_plain) := ⟨rfl, rfl, rfl, by decide +kernel, rfl, by decide +kernel, by decide +kernel⟩
theorem okPlain {n : Nat} (D : DefAt K mg "_law_plain" sL_plain pL_plain) (T : Blt mg) (C_law_plain : Callee P w K mg base "_law_plain" n pL_plain (spPlain K n)) : Callee P w K mg base "_law_plain" (n + 1) pL_plain (spPlain K (n + 1)) := by
  refine D.ok scL_plain (fun vs H Q E h => ?_) (fun f cdv A outer s H vs Q E hr h => ?_)
  · obtain ⟨vb, alone, b, sh, i, d, rfl, _⟩ := h
    rfl
  obtain ⟨vb, alone, b, sh, i, d, rfl, hb, dn, ok, mb, h3, q⟩ := h
  obtain ⟨bp, xs, rfl, hT, hxs⟩ := hb.tup_inv
  have lxs : xs.length ≤ 100 := by
    rw [hxs.length, Sts.encs_len]
    have := Sts.len_le_many b
    omega
  generalize eG : (plB alone 0 b).encs = G at q
  refine ⟨_, (pss_cons (ps_set (i := 2) scL_plain.nd rfl (Or.inl rfl) (pe_lst pa_nil))
  (pss_cons (ps_for PassesOwn.never rfl (piTup (K := K) (pv 0)) (pg_name (i := 3) scL_plain.nd rfl (Or.inl rfl))
   (pss_one (ps_if (pt_cmpR op_eq (pe_ix (ixT (K := K)) (pv 3) pe_int (fun _ _ => rfl)) pe_str (nomark _)) (pss_one (ps_expr (peApp (K := K) (pv 2) (pe_op (opCatA (K := K)) (pe_slice (slA (K := K)) (pv 3) po_none (po_some pe_int)) (pe_tup (pa_cons (pcall C_law_plain (hr.mono (by omega)) rfl (pa_cons (pe_ix (ixT (K := K)) (pv 3) pe_int (fun _ _ => rfl)) (pa_cons (pv 1) pa_nil))) (pa_cons (pcall C_law_plain (hr.mono (by omega)) rfl (pa_cons (pe_ix (ixT (K := K)) (pv 3) pe_int (fun _ _ => rfl)) (pa_cons (pv 1) pa_nil))) pa_nil))))))) (pss_one (ps_if (pt_cmpR op_eq (pe_ix (ixT (K := K)) (pv 3) pe_int (fun _ _ => rfl)) pe_str (nomark _)) (pss_cons (ps_set (i := 4) scL_plain.nd rfl (Or.inl rfl) (pe_lst pa_nil))
  (pss_cons (ps_for PassesOwn.never rfl (piTup (K := K) (pe_ix (ixT (K := K)) (pv 3) pe_int (fun _ _ => rfl))) (pg_name (i := 5) scL_plain.nd rfl (Or.inl rfl))
   (pss_cons (ps_set (i := 5) scL_plain.nd rfl (Or.inl rfl) (pe_ifExp (pt_val (pv 1)) (pe_tup (pa_cons pe_str (pa_cons (pe_op op_mod (pe_callB (cLen (K := K)) (by rfl) T.len PySem.boot_len (pa_cons (pv 2) pa_nil)) pe_int) pa_nil))) (pe_tup (pa_cons pe_str (pa_cons (pv 5) (pa_cons (pe_tup (pa_cons pe_str (pa_cons pe_int pa_nil))) pa_nil))))))
  (pss_one (ps_expr (peApp (K := K) (pv 4) (pv 5))))))
  (pss_one (ps_expr (peApp (K := K) (pv 2) (pe_op (opCatA (K := K)) (pe_slice (slA (K := K)) (pv 3) po_none (po_some pe_int)) (pe_tup (pa_cons (pe_callTy (cTuple (K := K)) (by rfl) T.tuple (by decide +kernel) (pa_cons (pv 4) pa_nil)) pa_nil)))))))) (pss_one (ps_expr (peApp (K := K) (pv 2) (pv 3)))))))))
  (pss_one (ps_ret (pe_callTy (cTuple (K := K)) (by rfl) T.tuple (by decide +kernel) (pa_cons (pv 2) pa_nil)))))), ?_⟩
  walk_at "rd"
  intro p H1 np hp k1
  have hT1 := (kts0 k1).sqT hT
  walk_at "rd"
  refine forT (xs := xs) (fun j σ H' => ∃ (x3 x4 x5 : Option V) (ys : List V) (ds : List PyData), σ = [some (.ref bp), some (.bl alone), some (.ref p), x3, x4, x5] ∧ Keep [] H H' ∧ H' p = some (.lst ys) ∧ Rps K H' ys ds ∧ ds.length = j ∧ ds ++ (plB alone j (b.drop j)).encs = G ∧ Sts.ok sh i d (b.drop j) ∧ (b.drop j).many ≤ 100) ⟨_, _, _, [], [], rfl, k1, hp, .nil, rfl, eG, ok, mb⟩ (fun j σ H' _ hp => ?_) (fun j x σ H' hx hp => ?_) (fun σ H' hp => ?_)
  · obtain ⟨x3, x4, x5, ys, ds, rfl, k, h, r, lj, e, okd, mbd⟩ := hp
    exact (kts0 k).sqT hT
  · obtain ⟨x3, x4, x5, ys, ds, rfl, k, h, r, lj, e, okd, mbd⟩ := hp
    have t := kts0 k
    obtain ⟨dd, ed, rd⟩ := hxs.get' hx
    obtain ⟨st, rfl, est⟩ := Sts.drop_get ed
    rw [est, plB_app] at e
    rw [est] at okd mbd
    unfold Sts.ok at okd
    unfold Sts.many at mbd
    obtain ⟨oks, okr⟩ := okd
    have mbr : (b.drop (j + 1)).many ≤ 100 := by omega
    have rd' := rd.ts t
    have jl : j < xs.length := (List.getElem?_eq_some_iff.mp hx).1
    have lys : ys.length ≤ 100 := by rw [r.length, lj]; omega
    have lyj : ys.length = j := by rw [r.length, lj]
    -- what is appended
    have fin : ∀ (v : V) (H2 : Hp), Keep [] H' H2 → Rp K H2 v (plS alone j st).enc → ∀ (x4 x5 : Option V) (H3 : Hp), H3 p = some (.lst (ys ++ [v])) → Keep [p] H2 H3 → ∃ (x3' x4' x5' : Option V) (ys' : List V) (ds' : List PyData), [some (V.ref bp), some (.bl alone), some (.ref p), some x, x4, x5] = [some (.ref bp), some (.bl alone), some (.ref p), x3', x4', x5'] ∧ Keep [] H H3 ∧ H3 p = some (.lst ys') ∧ Rps K H3 ys' ds' ∧ ds'.length = j + 1 ∧ ds' ++ (plB alone (j + 1) (b.drop (j + 1))).encs = G ∧ Sts.ok sh i d (b.drop (j + 1)) ∧ (b.drop (j + 1)).many ≤ 100 := fun v H2 k2 rv x4 x5 H3 h3' k3 => by
      have h2 := k2 _ _ h (by simp)
      have t3 : Tst H2 H3 := k3.ts fun x hx => by cases List.mem_singleton.mp hx; exact .inl ⟨_, h2⟩
      refine ⟨_, _, _, _, ds ++ [(plS alone j st).enc], rfl, (k.trans k2).fresh1 k3 np, h3', (r.ts ((kts0 k2).trans t3)).append (.cons (rv.ts t3) .nil), by rw [List.length_append, lj]; rfl, ?_, okr, mbr⟩
      rw [List.append_assoc]
      exact e
    cases st with
    | set pl u =>
      obtain ⟨a, y1, y2, rfl, hS, h1, h2⟩ := St.inv_set rd'
      have b0 : atI [V.str "set", y1, y2] 0 = some (.str "set") := at0
      walk_at "rd"
      intro H3 h3' k3
      exact fin _ H' Keep.refl (by rw [plS]; exact rd') _ _ H3 h3' k3
    | say u =>
      obtain ⟨a, y1, rfl, hS, h1⟩ := St.inv_say rd'
      have b0 : atI [V.str "say", y1] 0 = some (.str "say") := at0
      walk_at "rd"
      intro H3 h3' k3
      exact fin _ H' Keep.refl (by rw [plS]; exact rd') _ _ H3 h3' k3
    | ite u b1 b2 =>
      cases d with
      | zero => exact (by unfold St.ok at oks; exact oks : False).elim
      | succ d =>
        unfold St.ok at oks
        obtain ⟨a, y1, y2, y3, rfl, hS, h1, h2, h3'⟩ := St.inv_ite rd'
        have c0 : atI [V.str "if", y1, y2, y3] 0 = some (.str "if") := at0
        have c2 : atI [V.str "if", y1, y2, y3] 2 = some y2 := at2
        have c3 : atI [V.str "if", y1, y2, y3] 3 = some y3 := at3
        unfold St.many at mbd
        walk_at "rd"
        intro ps H2 hps k2 f2
        have hps' : SqT K H2 ps [.str "if", y1] := hps
        have hS2 := (kts0 k2).sqT hS
        walk_at "rd"
        refine ask ⟨y2, alone, b1, sh, i, d, rfl, h2.ts (kts0 k2), by omega, oks.2.1, by omega, h3, fun v1 H3 k3 r1 => ?_⟩
        have hS3 := (kts0 k3).sqT hS2
        have k23 := k2.trans k3
        walk_at "rd"
        refine ask ⟨y3, alone, b2, sh, i, d, rfl, h3'.ts (kts0 k23), by omega, oks.2.2, by omega, h3, fun v2 H4 k4 r2 => ?_⟩
        walk_at "rd"
        intro pt H5 npt hpt k5
        have hps5 := (kts0 ((k3.trans k4).trans k5)).sqT hps'
        walk_at "rd"
        refine r_catA hps5 (SqT.of hpt) (small (Nat.le_of_ble_eq_true rfl)) fun pq H6 hS6 k6 f6 => ?_
        have k26 := ((k23.trans k4).trans k5).trans k6
        have h6 := k26 _ _ h (by simp)
        walk_at "rd"
        intro H7 h7 k7
        refine fin _ H6 k26 ?_ _ _ H7 h7 k7
        rw [plS]
        exact .tup hS6 (.cons (.str _) (.cons (h1.ts (kts0 k26)) (.cons (r1.ts (kts0 ((k4.trans k5).trans k6))) (.cons (r2.ts (kts0 (k5.trans k6))) .nil))))
    | call kk ts =>
      obtain ⟨a, y1, rfl, hS, h1⟩ := St.inv_call rd'
      have c0 : atI [V.str "call", .int (kk : Int), y1] 0 = some (.str "call") := at0
      have c2 : atI [V.str "call", .int (kk : Int), y1] 2 = some y1 := at2
      obtain ⟨ik, kl, lt, okt⟩ := St.ok_call' oks
      have h3k := h3 kk
      obtain ⟨tp, zs, rfl, hTz, hzs⟩ := h1.tup_inv
      have lzs : zs.length = ts.length := by rw [hzs.length, List.length_map]
      walk_at "rd"
      intro lp H2 nlp hlp k2
      have hS2 := (kts0 k2).sqT hS
      have hTz2 := (kts0 k2).sqT hTz
      have npl : p ≠ lp := fun z => by rw [← z, h] at nlp; cases nlp
      walk_at "rd"
      refine forT (xs := zs) (fun m σ H3 => ∃ (x5 : Option V) (us : List V), σ = [some (.ref bp), some (.bl alone), some (.ref p), some (.ref a), some (.ref lp), x5] ∧ Keep [] H' H3 ∧ H3 lp = some (.lst us) ∧ Rps K H3 us (((ts.take m).map (plT alone j)).map Th.enc)) ⟨_, [], rfl, k2, hlp, by rw [List.take_zero]; exact .nil⟩ (fun m σ H3 _ hp3 => ?_) (fun m y σ H3 hy hp3 => ?_) (fun σ H3 hp3 => ?_)
      · obtain ⟨x5, us, rfl, k3, h3', r3⟩ := hp3
        exact (kts0 k3).sqT hTz
      · obtain ⟨x5, us, rfl, k3, h3', r3⟩ := hp3
        obtain ⟨dz, edz, rz⟩ := hzs.get' hy
        rw [List.getElem?_map] at edz
        obtain ⟨tt, ett, rfl⟩ := Option.map_eq_some_iff.mp edz
        have lus : us.length ≤ 100 := by rw [r3.length, List.length_map, List.length_map, List.length_take]; omega
        have tk : ((ts.take (m + 1)).map (plT alone j)).map Th.enc = ((ts.take m).map (plT alone j)).map Th.enc ++ [(plT alone j tt).enc] := by
          rw [List.take_add_one, ett]
          simp
        have hpp3 := k3 _ _ h (by simp)
        have fin2 : ∀ (v : V) (H4 : Hp), Keep [] H3 H4 → Rp K H4 v (plT alone j tt).enc → ∀ H5, H5 lp = some (.lst (us ++ [v])) → Keep [lp] H4 H5 → ∃ (x5' : Option V) (us' : List V), [some (V.ref bp), some (.bl alone), some (.ref p), some (.ref a), some (.ref lp), some v] = [some (.ref bp), some (.bl alone), some (.ref p), some (.ref a), some (.ref lp), x5'] ∧ Keep [] H' H5 ∧ H5 lp = some (.lst us') ∧ Rps K H5 us' (((ts.take (m + 1)).map (plT alone j)).map Th.enc) := fun v H4 k4 rv H5 h5 k5 => by
          have h4 := k4 _ _ h3' (by simp)
          have t5 : Tst H4 H5 := k5.ts fun x hx => by cases List.mem_singleton.mp hx; exact .inl ⟨_, h4⟩
          refine ⟨_, _, rfl, (k3.trans k4).fresh1 k5 nlp, h5, ?_⟩
          rw [tk]
          exact (r3.ts ((kts0 k4).trans t5)).append (.cons (rv.ts t5) .nil)
        walk_at "rd"
        cases alone with
        | true =>
          walk_at "rd"
          intro pn H4 npn hpn k4
          have h4 := k4 _ _ h3' (by simp)
          walk_at "rd"
          intro H5 h5 k5
          refine fin2 _ H4 k4 ?_ H5 h5 k5
          have e3 : ((ys.length : Int) % 3) = ((j % 3 : Nat) : Int) := by omega
          have hpn' : H4 pn = some (.tup [.str "num", .int ((j % 3 : Nat) : Int)]) := by rw [hpn, e3]
          exact .tup (SqT.of hpn') (.cons (.str _) (.cons (.int _) .nil))
        | false =>
          walk_at "rd"
          intro pn H4 npn hpn k4
          walk_at "rd"
          intro pm H5 npm hpm k5
          have h5 := k5 _ _ (k4 _ _ h3' (by simp)) (by simp)
          walk_at "rd"
          intro H6 h6 k6
          refine fin2 _ H5 (k4.trans k5) ?_ H6 h6 k6
          exact .tup (SqT.of hpm) (.cons (.str _) (.cons (rz.ts (kts0 ((k3.trans k4).trans k5))) (.cons (.tup ((kts0 k5).sqT (SqT.of hpn)) (.cons (.str _) (.cons (.int _) .nil))) .nil)))
      · obtain ⟨x5, us, rfl, k3, h3', r3⟩ := hp3
        rw [List.take_of_length_le (by omega)] at r3
        have hS3 := (kts0 k3).sqT hS
        have hpp3 := k3 _ _ h (by simp)
        walk_at "rd"
        intro ps H4 hps k4 f4
        have hps' : SqT K H4 ps [.str "call", .int (kk : Int)] := hps
        have h4 := k4 _ _ h3' (by simp)
        walk_at "rd"
        intro pt H5 npt hpt k5
        walk_at "rd"
        intro pu H6 npu hpu k6
        have hps6 := (kts0 (k5.trans k6)).sqT hps'
        walk_at "rd"
        refine r_catA hps6 (SqT.of hpu) (small (Nat.le_of_ble_eq_true rfl)) fun pq H7 hS7 k7 f7 => ?_
        have k37 := ((k4.trans k5).trans k6).trans k7
        have h7 := (k3.trans k37) _ _ h (by simp)
        walk_at "rd"
        intro H8 h8 k8
        refine fin _ H7 (k3.trans k37) ?_ _ _ H8 h8 k8
        rw [plS]
        exact .tup hS7 (.cons (.str _) (.cons (.int _) (.cons (.tup ((kts0 (k6.trans k7)).sqT (SqT.of hpt)) (r3.ts (kts0 k37))) .nil)))
  · obtain ⟨x3, x4, x5, ys, ds, rfl, k, h, r, lj, e, okd, mbd⟩ := hp
    have lv : xs.length = b.encs.length := hxs.length
    rw [lv, Sts.drop_all, plB] at e
    have e' : ds ++ ([] : List PyData) = G := e
    rw [List.append_nil] at e'
    subst e'
    walk_at "rd"
    intro tr H5 ntr htr k5
    exact q _ H5 (k.trans k5) (.tup (SqT.of htr) (r.ts (kts0 k5)))
theorem okPlains (D : DefAt K mg "_law_plain" sL_plain pL_plain) (T : Blt mg) : ∀ n, Callee P w K mg base "_law_plain" n pL_plain (spPlain K n)
  | 0 => D.none fun vs H Q E h => by
    obtain ⟨_, _, _, _, _, d, _, _, dn, _⟩ := h
    omega
  | n + 1 => okPlain D T (okPlains D T n)
end
end Hw
namespace Hw
open PySem PySem.Spec PyProof.Rows L2
local macro_rules | `(tactic| walk_at "sz") => `(tactic| first | exact Nat.le_of_ble_eq_true rfl | exact small (by first | omega | (simp; done) | (simp; omega)))
local macro_rules | `(tactic| walk_at "szT") => `(tactic| first | exact Nat.lt_of_lt_of_le (Nat.lt_succ_self _) (Nat.le_of_ble_eq_true rfl) | exact smallT (by first | omega | (simp; done) | (simp; omega)))
local macro_rules | `(tactic| walk_at "cond") => `(tactic| first | decide | omega | (dsimp only; omega) | exact ⟨by omega, by omega⟩ | exact .inr ⟨by decide, by decide⟩)
local macro_rules | `(tactic| walk_at "sq") => `(tactic| first | assumption | exact SqL.of (by assumption) | exact SqT.of (by assumption))
local macro_rules | `(tactic| walk_at "ty") => `(tactic| first | (with_reducible assumption) | exact .base (.int _) | exact .base (.str _) | exact .base (.bl _) | exact .base .non | exact tyT (by walk_at "sq") | exact tyL (by walk_at "sq"))
local macro_rules | `(tactic| walk_at "rd1") => `(tactic| first
  | ((with_reducible apply r_seq))
  | ((with_reducible apply r_asg))
  | ((with_reducible apply r_name))
  | ((with_reducible apply r_op))
  | ((with_reducible apply r_var); exact rfl)
  | ((with_reducible apply r_c))
  | ((with_reducible apply r_ixT); (walk_at "sq"); first | exact rfl | assumption)
  | ((with_reducible apply r_ixL); (walk_at "sq"); first | exact rfl | assumption)
  | ((with_reducible apply r_ixA); (first | exact .inl (by walk_at "sq") | exact .inr (by walk_at "sq")); first | exact rfl | assumption)
  | ((with_reducible apply r_isi); (walk_at "ty"); (decide +kernel))
  | ((with_reducible apply r_isiT2); assumption; (walk_at "ty"); (decide +kernel); (decide +kernel))
  | ((with_reducible apply r_I0))
  | ((with_reducible apply r_I); (walk_at "cond"))
  | ((with_reducible apply r_eq); exact rfl)
  | ((with_reducible apply r_ne); exact rfl)
  | ((with_reducible apply r_test))
  | ((with_reducible apply r_bl))
  | ((with_reducible apply r_if))
  | ((with_reducible apply r_nil))
  | ((with_reducible apply r_cons))
  | ((with_reducible apply r_call))
  | ((with_reducible apply r_cb))
  | ((with_reducible apply r_tup))
  | ((with_reducible apply r_lst))
  | ((with_reducible apply new); (walk_at "sz"))
  | ((with_reducible apply r_ret))
  | ((with_reducible apply r_retN))
  | ((with_reducible apply r_next))
  | ((with_reducible apply r_drop))
  | ((with_reducible apply r_lenL); (walk_at "sq"))
  | ((with_reducible apply r_lenT); (walk_at "sq"))
  | ((with_reducible apply r_int))
  | ((with_reducible apply r_intB))
  | ((with_reducible apply r_isN))
  | ((with_reducible apply r_notN))
  | ((with_reducible apply r_B))
  | ((with_reducible apply r_not))
  | ((with_reducible apply r_notV))
  | ((with_reducible apply r_andV))
  | ((with_reducible apply r_orV))
  | ((with_reducible apply r_ifE))
  | ((with_reducible apply r_chain))
  | ((with_reducible apply ite_t); (first | (with_reducible exact nRN) | (with_reducible exact nIN) | (with_reducible exact dNN) | decide +kernel))
  | ((with_reducible apply ite_f); (first | (with_reducible exact dRN) | (with_reducible exact dIN) | (with_reducible exact nNN) | decide +kernel))
  | ((with_reducible apply r_in); (first | exact .inl (by walk_at "sq") | exact .inr (by walk_at "sq")); exact rfl; (first | exact nums_flat | exact rfl))
  | ((with_reducible apply turn))
  | ((with_reducible apply r_for))
  | ((with_reducible apply r_iRng1))
  | ((with_reducible apply r_rng); (first | decide | omega | (simp; omega)); (first | decide | omega | (simp; omega)))
  | ((with_reducible apply r_iList))
  | ((with_reducible apply r_iTup))
  | ((with_reducible apply r_overL); (walk_at "sq"))
  | ((with_reducible apply r_overT); (walk_at "sq"))
  | ((with_reducible apply r_lc))
  | ((with_reducible apply acc); assumption; (walk_at "szT"))
  | ((with_reducible apply r_sub))
  | ((with_reducible apply r_setL); assumption; exact rfl)
  | ((with_reducible apply r_gtup); (walk_at "sq"); rfl)
  | ((with_reducible apply r_gnil))
  | ((with_reducible apply r_gcons))
  | ((with_reducible apply r_par))
  | ((with_reducible apply r_par2))
  | ((with_reducible apply r_sl))
  | ((with_reducible apply r_part))
  | ((with_reducible apply r_part1))
  | ((with_reducible apply r_noPart))
  | ((with_reducible apply r_slL); (walk_at "sq"))
  | ((with_reducible apply r_slA); (walk_at "sq"))
  | ((with_reducible apply r_tupL); (walk_at "sq"))
  | ((with_reducible apply r_tupT); (walk_at "sq"))
  | ((with_reducible apply r_lstL); (walk_at "sq"))
  | ((with_reducible apply r_lstT); (walk_at "sq"))
  | ((with_reducible apply r_append))
  | ((with_reducible apply r_isL); (walk_at "sq"))
  | ((with_reducible apply r_app); assumption; (walk_at "szT"))
  | ((with_reducible apply r_dget))
  | ((with_reducible apply r_dgetS); assumption; (walk_at "dk"))
  | ((with_reducible apply r_dput))
  | ((with_reducible apply r_dputS); assumption; (walk_at "szT"))
  | ((with_reducible apply r_disp))
  | ((with_reducible apply r_pnil))
  | ((with_reducible apply r_pcons))
  | ((with_reducible apply r_fld))
  | ((with_reducible apply r_fld1); assumption; assumption; assumption; (first | exact rfl | assumption))
  | ((with_reducible apply r_sfld))
  | ((with_reducible apply r_sfld1); assumption; assumption; assumption; exact (by decide)))
local macro_rules | `(tactic| walk_at "rd") => `(tactic| repeat walk_at "rd1")
local macro_rules | `(tactic| walk_at "lk") => `(tactic| first | (with_reducible exact cell_number) | (with_reducible exact cell_loans) | (with_reducible exact frame_owns) | (with_reducible exact frame_handed) | (with_reducible exact frame_roads) | (with_reducible exact want_thing) | (with_reducible exact want_frame) | (with_reducible exact run_program) | (with_reducible exact run_ways) | (with_reducible exact run_commons) | (with_reducible exact run_said) | (with_reducible exact run_lent) | (with_reducible exact run_mixed))
local macro_rules | `(tactic| walk_at "rd1") => `(tactic| first
  | ((with_reducible apply r_enumT))
  | ((with_reducible apply r_overE); (walk_at "sq"))
  | ((with_reducible apply r_zipA))
  | ((with_reducible apply r_zipT); (walk_at "sq"); (walk_at "sq"))
  | ((with_reducible apply r_zip3))
  | ((with_reducible apply r_overZ3); (walk_at "sq"); (walk_at "sq"); (walk_at "sq"))
  | ((with_reducible apply r_make))
  | ((with_reducible apply r_isiC); assumption; assumption; assumption)
  | ((with_reducible apply r_popM))
  | ((with_reducible apply r_pop); assumption)
  | ((with_reducible apply r_tru))
  | ((with_reducible apply r_truL); (walk_at "sq"))
  | ((with_reducible apply r_fld1); assumption; assumption; assumption; (walk_at "lk"))
  | ((with_reducible apply r_sfld1); assumption; assumption; assumption; exact Nat.le_of_ble_eq_true rfl))
local macro_rules | `(tactic| walk_at "rd1") => `(tactic| first
  | ((with_reducible apply r_revR))
  | ((with_reducible apply r_revOf); (first | omega | decide))
  | ((with_reducible apply r_zipT3))
  | ((with_reducible apply r_overZT3); (walk_at "sq"); (walk_at "sq"); (walk_at "sq"))
  | ((with_reducible apply r_rep1); assumption; (first | omega | (simp; omega))))
section
variable {P : Program} {w : World} {K : PySem.W.Frag} {mg : Str → Option Value} {base : Heap}
/-! ### the law of nothing that is a place: the law itself -/
def spLaw (K : PySem.W.Frag) : Sp := fun vs H Q _ => ∃ (a : Addr) (ns : List Int), vs = [.ref a] ∧ Scr K H a ns ∧ ∀ H', Q (.bl true) H'
def spMixedA (K : PySem.W.Frag) : Sp := fun vs H Q E => ∃ i : List Wk × List (List Str), spMixed K i.1 i.2 vs H Q E
/-- a test that is known, whatever it makes beside -/
theorem known {σ : L2.St} {H : Hp} {QT : Bool → Hp → Prop} {t : TT} (b : Bool) (h : ∀ R : Bool → Hp → Prop, (∀ H1, Keep [] H H1 → R b H1) → t σ H R) (q : ∀ H1, Keep [] H H1 → QT b H1) : t σ H QT := h QT q
theorem lcTi {σ : L2.St} {H : Hp} {Q : VK} {te : TE} {a : Addr} {xs : List V} {g : TG} {tt : TT} {vs : List Nat} (Pv : Addr → Nat → Hp → Prop) (h0 : ∀ E H1, H E = none → H1 E = some (.lst []) → Keep [] H H1 → Pv E 0 H1) (hG : ∀ E i H, i ≤ xs.length → Pv E i H → SqT K H a xs)
    (hs : ∀ E i x H, xs[i]? = some x → Pv E i H → g x (wipe σ vs) H fun σ2 H2 => wipe σ2 vs = wipe σ vs ∧ tt σ2 H2 fun b H3 => if b = true then te σ2 H3 fun y H4 => Acc E y H4 (Pv E (i + 1)) else Pv E (i + 1) H3) (hd : ∀ E H, Pv E xs.length H → Q (.ref E) H) : LcIt (Itt K a) g tt te vs σ H Q :=
  lcYi walk_tup Pv h0 hG (fun E i x H H' hi p y => by
    obtain ⟨rfl, e⟩ := y
    exact hs E i x H' e p) hd
theorem bools_flat {l : List Bool} : (bools l).all flatV = true := by
  unfold bools
  rw [List.all_map, List.all_eq_true]
  intro x _
  rfl
theorem inV_bools {l : List Bool} : inV (.bl true) (bools l) = decide (true ∈ l) := by
  unfold inV bools
  rw [List.any_map, Bool.eq_iff_iff, List.any_eq_true, decide_eq_true_eq]
  constructor
  · rintro ⟨x, hx, e⟩
    have e' : eqV (.bl x) (.bl true) = true := e
    cases x with
    | true => exact hx
    | false => exact absurd e' (by decide)
  · intro h
    exact ⟨true, h, by decide⟩
theorem firstD_none {p : List Nat → Bool} (h : ∀ l ∈ all27, p l = false) : firstD p all27 = .none := by
  unfold firstD
  have : all27.find? p = none := by
    rw [List.find?_eq_none]
    intro x hx
    rw [h x hx]
    exact Bool.false_ne_true
  rw [this]
theorem dp_none {H : Hp} {v : V} (h : Dp K H v .none) : v = .non := by cases h; rfl
theorem rps_bools {H : Hp} : ∀ {bs : List Bool} {vs : List V}, Rps K H vs (bs.map PyData.bool) → vs = bools bs
  | [], _, h => by cases h; rfl
  | x :: ws, _, h => by
    cases h with
    | cons h1 h2 =>
      cases h1
      rw [rps_bools h2]
      rfl
def boolD (bs : List Bool) : PyData := .tuple (bs.map PyData.bool)
theorem bool_lay : ∀ {bs : List Bool}, PyData.canLayAll0 (bs.map PyData.bool) = true
  | [] => rfl
  | b :: bs => by
    show (true && PyData.canLayAll0 (bs.map PyData.bool)) = true
    rw [bool_lay]
    rfl
theorem bool_depth : ∀ {bs : List Bool}, PyData.depthAll (bs.map PyData.bool) ≤ 1
  | [] => by show 0 ≤ 1; omega
  | b :: bs => by
    have := bool_depth (bs := bs)
    show max (PyData.depth (.bool b)) (PyData.depthAll (bs.map PyData.bool)) ≤ 1
    have e : PyData.depth (.bool b) ≤ 1 := by show 0 ≤ 1; omega
    omega
theorem boolDs_lay : ∀ {T : List (List Bool)}, PyData.canLayAll0 (T.map boolD) = true
  | [] => rfl
  | b :: bs => by
    show (PyData.canLayAll0 (b.map PyData.bool) && PyData.canLayAll0 (bs.map boolD)) = true
    rw [boolDs_lay, bool_lay]
    rfl
theorem boolDs_depth : ∀ {T : List (List Bool)}, PyData.depthAll (T.map boolD) ≤ 2
  | [] => by show 0 ≤ 2; omega
  | b :: bs => by
    have := boolDs_depth (T := bs)
    have := bool_depth (bs := b)
    show max (PyData.depthAll (b.map PyData.bool) + 1) (PyData.depthAll (bs.map boolD)) ≤ 2
    omega
theorem boolDs_shaped {T : List (List Bool)} : SeqAt.shaped (.list (T.map boolD)) = true := by
  unfold SeqAt.shaped
  rw [Bool.and_eq_true_iff]
  refine ⟨boolDs_lay, decide_eq_true ?_⟩
  have := boolDs_depth (T := T)
  show PyData.depthAll (T.map boolD) + 1 ≤ 64
  omega
theorem good_hnd1 {PP : List Wk} {mm : Nat} (gd : Good PP mm) : Later PP := by
  have T : ∀ {p o : Nat} {ts : List Th} {w k0 : Nat} {h : Hn}, (∀ t ∈ ts, Th.ok p o 4 t) → h ∈ hndT w k0 ts → h.1 < p ∧ ∃ k, h.2 = some (w, k) := by
    intro p o ts
    induction ts with
    | nil => intro w k0 h _ m; unfold hndT at m; cases m
    | cons t ts ih =>
      intro w k0 h ht m
      have fin : h ∈ hndT w (k0 + 1) ts → h.1 < p ∧ ∃ k, h.2 = some (w, k) := fun m => ih (fun u hu => ht u (List.mem_cons_of_mem _ hu)) m
      cases t with
      | par q =>
        rw [hndT_par] at m
        rcases List.mem_cons.mp m with rfl | m
        · exact ⟨Th.ok_par_lt (ht _ List.mem_cons_self), k0, rfl⟩
        · exact fin m
      | num _ => rw [hndT_num] at m; exact fin m
      | sum _ _ => rw [hndT_sum] at m; exact fin m
      | cell _ => rw [hndT_cell] at m; exact fin m
      | own _ => rw [hndT_own] at m; exact fin m
  have step : ∀ (sh : List (Nat × Nat)) (i n : Nat), ∀ {b : Sts} {d : Nat} {h : Hn}, d < n → Sts.ok sh i d b → h ∈ hndB b → h.1 < (sh.getD i (0, 0)).1 ∧ ∀ w k, h.2 = some (w, k) → i < w ∧ w < sh.length := by
    intro sh i n
    induction n with
    | zero => intro b d h dn; omega
    | succ n ih =>
      have S : ∀ {s : St} {d : Nat} {h : Hn}, d < n + 1 → St.ok sh i d s → h ∈ hndS s → h.1 < (sh.getD i (0, 0)).1 ∧ ∀ w k, h.2 = some (w, k) → i < w ∧ w < sh.length := by
        intro s d h dn ok m
        cases s with
        | set p t =>
          obtain ⟨_, okp, _⟩ := St.ok_set' ok
          cases p with
          | par k =>
            unfold hndS at m
            cases List.mem_singleton.mp m
            exact ⟨Th.ok_par_lt okp, fun w k z => by cases z⟩
          | num _ => unfold hndS at m; cases m
          | sum _ _ => unfold hndS at m; cases m
          | cell _ => unfold hndS at m; cases m
          | own _ => unfold hndS at m; cases m
        | say t => unfold hndS at m; cases m
        | ite t a b =>
          cases d with
          | zero => unfold St.ok at ok; exact ok.elim
          | succ d =>
            unfold St.ok at ok
            unfold hndS at m
            rcases List.mem_append.mp m with m | m
            · exact ih (by omega) ok.2.1 m
            · exact ih (by omega) ok.2.2 m
        | call w ts =>
          obtain ⟨iw, wl, lt, okt⟩ := St.ok_call' ok
          unfold hndS at m
          obtain ⟨h1, k, h2⟩ := T okt m
          refine ⟨h1, fun w' k' z => ?_⟩
          rw [h2] at z
          cases z
          exact ⟨iw, wl⟩
      intro b
      induction b using Sts.rec (motive_1 := fun _ => True) with
      | nil => intro d h _ _ m; unfold hndB at m; cases m
      | cons s r _ ihr =>
        intro d h dn ok m
        unfold Sts.ok at ok
        rw [hndB] at m
        rcases List.mem_append.mp m with m | m
        · exact S dn ok.1 m
        · exact ihr dn ok.2 m
      | _ => trivial
  have lsh : (shapes PP).length = PP.length := by unfold shapes; exact List.length_map _
  intro i wk h e m
  obtain ⟨h1, h2⟩ := step (shapes PP) i 3 (by omega) (gd.body i wk e) m
  rw [shapes_at e] at h1
  refine ⟨h1, fun w k z => ?_⟩
  have := h2 w k z
  omega
theorem row_cpb {PP : List Wk} {W : List (List Str)} {opts : List Str} (wo : WaysOk PP W opts) : ∀ ws ∈ W, ∀ x ∈ ws, x ∈ opts := fun ws hws => by
  obtain ⟨i, hi⟩ := List.mem_iff_getElem?.mp hws
  have hl := (List.getElem?_eq_some_iff.mp hi).1
  rw [wo.1] at hl
  exact (wo.2 i _ ws (List.getElem?_eq_getElem hl) hi).2
abbrev slaw : Stmt := top 62
abbrev nlaw : List Str := ["_law_script", "_law_row", "_law_turn", "_law_alone", "_law_program_here", "_law_one", "_law_other", "_law_third", "_law_told", "_law_work", "_law_some"]
abbrev plaw : List Str := ["_law_script"]
theorem sclaw : FnScope nlaw plaw (defScope slaw) := ⟨rfl, rfl, rfl, by decide +kernel, rfl, by decide +kernel, by decide +kernel⟩
theorem okLaw (D : DefAt K mg "law" slaw plaw) (T : Blt mg) (C_law_taken : Callee P w K mg base "_law_taken" 1 pL_taken (spTaken K)) (C_law_program : Callee P w K mg base "_law_program" 15 pL_program (spProgram K)) (C_law_ways : Callee P w K mg base "_law_ways" 2 pL_ways (spWays K))
    (C_law_plain : Callee P w K mg base "_law_plain" 3 pL_plain (spPlain K 3)) (C_parted : Callee P w K mg base "parted" 115 pparted (spParted K)) (C_mixed : Callee P w K mg base "mixed" 114 pmixed (spMixedA K)) (C_may_set : Callee P w K mg base "may_set" 20 pmay_set (spMaySet K)) : Callee P w K mg base "law" 130 plaw (spLaw K) := by
  refine D.ok sclaw (fun vs H Q E h => ?_) (fun f cdv A outer s H vs Q E hr h => ?_)
  · obtain ⟨a, ns, rfl, _⟩ := h
    rfl
  obtain ⟨a, ns, rfl, hS, q⟩ := h
  refine ⟨_, (pss_cons (ps_set (i := 1) sclaw.nd rfl (Or.inl rfl) (pe_lst (pa_cons (pv 0) (pa_cons pe_int (pa_cons pe_int (pa_cons pe_int pa_nil))))))
  (pss_cons (ps_for PassesOwn.never rfl (pi_range1 rfl T.range (pa_cons pe_int pa_nil)) (pg_name (i := 2) sclaw.nd rfl (Or.inl rfl))
   (pss_cons (ps_set (i := 3) sclaw.nd rfl (Or.inr rfl) (pe_cmpR op_eq (pcall C_law_taken (hr.mono (by omega)) rfl (pa_cons (pv 1) (pa_cons pe_int pa_nil))) pe_int (nomark _)))
  (pss_cons (ps_set (i := 4) sclaw.nd rfl (Or.inl rfl) (pe_callTy (cTuple (K := K)) (by rfl) T.tuple (by decide +kernel) (pa_cons (pe_lc (own := [("_law_work", 9)]) (g := gName 9) (by rfl) sclaw.nd (piTup (K := K) (pcall C_law_program (hr.mono (by omega)) rfl (pa_cons (pv 1) (pa_cons pe_int pa_nil)))) (blkOk_by (own := [("_law_work", 9)]) (N := nlaw) (sc := defScope slaw) (by decide +kernel)) (fun _ _ _ _ _ => (pg_name (i := 9) sclaw.nd rfl (Or.inl rfl))) (fun _ _ _ _ _ => pts_nil) (fun _ _ _ _ _ => (pe_op (opCatA (K := K)) (pe_slice (slA (K := K)) (pv 9) po_none (po_some pe_int)) (pe_tup (pa_cons (pcall C_law_plain (hr.mono (by omega)) rfl (pa_cons (pe_ix (ixT (K := K)) (pv 9) pe_int (fun _ _ => rfl)) (pa_cons (pv 3) pa_nil))) pa_nil))))) pa_nil)))
  (pss_cons (ps_set (i := 5) sclaw.nd rfl (Or.inl rfl) (pcall C_law_ways (hr.mono (by omega)) rfl (pa_cons (pv 1) (pa_cons (pv 4) (pa_cons (pe_lst (pa_cons pe_str (pa_cons pe_str (pa_cons pe_str pa_nil)))) pa_nil)))))
  (pss_cons (ps_set (i := 6) sclaw.nd rfl (Or.inl rfl) (pcall C_law_ways (hr.mono (by omega)) rfl (pa_cons (pv 1) (pa_cons (pv 4) (pa_cons (pe_lst (pa_cons pe_str (pa_cons pe_str (pa_cons pe_str pa_nil)))) pa_nil)))))
  (pss_cons (ps_if (PW.pt (pw_or (pt_cmpR op_notN1 (pcall C_parted (hr.mono (by omega)) rfl (pa_cons (pv 4) (pa_cons (pv 5) (pa_cons (pv 6) pa_nil)))) pe_non (nomark _)) (pw_or1 (pt_cmpR op_notN1 (pcall C_mixed (hr.mono (by omega)) rfl (pa_cons (pv 4) (pa_cons (pv 5) pa_nil))) pe_non (nomark _))))) (pss_one (ps_ret pe_bl)) pss_nil)
  (pss_cons (ps_set (i := 7) sclaw.nd rfl (Or.inl rfl) (pcall C_law_ways (hr.mono (by omega)) rfl (pa_cons (pv 1) (pa_cons (pv 4) (pa_cons (pe_lst (pa_cons pe_str (pa_cons pe_str (pa_cons pe_str pa_nil)))) pa_nil)))))
  (pss_cons (ps_setLc (i := 8) (own := [("_law_some", 10)]) (g := gName 10) (by rfl) sclaw.nd rfl rfl (sw_true rfl rfl rfl (by decide +kernel)) (piTup (K := K) (pcall C_may_set (hr.mono (by omega)) rfl (pa_cons (pv 4) (pa_cons (pv 7) pa_nil)))) (blkOk_by (own := [("_law_some", 10)]) (N := nlaw) (sc := defScope slaw) (by decide +kernel)) (fun _ _ _ _ _ => (pg_name (i := 10) sclaw.nd rfl (Or.inl rfl))) (fun _ _ _ _ _ => (pts_one (pt_cmpR (opIn (K := K)) pe_bl (pv 10) (by with_unfolding_all rfl)))) (fun _ _ _ _ _ => (pv 10)))
  (pss_one (ps_if (PW.pt (pw_and (pt_val (pv 3)) (pw_and (pt_cmpR (opEqD (K := K) hr.units) (pv 8) (pe_lst pa_nil) (nomark _)) (pw_and1 (pt_cmpR op_notN1 (pcall C_parted (hr.mono (by omega)) rfl (pa_cons (pv 4) (pa_cons (pv 5) (pa_cons (pv 7) pa_nil)))) pe_non (nomark _)))))) (pss_one (ps_ret pe_bl)) pss_nil))))))))))
  (pss_one (ps_ret pe_bl)))), ?_⟩
  walk_at "rd"
  intro r H1 nr h1 k1
  have R1 : Row K H1 r := ⟨a, ns, 0, 0, 0, h1, hS.ts (kts0 k1), by omega⟩
  walk_at "rd"
  refine forR (fun i σ H' => ∃ x2 x3 x4 x5 x6 x7 x8 x9 x10 : Option V, σ = [some (.ref a), some (.ref r), x2, x3, x4, x5, x6, x7, x8, x9, x10] ∧ Row K H' r) ⟨_, _, _, _, _, _, _, _, _, rfl, R1⟩ (fun i σ H0 hi hp => ?_) (fun σ H' hp => ?_)
  · obtain ⟨x2, x3, x4, x5, x6, x7, x8, x9, x10, rfl, R0⟩ := hp
    walk_at "rd"
    refine ask ⟨r, 2, rfl, by omega, by omega, R0, fun z0 H2 z00 z01 k2 R2 => ?_⟩
    walk_at "rd"
    generalize decide (V.int z0 = V.int 1) = al
    refine ask ⟨r, 8, rfl, by omega, by omega, R2, fun v PP H3 hv gd k3 R3 => ?_⟩
    obtain ⟨a1, xs1, rfl, hT, hl1, hat⟩ := encP_at hv
    have few := gd.few
    have sh3 : ∀ w, ((shapes PP).getD w (0, 0)).1 ≤ 3 := fun w => by
      rw [shapes_params]
      rw [List.getD_eq_getElem?_getD]
      cases e : PP[w]? with
      | none => show 0 ≤ 3; omega
      | some wk => exact gd.params wk (List.mem_of_getElem? e)
    walk_at "rd"
    refine lcT (xs := xs1) (fun E j H' => H3 E = none ∧ Keep [] H3 H' ∧ ∃ ys, H' E = some (.lst ys) ∧ Rps K H' ys ((plP al (PP.take j)).map Wk.enc)) (fun E H4 nE e4 k4 => ⟨nE, k4, [], e4, by rw [List.take_zero]; exact .nil⟩) (fun E j H4 _ hp => (kts0 hp.2.1).sqT hT) (fun E j x H4 hx hp => ?_) (fun E H4 hp => ?_)
    · obtain ⟨nE, k4, ys, e4, r4⟩ := hp
      have hjP : j < PP.length := by
        have := (List.getElem?_eq_some_iff.mp hx).1
        omega
      have ej : PP[j]? = some PP[j] := List.getElem?_eq_getElem hjP
      obtain ⟨wq, vb, ap, hWq, hB⟩ := hat j PP[j] ej
      have ex : x = .ref wq := by
        have := atI_nat hx
        rw [ap] at this
        exact (Option.some.inj this).symm
      subst ex
      have hW4 := (kts0 k4).sqT hWq
      have lys : ys.length ≤ 100 := by rw [r4.length, List.length_map]; unfold plP; rw [List.length_map, List.length_take]; omega
      have mb := gd.many _ (List.getElem_mem hjP)
      walk_at "rd"
      refine ⟨rfl, ?_⟩
      walk_at "rd"
      intro ps H5 hps k5 f5
      have hps' : SqT K H5 ps [.int (PP[j].params : Int), .int (PP[j].owns : Int)] := hps
      have hW5 := (kts0 k5).sqT hW4
      have b2 : atI [V.int (PP[j].params : Int), .int (PP[j].owns : Int), vb] 2 = some vb := at2
      walk_at "rd"
      refine ask ⟨vb, al, PP[j].body, shapes PP, j, 2, rfl, hB.ts (kts0 (k4.trans k5)), by omega, gd.body j _ ej, by omega, sh3, fun v2 H6 k6 r6 => ?_⟩
      walk_at "rd"
      intro pt H7 npt hpt k7
      have hps7 := (kts0 (k6.trans k7)).sqT hps'
      walk_at "rd"
      refine r_catA hps7 (SqT.of hpt) (small (Nat.le_of_ble_eq_true rfl)) fun pq H8 hS8 k8 f8 => ?_
      have k48 := ((k5.trans k6).trans k7).trans k8
      have e8 := k48 _ _ e4 (by simp)
      walk_at "rd"
      intro H9 h9 k9
      have t9 : Tst H8 H9 := k9.ts fun x hx => by cases List.mem_singleton.mp hx; exact .inl ⟨_, e8⟩
      refine ⟨nE, (k4.trans k48).fresh1 k9 nE, _, h9, ?_⟩
      have e : (plP al (PP.take (j + 1))).map Wk.enc = (plP al (PP.take j)).map Wk.enc ++ [(⟨PP[j].params, PP[j].owns, plB al 0 PP[j].body⟩ : Wk).enc] := by
        unfold plP
        rw [List.take_add_one, ej, List.map_append, List.map_append]
        rfl
      rw [e]
      exact (r4.ts ((kts0 k48).trans t9)).append (.cons (.tup (t9.sqT hS8) (.cons (.int _) (.cons (.int _) (.cons ((r6.ts (kts0 (k7.trans k8))).ts t9) .nil)))) .nil)
    obtain ⟨nE, k4, ys, e4, r4⟩ := hp
    rw [hl1, List.take_length] at r4
    walk_at "rd"
    intro pt H5 npt hpt k5
    have R5 := (R3.keep0 k4).keep0 k5
    have hv5 : Rp K H5 (.ref pt) (encP (plP al PP)) := .tup (SqT.of hpt) (r4.ts (kts0 k5))
    have g2 := plP_good (alone := al) gd
    have bare := plP_bare (alone := al) (PP := PP)
    have nums : ∀ wk ∈ plP al PP, al = true → (∀ k, ((k, none) : Hn) ∉ hndB wk.body) → wk.body.numsO := fun wk hwk ea hk => by
      subst ea
      unfold plP at hwk
      obtain ⟨v, hv, rfl⟩ := List.mem_map.mp hwk
      exact plB_nums hk
    have lit : ∀ wk ∈ plP al PP, wk.body.lit := fun wk hwk => by
      obtain ⟨i, hi⟩ := List.mem_iff_getElem?.mp hwk
      exact Sts.ok_lit (g2.body i wk hi)
    generalize plP al PP = PQ at hv5 g2 bare nums lit
    walk_at "rd"
    intro p6 H6 n6 h6 k6
    have R6 := R5.keep0 k6
    have p6r : p6 ≠ r := fun z => R5.ne (z ▸ n6)
    have hv6 := hv5.ts (kts0 k6)
    walk_at "rd"
    refine ask ⟨r, p6, .ref pt, PQ, ["copy", "place", "back"], rfl, R6, hv6, g2.few, g2.params, h6, by decide, by decide, p6r, fun u1 W1 H7 hu1 wo1 k7 R7 => ?_⟩
    have hv7 := hv6.ts (R6.ts k7)
    walk_at "rd"
    intro p8 H8 n8 h8 k8
    have R8 := R7.keep0 k8
    have p8r : p8 ≠ r := fun z => R7.ne (z ▸ n8)
    have hv8 := hv7.ts (kts0 k8)
    have hu18 := hu1.ts (kts0 k8)
    walk_at "rd"
    refine ask ⟨r, p8, .ref pt, PQ, ["copy", "place", "back"], rfl, R8, hv8, g2.few, g2.params, h8, by decide, by decide, p8r, fun u2 W2 H9 hu2 wo2 k9 R9 => ?_⟩
    have hv9 := hv8.ts (R8.ts k9)
    have hu19 := hu18.ts (R8.ts k9)
    have cpb : ∀ x ∈ (["copy", "place", "back"] : List Str), x = "copy" ∨ x = "place" ∨ x = "back" := fun x hx => by
      simp only [List.mem_cons, List.not_mem_nil, or_false] at hx
      exact hx
    have to4 : ∀ {W : List (List Str)}, WaysOk PQ W ["copy", "place", "back"] → WaysOk PQ W ways4 := fun wo => ⟨wo.1, fun i w ws e1 e2 => ⟨(wo.2 i w ws e1 e2).1, fun x hx => by
      rcases cpb x ((wo.2 i w ws e1 e2).2 x hx) with rfl | rfl | rfl <;> decide +kernel⟩⟩
    have c1 : ∀ ws ∈ W1, Cpb ws := fun ws hws x hx => cpb x (row_cpb wo1 ws hws x hx)
    have c2 : ∀ ws ∈ W2, Cpb ws := fun ws hws x hx => cpb x (row_cpb wo2 ws hws x hx)
    have pw1 : Pw PQ W1 := ⟨⟨8 + 2, g2, by omega⟩, to4 wo1⟩
    have pw2 : Pw PQ W2 := ⟨⟨8 + 2, g2, by omega⟩, to4 wo2⟩
    have part0 : firstD (partAt PQ W1 W2) all27 = .none := firstD_none fun l hl => by
      obtain ⟨i, hi⟩ := List.mem_iff_getElem?.mp hl
      obtain ⟨S, eS, _⟩ := pw1.ran hi
      have e2 : ranF PQ W2 30 15 l = some S := by
        rw [← eS]
        refine ranF_bare bare wo2.1 wo1.1 fun i ws ws2 e1 e2 => ?_
        have hl := (List.getElem?_eq_some_iff.mp e1).1
        rw [wo2.1] at hl
        have ep := List.getElem?_eq_getElem hl
        exact ⟨by rw [(wo2.2 i _ ws ep e1).1, (wo1.2 i _ ws2 ep e2).1], c2 ws (List.mem_of_getElem? e1), c1 ws2 (List.mem_of_getElem? e2)⟩
      unfold partAt
      rw [eS, e2]
      simp
    have mix0 : firstD (mixAt PQ W1) all27 = .none := firstD_none fun l hl => by
      obtain ⟨i, hi⟩ := List.mem_iff_getElem?.mp hl
      obtain ⟨S, eS, _⟩ := pw1.ran hi
      unfold mixAt
      rw [eS]
      exact ranF_unl bare c1 eS
    walk_at "rd"
    refine known false (fun R hR => ?_) (fun H10 k10 => ?_)
    · refine r_or ?_
      walk_at "rd"
      refine ask ⟨.ref pt, u1, u2, PQ, W1, W2, rfl, hv9, hu19, hu2, pw1, pw2, fun y H10 k10 dy => ?_⟩
      rw [part0] at dy
      cases dp_none dy
      walk_at "rd"
      refine ask ⟨(PQ, W1), .ref pt, u1, rfl, hv9.ts (kts0 k10), hu19.ts (kts0 k10), pw1, fun y H11 k11 dy => ?_⟩
      rw [mix0] at dy
      cases dp_none dy
      walk_at "rd"
      exact hR _ (k10.trans k11)
    have R10 := R9.keep0 k10
    have hv10 := hv9.ts (kts0 k10)
    have hu110 := hu19.ts (kts0 k10)
    walk_at "rd"
    intro p11 H11 n11 h11 k11
    have R11 := R10.keep0 k11
    have p11r : p11 ≠ r := fun z => R10.ne (z ▸ n11)
    have hv11 := hv10.ts (kts0 k11)
    have hu111 := hu110.ts (kts0 k11)
    walk_at "rd"
    refine ask ⟨r, p11, .ref pt, PQ, ["copy", "want", "place"], rfl, R11, hv11, g2.few, g2.params, h11, by decide, by decide, p11r, fun u3 W3 H12 hu3 wo3 k12 R12 => ?_⟩
    have hv12 := hv11.ts (R11.ts k12)
    have hu112 := hu111.ts (R11.ts k12)
    have cpw : ∀ x ∈ (["copy", "want", "place"] : List Str), x = "copy" ∨ x = "want" ∨ x = "place" := fun x hx => by
      simp only [List.mem_cons, List.not_mem_nil, or_false] at hx
      exact hx
    have c3 : ∀ ws ∈ W3, Cpw ws := fun ws hws x hx => cpw x (row_cpb wo3 ws hws x hx)
    have wo34 : WaysOk PQ W3 ways4 := ⟨wo3.1, fun i w ws e1 e2 => ⟨(wo3.2 i w ws e1 e2).1, fun x hx => by
      rcases cpw x ((wo3.2 i w ws e1 e2).2 x hx) with rfl | rfl | rfl <;> decide +kernel⟩⟩
    have pw3 : Pw PQ W3 := ⟨⟨8 + 2, g2, by omega⟩, wo34⟩
    walk_at "rd"
    refine ask ⟨.ref pt, u3, PQ, W3, 8 + 2, rfl, hv12, hu3, g2, by omega, wo34, fun y H13 k13 ry => ?_⟩
    have R13 := R12.keep0 k13
    have lms := toldF_len (P := PQ) (W := W3) PQ.length
    have fewQ := g2.few
    obtain ⟨ta, zs, rfl, hTz, hzs⟩ := ry.tup_inv
    have lzs : zs.length = PQ.length := by rw [hzs.length, List.length_map]; exact lms
    walk_at "rd"
    refine lcTi (xs := zs) (fun E j H' => H13 E = none ∧ Keep [] H13 H' ∧ ∃ ys, H' E = some (.lst ys) ∧ Rps K H' ys ((((maySet PQ W3).take j).filter fun bs => decide (true ∈ bs)).map boolD)) (fun E H14 nE e14 k14 => ⟨nE, k14, [], e14, by rw [List.take_zero]; exact .nil⟩) (fun E j H14 _ hp => (kts0 hp.2.1).sqT hTz) (fun E j x H14 hx hp => ?_) (fun E H14 hp => ?_)
    · obtain ⟨nE, k14, ys, e14, r14⟩ := hp
      obtain ⟨dz, edz, rz⟩ := hzs.get' hx
      rw [List.getElem?_map] at edz
      obtain ⟨bs, ebs, rfl⟩ := Option.map_eq_some_iff.mp edz
      obtain ⟨ra, vs, rfl, hTr, hvs⟩ := rz.tup_inv
      have evs := rps_bools hvs
      subst evs
      have hTr14 := (kts0 k14).sqT hTr
      have tk1 : (maySet PQ W3).take (j + 1) = (maySet PQ W3).take j ++ [bs] := by rw [List.take_add_one, ebs]; rfl
      have lys : ys.length ≤ 100 := by
        rw [r14.length, List.length_map]
        have := List.length_filter_le (fun bs : List Bool => decide (true ∈ bs)) ((maySet PQ W3).take j)
        rw [List.length_take] at this
        have e : (maySet PQ W3).length = PQ.length := lms
        omega
      walk_at "rd"
      refine ⟨rfl, ?_⟩
      walk_at "rd"
      refine r_in (.inr hTr14) rfl bools_flat ?_
      walk_at "rd"
      rw [show (if false = true then !inV (V.bl true) (bools bs) else inV (V.bl true) (bools bs)) = decide (true ∈ bs) from inV_bools]
      refine cases_b (decide (true ∈ bs)) (fun c => ?_) (fun c => ?_)
      · rw [if_pos c]
        walk_at "rd"
        intro H15 h15 k15
        have t15 : Tst H14 H15 := k15.ts fun x hx => by cases List.mem_singleton.mp hx; exact .inl ⟨_, e14⟩
        refine ⟨nE, k14.fresh1 k15 nE, _, h15, ?_⟩
        rw [tk1, List.filter_append, List.filter_cons_of_pos (p := fun bs : List Bool => decide (true ∈ bs)) c, List.filter_nil, List.map_append]
        exact (r14.ts t15).append (.cons (.tup (t15.sqT hTr14) bools_rps) .nil)
      · rw [if_neg (by rw [c]; exact Bool.false_ne_true)]
        refine ⟨nE, k14, ys, e14, ?_⟩
        rw [tk1, List.filter_append, List.filter_cons_of_neg (p := fun bs : List Bool => decide (true ∈ bs)) (by rw [c]; exact Bool.false_ne_true), List.filter_nil, List.append_nil]
        exact r14
    obtain ⟨nE, k14, ys, e14, r14⟩ := hp
    rw [List.take_of_length_le (by rw [lzs]; unfold maySet; omega)] at r14
    have kept : ((maySet PQ W3).filter fun bs => decide (true ∈ bs)) = [] → al = true → firstD (partAt PQ W1 W3) all27 = .none := fun hk ha => firstD_none fun l hl => by
      obtain ⟨i, hi⟩ := List.mem_iff_getElem?.mp hl
      obtain ⟨l3, lc⟩ := all27_ok hi
      obtain ⟨S, eS, _⟩ := pw1.ran hi
      obtain ⟨S3, eS3, _⟩ := pw3.ran hi
      have L := good_hnd1 g2
      have no : ∀ wk ∈ PQ, ∀ k, ((k, none) : Hn) ∉ hndB wk.body := fun wk hwk k hm => by
        obtain ⟨i, hi⟩ := List.mem_iff_getElem?.mp hwk
        have ms : MS PQ W3 i k := .set hi hm
        have hil := (List.getElem?_eq_some_iff.mp hi).1
        have h2 := (toldF_iff L PQ.length (Nat.le_refl _) i (by omega) k).mpr ms
        have em : (maySet PQ W3)[i]? = some ((toldF PQ W3 PQ.length).getD i []) := by
          unfold maySet
          rw [List.getD_eq_getElem?_getD, List.getElem?_eq_getElem (by omega)]
          rfl
        have h3 := List.filter_eq_nil_iff.mp hk _ (List.mem_of_getElem? em)
        exact h3 (decide_eq_true (List.mem_of_getElem? h2))
      obtain ⟨e1, e2⟩ := ranF_sim (fun wk hwk => nums wk hwk ha (no wk hwk)) lit c1 c3 l3 lc eS eS3
      unfold partAt
      rw [eS, eS3]
      show (!(decide (S.said = S3.said) && decide (S.at_.take 3 = S3.at_.take 3))) = false
      rw [decide_eq_true e1, decide_eq_true e2]
      rfl
    have hv14 := (hv12.ts (kts0 k13)).ts (kts0 k14)
    have hu114 := (hu112.ts (kts0 k13)).ts (kts0 k14)
    have hu314 := (hu3.ts (kts0 k13)).ts (kts0 k14)
    walk_at "rd"
    refine known false (fun R hR => ?_) (fun H15 k15 => ?_)
    · refine r_and ?_
      walk_at "rd"
      refine cases_b al (fun ca => ?_) (fun ca => ?_)
      case refine_2 =>
        rw [if_neg (by rw [ca]; exact Bool.false_ne_true)]
        exact hR _ Keep.refl
      rw [if_pos ca]
      refine r_and ?_
      walk_at "rd"
      intro pe H15 npe hpe k15
      have e15 := k15 _ _ e14 (by simp)
      generalize ek : ((maySet PQ W3).filter fun bs => decide (true ∈ bs)) = T3 at r14 kept
      refine ⟨.list (T3.map boolD), .list [], .lst (SqL.of e15) (r14.ts (kts0 k15)).dp, .lst (SqL.of hpe) .nil, boolDs_shaped, by decide +kernel, ?_⟩
      walk_at "rd"
      cases T3 with
      | cons b T3 =>
        have e : PyData.eqv (.list ((b :: T3).map boolD)) (.list []) = false := rfl
        rw [e, if_neg Bool.false_ne_true]
        exact hR _ k15
      | nil =>
        have e : PyData.eqv (.list (([] : List (List Bool)).map boolD)) (.list []) = true := rfl
        rw [e, if_pos rfl]
        walk_at "rd"
        refine ask ⟨.ref pt, u1, u3, PQ, W1, W3, rfl, hv14.ts (kts0 k15), hu114.ts (kts0 k15), hu314.ts (kts0 k15), pw1, pw3, fun y H16 k16 dy => ?_⟩
        rw [kept rfl ca] at dy
        cases dp_none dy
        walk_at "rd"
        exact hR _ (k15.trans k16)
    walk_at "rd"
    exact ⟨_, _, _, _, _, _, _, _, _, rfl, (R13.keep0 k14).keep0 k15⟩
  · obtain ⟨x2, x3, x4, x5, x6, x7, x8, x9, x10, rfl, R0⟩ := hp
    walk_at "rd"
    exact q _
end
end Hw
namespace Hw
open PySem PySem.Spec PyProof.Rows L2
theorem Callee.at_ {P : Program} {w : World} {K : PySem.W.Frag} {mg : Str → Option Value} {base : Heap} {x : Str} {k : Nat} {ps : List Str} {sp : Sp} {f : Addr} {fd : FuncData} {oc : Value} {od : Option Addr} {osl : Array (Option Value)} (C : Callee P w K mg base x k ps sp) (m : mg x = some (.ref f)) (l : K.lookup f = some ⟨oc, od, .func fd, osl⟩) :
    FnOk P w K mg base CX0 k f fd ps sp := by
  obtain ⟨f', fd', F, m', kp, b, oc', od', osl', lk⟩ := C.ex
  rw [m] at m'
  cases m'
  rw [l] at lk
  cases lk
  exact F
theorem scr_of {K : PySem.W.Frag} {H : Hp} {a : Addr} {ns : List Int} (o : Only H) (h : SqL K H a (ns.map V.int)) : Scr K H a ns := by
  rcases h with (h | ⟨ob, h⟩) | h
  · rcases o a with q | ⟨ob, xs, q⟩
    · rw [q] at h; cases h
    · rw [q] at h; cases h
  · exact .inl ⟨ob, h⟩
  · exact .inr ⟨rfl, .inr h⟩
theorem kit_self {K : PySem.W.Frag} {C : Addr} : PySem.W.kitOne K (.ref C) (.ref C) = some true := by
  unfold PySem.W.kitOne
  rw [if_pos (beq_self_eq_true _)]
theorem kit_no {K : PySem.W.Frag} {C D : Addr} (n : C ≠ D) (h1 : PySem.W.isClsIn K D = true) (h2 : PySem.W.typeIn K (.ref D) = some (.type "type")) (h3 : PySem.W.subIn K (.ref C) (.ref D) = some false) : PySem.W.kitOne K (.ref C) (.ref D) = some false := by
  unfold PySem.W.kitOne PySem.W.kitCls
  rw [if_neg (by rw [beq_eq_false_iff_ne.mpr fun z => n (Value.ref.inj z)]; exact Bool.false_ne_true)]
  unfold PySem.W.isClsIn at h1
  show (if ((PySem.W.clsIn K D).isSome && PySem.W.typeIn K (.ref D) == some (.type "type")) = true then PySem.W.subIn K (.ref C) (.ref D) else none) = some false
  rw [if_pos (by rw [h1, h2]; exact beq_self_eq_true _), h3]
theorem lawOk {P : Program} {w : World} {K : PySem.W.Frag} {mg : Str → Option Value} {base : Heap} {tk : Nat → Tok} {aP aW : Addr} {kl : Kl} (T : Prg K tk aP aW kl mg) (T2 : Blt2 mg)
    (D_is_below : DefAt K mg "is_below" sis_below pis_below)
    (D_is_number : DefAt K mg "is_number" sis_number pis_number)
    (D_is_shaped : DefAt K mg "is_shaped" sis_shaped pis_shaped)
    (D_need_program : DefAt K mg "need_program" sneed_program pneed_program)
    (D_need_head : DefAt K mg "need_head" sneed_head pneed_head)
    (D_need_body : DefAt K mg "need_body" sneed_body pneed_body)
    (D_need_step : DefAt K mg "need_step" sneed_step pneed_step)
    (D_need_call : DefAt K mg "need_call" sneed_call pneed_call)
    (D_need_place : DefAt K mg "need_place" sneed_place pneed_place)
    (D_need_thing : DefAt K mg "need_thing" sneed_thing pneed_thing)
    (D_is_plain : DefAt K mg "is_plain" sis_plain pis_plain)
    (D_need_ways : DefAt K mg "need_ways" sneed_ways pneed_ways)
    (D_done : DefAt K mg "done" sdone pdone)
    (D_numbers_of : DefAt K mg "numbers_of" snumbers_of pnumbers_of)
    (D_do_body : DefAt K mg "do_body" sdo_body pdo_body)
    (D_do_step : DefAt K mg "do_step" sdo_step pdo_step)
    (D_do_set : DefAt K mg "do_set" sdo_set pdo_set)
    (D_do_call : DefAt K mg "do_call" sdo_call pdo_call)
    (D_hand : DefAt K mg "hand" shand phand)
    (D_come_to : DefAt K mg "come_to" scome_to pcome_to)
    (D_road_of : DefAt K mg "road_of" sroad_of proad_of)
    (D_found : DefAt K mg "found" sfound pfound)
    (D_number_of : DefAt K mg "number_of" snumber_of pnumber_of)
    (D_parted : DefAt K mg "parted" sparted pparted)
    (D_mixed : DefAt K mg "mixed" smixed pmixed)
    (D_outcome : DefAt K mg "outcome" soutcome poutcome)
    (D_all_cells : DefAt K mg "all_cells" sall_cells pall_cells)
    (D_may_set : DefAt K mg "may_set" smay_set pmay_set)
    (D_mark_body : DefAt K mg "mark_body" smark_body pmark_body)
    (D_mark_handed : DefAt K mg "mark_handed" smark_handed pmark_handed)
    (D_mark : DefAt K mg "mark" smark pmark)
    (D__law_taken : DefAt K mg "_law_taken" sL_taken pL_taken)
    (D__law_thing : DefAt K mg "_law_thing" sL_thing pL_thing)
    (D__law_place : DefAt K mg "_law_place" sL_place pL_place)
    (D__law_step : DefAt K mg "_law_step" sL_step pL_step)
    (D__law_body : DefAt K mg "_law_body" sL_body pL_body)
    (D__law_program : DefAt K mg "_law_program" sL_program pL_program)
    (D__law_ways : DefAt K mg "_law_ways" sL_ways pL_ways)
    (D__law_plain : DefAt K mg "_law_plain" sL_plain pL_plain)
    (D_law : DefAt K mg "law" slaw plaw)
    (K_Cell : ClassAt K mg "Cell" "Cell.__init__" kl.C sCell_init pCell_init)
    (K_Frame : ClassAt K mg "Frame" "Frame.__init__" kl.F sFrame_init pFrame_init)
    (K_Want : ClassAt K mg "Want" "Want.__init__" kl.W sWant_init pWant_init)
    (K_Run : ClassAt K mg "Run" "Run.__init__" kl.R sRun_init pRun_init) :
    Callee P w K mg base "law" 130 plaw (spLaw K) := by
  have B : Blt mg := T.toBlt
  have tn := T.toNrs
  have tc := T.toCst
  have taken := okTaken (P := P) (w := w) (base := base) D__law_taken B
  have thing := okThing D__law_thing B taken 3
  have place := okPlace D__law_place B thing
  have steps := okSteps D__law_step D__law_body B taken thing place 3
  have program := okProgram D__law_program B taken place steps.2
  have ways := okWays D__law_ways B taken
  have below := okIsBelow (P := P) (w := w) (base := base) D_is_below B
  have number := okIsNumber D_is_number tn below
  have shaped := okIsShaped (P := P) (w := w) (base := base) D_is_shaped B
  have plain := okIsPlain D_is_plain B below number shaped
  have nthing := okNeedThing D_need_thing tn shaped plain 5
  have nplace := okNeedPlace D_need_place tc nthing
  have ncall := okNeedCall D_need_call tc below nthing
  have nbody := okNeedBodies D_need_body D_need_step tc shaped nthing nplace ncall 3
  have nhead := okNeedHead D_need_head tn below
  have nprogram := okNeedProgram D_need_program tc nhead nbody
  have nways := okNeedWays D_need_ways tc nprogram
  have cell := okCell (P := P) (w := w) (base := base) (kl := kl) K_Cell T.own B
  have want := okWant (P := P) (w := w) (base := base) (kl := kl) K_Want T.own B
  have frame := okFrame (kl := kl) K_Frame T.own B cell
  have run := okRun (kl := kl) K_Run T.own B cell
  have roads := okRoads (P := P) (w := w) (base := base) D_road_of T
  have nums := okNums (P := P) (w := w) (base := base) D_road_of D_come_to D_found D_number_of T 30
  have come := okComeTo D_come_to T (roads 30)
  have hnd := okHand D_hand T nums.1 nums.2 come (roads 30) cell want
  have nof := okNumbersOf (P := P) (w := w) (base := base) D_numbers_of T
  have acells := okAllCells (P := P) (w := w) (base := base) D_all_cells tn
  have mixed : Callee P w K mg base "mixed" 114 pmixed (spMixedA K) := Callee.all (⟨[], []⟩ : List Wk × List (List Str)) fun i => by
    have set_ := okDoSet (PP := i.1) (W := i.2) D_do_set T nums.1 nums.2 come
    have body := okGo (PP := i.1) (W := i.2) D_do_step D_do_body D_do_call T nums.1 set_ hnd frame 16
    exact okMixed (PP := i.1) (W := i.2) D_mixed T nways acells (okDone (N := 30) (n := 16) (PP := i.1) (W := i.2) D_done T run frame body)
  have outcome : Callee P w K mg base "outcome" 114 poutcome (spOutcomeA K) := Callee.all (⟨[], []⟩ : List Wk × List (List Str)) fun i => by
    have set_ := okDoSet (PP := i.1) (W := i.2) D_do_set T nums.1 nums.2 come
    have body := okGo (PP := i.1) (W := i.2) D_do_step D_do_body D_do_call T nums.1 set_ hnd frame 16
    exact okOutcome (PP := i.1) (W := i.2) D_outcome T (okDone (N := 30) (n := 16) (PP := i.1) (W := i.2) D_done T run frame body) nof
  have parted := okParted D_parted T nways acells outcome
  have mark := okMark (P := P) (w := w) (base := base) D_mark
  have handed := okMarkHanded D_mark_handed B mark
  have bodies := okMarkBodies D_mark_body mark handed 3
  have mayset := okMaySet D_may_set B T2 nways bodies
  have plains := okPlains (P := P) (w := w) (base := base) D__law_plain B 3
  exact okLaw D_law B taken program ways plains parted mixed mayset
theorem all_mk {l : PySem.W.OpenLaw} {w : World} {K : PySem.W.Frag} {h : Heap} {mg : Str → Option Value} {fa CC CF CW CR aP aW f0 f1 f2 f3 f4 f5 f6 f7 f8 f9 f10 f11 f12 f13 f14 f15 f16 f17 f18 f19 f20 f21 f22 f23 f24 f25 f26 f27 f28 f29 f30 f31 f32 f33 f34 f35 f36 f37 f38 f39 f40 f41 f42 f43 : Addr} (X : K.In h) (G : h.Ns mainGlobals mg) (hfa : mg "law" = some (.ref fa))
    {od0 od1 od2 od3 od4 od5 od6 od7 od8 od9 od10 od11 od12 od13 od14 od15 od16 od17 od18 od19 od20 od21 od22 od23 od24 od25 od26 od27 od28 od29 od30 od31 od32 od33 od34 od35 od36 od37 od38 od39 od40 od41 od42 od43 an0 an1 an2 an3 an4 an5 an6 an7 an8 an9 an10 an11 an12 an13 an14 an15 an16 an17 an18 an19 an20 an21 an22 an23 an24 an25 an26 an27 an28 an29 an30 an31 an32 an33 an34 an35 an36 an37 an38 an39 an40 an41 an42 an43 odTP odTW : Option Addr} {sl0 sl1 sl2 sl3 sl4 sl5 sl6 sl7 sl8 sl9 sl10 sl11 sl12 sl13 sl14 sl15 sl16 sl17 sl18 sl19 sl20 sl21 sl22 sl23 sl24 sl25 sl26 sl27 sl28 sl29 sl30 sl31 sl32 sl33 sl34 sl35 sl36 sl37 sl38 sl39 sl40 sl41 sl42 sl43 slTP slTW : Array (Option Value)} {oc0 oc1 oc2 oc3 oc4 oc5 oc6 oc7 oc8 oc9 oc10 oc11 oc12 oc13 oc14 oc15 oc16 oc17 oc18 oc19 oc20 oc21 oc22 oc23 oc24 oc25 oc26 oc27 oc28 oc29 oc30 oc31 oc32 oc33 oc34 oc35 oc36 oc37 oc38 oc39 oc40 oc41 oc42 oc43 kV0 kV1 kV2 kV3 kV4 kV5 kV6 kV7 kV8 kV9 kV10 kV11 kV12 kV13 kV14 kV15 kV16 kV17 kV18 kV19 kV20 kV21 kV22 kV23 kV24 kV25 kV26 kV27 kV28 kV29 kV30 kV31 kV32 kV33 kV34 kV35 kV36 kV37 kV38 kV39 kV40 kV41 kV42 kV43 dc0 dc1 dc2 dc3 dc4 dc5 dc6 dc7 dc8 dc9 dc10 dc11 dc12 dc13 dc14 dc15 dc16 dc17 dc18 dc19 dc20 dc21 dc22 dc23 dc24 dc25 dc26 dc27 dc28 dc29 dc30 dc31 dc32 dc33 dc34 dc35 dc36 dc37 dc38 dc39 dc40 dc41 dc42 dc43 pm0 pm1 pm2 pm3 pm4 pm5 pm6 pm7 pm8 pm9 pm10 pm11 pm12 pm13 pm14 pm15 pm16 pm17 pm18 pm19 pm20 pm21 pm22 pm23 pm24 pm25 pm26 pm27 pm28 pm29 pm30 pm31 pm32 pm33 pm34 pm35 pm36 pm37 pm38 pm39 pm40 pm41 pm42 pm43 cd0 cd1 cd2 cd3 cd4 cd5 cd6 cd7 cd8 cd9 cd10 cd11 cd12 cd13 cd14 cd15 cd16 cd17 cd18 cd19 cd20 cd21 cd22 cd23 cd24 cd25 cd26 cd27 cd28 cd29 cd30 cd31 cd32 cd33 cd34 cd35 cd36 cd37 cd38 cd39 cd40 cd41 cd42 cd43 ct0 ct1 ct2 ct3 ct4 ct5 ct6 ct7 ct8 ct9 ct10 ct11 ct12 ct13 ct14 ct15 ct16 ct17 ct18 ct19 ct20 ct21 ct22 ct23 ct24 ct25 ct26 ct27 ct28 ct29 ct30 ct31 ct32 ct33 ct34 ct35 ct36 ct37 ct38 ct39 ct40 ct41 ct42 ct43 : Value} {t0 t1 t2 t3 t4 t5 t6 uP0 uP1 uP2 uW0 uW1 uW2 uW3 : Tok} {nTP nTW : Nat}
    (a0 : PySem.W.nsIn K mainGlobals "is_below" = some (some (.ref f0)))
    (l0 : K.lookup f0 = some ⟨oc0, od0, .func (PySem.W.fnOf "is_below" "is_below" (defArgs sis_below) (defBody sis_below) (defScope sis_below) .none kV0 dc0 pm0 an0 cd0 ct0), sl0⟩)
    (c0 : PySem.W.codeIn K cd0 "is_below" = true)
    (k0 : PySem.W.keepIn K (.ref f0) = true)
    (a1 : PySem.W.nsIn K mainGlobals "is_number" = some (some (.ref f1)))
    (l1 : K.lookup f1 = some ⟨oc1, od1, .func (PySem.W.fnOf "is_number" "is_number" (defArgs sis_number) (defBody sis_number) (defScope sis_number) .none kV1 dc1 pm1 an1 cd1 ct1), sl1⟩)
    (c1 : PySem.W.codeIn K cd1 "is_number" = true)
    (k1 : PySem.W.keepIn K (.ref f1) = true)
    (a2 : PySem.W.nsIn K mainGlobals "is_shaped" = some (some (.ref f2)))
    (l2 : K.lookup f2 = some ⟨oc2, od2, .func (PySem.W.fnOf "is_shaped" "is_shaped" (defArgs sis_shaped) (defBody sis_shaped) (defScope sis_shaped) .none kV2 dc2 pm2 an2 cd2 ct2), sl2⟩)
    (c2 : PySem.W.codeIn K cd2 "is_shaped" = true)
    (k2 : PySem.W.keepIn K (.ref f2) = true)
    (a3 : PySem.W.nsIn K mainGlobals "need_program" = some (some (.ref f3)))
    (l3 : K.lookup f3 = some ⟨oc3, od3, .func (PySem.W.fnOf "need_program" "need_program" (defArgs sneed_program) (defBody sneed_program) (defScope sneed_program) .none kV3 dc3 pm3 an3 cd3 ct3), sl3⟩)
    (c3 : PySem.W.codeIn K cd3 "need_program" = true)
    (k3 : PySem.W.keepIn K (.ref f3) = true)
    (a4 : PySem.W.nsIn K mainGlobals "need_head" = some (some (.ref f4)))
    (l4 : K.lookup f4 = some ⟨oc4, od4, .func (PySem.W.fnOf "need_head" "need_head" (defArgs sneed_head) (defBody sneed_head) (defScope sneed_head) .none kV4 dc4 pm4 an4 cd4 ct4), sl4⟩)
    (c4 : PySem.W.codeIn K cd4 "need_head" = true)
    (k4 : PySem.W.keepIn K (.ref f4) = true)
    (a5 : PySem.W.nsIn K mainGlobals "need_body" = some (some (.ref f5)))
    (l5 : K.lookup f5 = some ⟨oc5, od5, .func (PySem.W.fnOf "need_body" "need_body" (defArgs sneed_body) (defBody sneed_body) (defScope sneed_body) .none kV5 dc5 pm5 an5 cd5 ct5), sl5⟩)
    (c5 : PySem.W.codeIn K cd5 "need_body" = true)
    (k5 : PySem.W.keepIn K (.ref f5) = true)
    (a6 : PySem.W.nsIn K mainGlobals "need_step" = some (some (.ref f6)))
    (l6 : K.lookup f6 = some ⟨oc6, od6, .func (PySem.W.fnOf "need_step" "need_step" (defArgs sneed_step) (defBody sneed_step) (defScope sneed_step) .none kV6 dc6 pm6 an6 cd6 ct6), sl6⟩)
    (c6 : PySem.W.codeIn K cd6 "need_step" = true)
    (k6 : PySem.W.keepIn K (.ref f6) = true)
    (a7 : PySem.W.nsIn K mainGlobals "need_call" = some (some (.ref f7)))
    (l7 : K.lookup f7 = some ⟨oc7, od7, .func (PySem.W.fnOf "need_call" "need_call" (defArgs sneed_call) (defBody sneed_call) (defScope sneed_call) .none kV7 dc7 pm7 an7 cd7 ct7), sl7⟩)
    (c7 : PySem.W.codeIn K cd7 "need_call" = true)
    (k7 : PySem.W.keepIn K (.ref f7) = true)
    (a8 : PySem.W.nsIn K mainGlobals "need_place" = some (some (.ref f8)))
    (l8 : K.lookup f8 = some ⟨oc8, od8, .func (PySem.W.fnOf "need_place" "need_place" (defArgs sneed_place) (defBody sneed_place) (defScope sneed_place) .none kV8 dc8 pm8 an8 cd8 ct8), sl8⟩)
    (c8 : PySem.W.codeIn K cd8 "need_place" = true)
    (k8 : PySem.W.keepIn K (.ref f8) = true)
    (a9 : PySem.W.nsIn K mainGlobals "need_thing" = some (some (.ref f9)))
    (l9 : K.lookup f9 = some ⟨oc9, od9, .func (PySem.W.fnOf "need_thing" "need_thing" (defArgs sneed_thing) (defBody sneed_thing) (defScope sneed_thing) .none kV9 dc9 pm9 an9 cd9 ct9), sl9⟩)
    (c9 : PySem.W.codeIn K cd9 "need_thing" = true)
    (k9 : PySem.W.keepIn K (.ref f9) = true)
    (a10 : PySem.W.nsIn K mainGlobals "is_plain" = some (some (.ref f10)))
    (l10 : K.lookup f10 = some ⟨oc10, od10, .func (PySem.W.fnOf "is_plain" "is_plain" (defArgs sis_plain) (defBody sis_plain) (defScope sis_plain) .none kV10 dc10 pm10 an10 cd10 ct10), sl10⟩)
    (c10 : PySem.W.codeIn K cd10 "is_plain" = true)
    (k10 : PySem.W.keepIn K (.ref f10) = true)
    (a11 : PySem.W.nsIn K mainGlobals "need_ways" = some (some (.ref f11)))
    (l11 : K.lookup f11 = some ⟨oc11, od11, .func (PySem.W.fnOf "need_ways" "need_ways" (defArgs sneed_ways) (defBody sneed_ways) (defScope sneed_ways) .none kV11 dc11 pm11 an11 cd11 ct11), sl11⟩)
    (c11 : PySem.W.codeIn K cd11 "need_ways" = true)
    (k11 : PySem.W.keepIn K (.ref f11) = true)
    (a12 : PySem.W.nsIn K mainGlobals "done" = some (some (.ref f12)))
    (l12 : K.lookup f12 = some ⟨oc12, od12, .func (PySem.W.fnOf "done" "done" (defArgs sdone) (defBody sdone) (defScope sdone) .none kV12 dc12 pm12 an12 cd12 ct12), sl12⟩)
    (c12 : PySem.W.codeIn K cd12 "done" = true)
    (k12 : PySem.W.keepIn K (.ref f12) = true)
    (a13 : PySem.W.nsIn K mainGlobals "numbers_of" = some (some (.ref f13)))
    (l13 : K.lookup f13 = some ⟨oc13, od13, .func (PySem.W.fnOf "numbers_of" "numbers_of" (defArgs snumbers_of) (defBody snumbers_of) (defScope snumbers_of) .none kV13 dc13 pm13 an13 cd13 ct13), sl13⟩)
    (c13 : PySem.W.codeIn K cd13 "numbers_of" = true)
    (k13 : PySem.W.keepIn K (.ref f13) = true)
    (a14 : PySem.W.nsIn K mainGlobals "do_body" = some (some (.ref f14)))
    (l14 : K.lookup f14 = some ⟨oc14, od14, .func (PySem.W.fnOf "do_body" "do_body" (defArgs sdo_body) (defBody sdo_body) (defScope sdo_body) .none kV14 dc14 pm14 an14 cd14 ct14), sl14⟩)
    (c14 : PySem.W.codeIn K cd14 "do_body" = true)
    (k14 : PySem.W.keepIn K (.ref f14) = true)
    (a15 : PySem.W.nsIn K mainGlobals "do_step" = some (some (.ref f15)))
    (l15 : K.lookup f15 = some ⟨oc15, od15, .func (PySem.W.fnOf "do_step" "do_step" (defArgs sdo_step) (defBody sdo_step) (defScope sdo_step) .none kV15 dc15 pm15 an15 cd15 ct15), sl15⟩)
    (c15 : PySem.W.codeIn K cd15 "do_step" = true)
    (k15 : PySem.W.keepIn K (.ref f15) = true)
    (a16 : PySem.W.nsIn K mainGlobals "do_set" = some (some (.ref f16)))
    (l16 : K.lookup f16 = some ⟨oc16, od16, .func (PySem.W.fnOf "do_set" "do_set" (defArgs sdo_set) (defBody sdo_set) (defScope sdo_set) .none kV16 dc16 pm16 an16 cd16 ct16), sl16⟩)
    (c16 : PySem.W.codeIn K cd16 "do_set" = true)
    (k16 : PySem.W.keepIn K (.ref f16) = true)
    (a17 : PySem.W.nsIn K mainGlobals "do_call" = some (some (.ref f17)))
    (l17 : K.lookup f17 = some ⟨oc17, od17, .func (PySem.W.fnOf "do_call" "do_call" (defArgs sdo_call) (defBody sdo_call) (defScope sdo_call) .none kV17 dc17 pm17 an17 cd17 ct17), sl17⟩)
    (c17 : PySem.W.codeIn K cd17 "do_call" = true)
    (k17 : PySem.W.keepIn K (.ref f17) = true)
    (a18 : PySem.W.nsIn K mainGlobals "hand" = some (some (.ref f18)))
    (l18 : K.lookup f18 = some ⟨oc18, od18, .func (PySem.W.fnOf "hand" "hand" (defArgs shand) (defBody shand) (defScope shand) .none kV18 dc18 pm18 an18 cd18 ct18), sl18⟩)
    (c18 : PySem.W.codeIn K cd18 "hand" = true)
    (k18 : PySem.W.keepIn K (.ref f18) = true)
    (a19 : PySem.W.nsIn K mainGlobals "come_to" = some (some (.ref f19)))
    (l19 : K.lookup f19 = some ⟨oc19, od19, .func (PySem.W.fnOf "come_to" "come_to" (defArgs scome_to) (defBody scome_to) (defScope scome_to) .none kV19 dc19 pm19 an19 cd19 ct19), sl19⟩)
    (c19 : PySem.W.codeIn K cd19 "come_to" = true)
    (k19 : PySem.W.keepIn K (.ref f19) = true)
    (a20 : PySem.W.nsIn K mainGlobals "road_of" = some (some (.ref f20)))
    (l20 : K.lookup f20 = some ⟨oc20, od20, .func (PySem.W.fnOf "road_of" "road_of" (defArgs sroad_of) (defBody sroad_of) (defScope sroad_of) .none kV20 dc20 pm20 an20 cd20 ct20), sl20⟩)
    (c20 : PySem.W.codeIn K cd20 "road_of" = true)
    (k20 : PySem.W.keepIn K (.ref f20) = true)
    (a21 : PySem.W.nsIn K mainGlobals "found" = some (some (.ref f21)))
    (l21 : K.lookup f21 = some ⟨oc21, od21, .func (PySem.W.fnOf "found" "found" (defArgs sfound) (defBody sfound) (defScope sfound) .none kV21 dc21 pm21 an21 cd21 ct21), sl21⟩)
    (c21 : PySem.W.codeIn K cd21 "found" = true)
    (k21 : PySem.W.keepIn K (.ref f21) = true)
    (a22 : PySem.W.nsIn K mainGlobals "number_of" = some (some (.ref f22)))
    (l22 : K.lookup f22 = some ⟨oc22, od22, .func (PySem.W.fnOf "number_of" "number_of" (defArgs snumber_of) (defBody snumber_of) (defScope snumber_of) .none kV22 dc22 pm22 an22 cd22 ct22), sl22⟩)
    (c22 : PySem.W.codeIn K cd22 "number_of" = true)
    (k22 : PySem.W.keepIn K (.ref f22) = true)
    (a23 : PySem.W.nsIn K mainGlobals "parted" = some (some (.ref f23)))
    (l23 : K.lookup f23 = some ⟨oc23, od23, .func (PySem.W.fnOf "parted" "parted" (defArgs sparted) (defBody sparted) (defScope sparted) .none kV23 dc23 pm23 an23 cd23 ct23), sl23⟩)
    (c23 : PySem.W.codeIn K cd23 "parted" = true)
    (k23 : PySem.W.keepIn K (.ref f23) = true)
    (a24 : PySem.W.nsIn K mainGlobals "mixed" = some (some (.ref f24)))
    (l24 : K.lookup f24 = some ⟨oc24, od24, .func (PySem.W.fnOf "mixed" "mixed" (defArgs smixed) (defBody smixed) (defScope smixed) .none kV24 dc24 pm24 an24 cd24 ct24), sl24⟩)
    (c24 : PySem.W.codeIn K cd24 "mixed" = true)
    (k24 : PySem.W.keepIn K (.ref f24) = true)
    (a25 : PySem.W.nsIn K mainGlobals "outcome" = some (some (.ref f25)))
    (l25 : K.lookup f25 = some ⟨oc25, od25, .func (PySem.W.fnOf "outcome" "outcome" (defArgs soutcome) (defBody soutcome) (defScope soutcome) .none kV25 dc25 pm25 an25 cd25 ct25), sl25⟩)
    (c25 : PySem.W.codeIn K cd25 "outcome" = true)
    (k25 : PySem.W.keepIn K (.ref f25) = true)
    (a26 : PySem.W.nsIn K mainGlobals "all_cells" = some (some (.ref f26)))
    (l26 : K.lookup f26 = some ⟨oc26, od26, .func (PySem.W.fnOf "all_cells" "all_cells" (defArgs sall_cells) (defBody sall_cells) (defScope sall_cells) .none kV26 dc26 pm26 an26 cd26 ct26), sl26⟩)
    (c26 : PySem.W.codeIn K cd26 "all_cells" = true)
    (k26 : PySem.W.keepIn K (.ref f26) = true)
    (a27 : PySem.W.nsIn K mainGlobals "may_set" = some (some (.ref f27)))
    (l27 : K.lookup f27 = some ⟨oc27, od27, .func (PySem.W.fnOf "may_set" "may_set" (defArgs smay_set) (defBody smay_set) (defScope smay_set) .none kV27 dc27 pm27 an27 cd27 ct27), sl27⟩)
    (c27 : PySem.W.codeIn K cd27 "may_set" = true)
    (k27 : PySem.W.keepIn K (.ref f27) = true)
    (a28 : PySem.W.nsIn K mainGlobals "mark_body" = some (some (.ref f28)))
    (l28 : K.lookup f28 = some ⟨oc28, od28, .func (PySem.W.fnOf "mark_body" "mark_body" (defArgs smark_body) (defBody smark_body) (defScope smark_body) .none kV28 dc28 pm28 an28 cd28 ct28), sl28⟩)
    (c28 : PySem.W.codeIn K cd28 "mark_body" = true)
    (k28 : PySem.W.keepIn K (.ref f28) = true)
    (a29 : PySem.W.nsIn K mainGlobals "mark_handed" = some (some (.ref f29)))
    (l29 : K.lookup f29 = some ⟨oc29, od29, .func (PySem.W.fnOf "mark_handed" "mark_handed" (defArgs smark_handed) (defBody smark_handed) (defScope smark_handed) .none kV29 dc29 pm29 an29 cd29 ct29), sl29⟩)
    (c29 : PySem.W.codeIn K cd29 "mark_handed" = true)
    (k29 : PySem.W.keepIn K (.ref f29) = true)
    (a30 : PySem.W.nsIn K mainGlobals "mark" = some (some (.ref f30)))
    (l30 : K.lookup f30 = some ⟨oc30, od30, .func (PySem.W.fnOf "mark" "mark" (defArgs smark) (defBody smark) (defScope smark) .none kV30 dc30 pm30 an30 cd30 ct30), sl30⟩)
    (c30 : PySem.W.codeIn K cd30 "mark" = true)
    (k30 : PySem.W.keepIn K (.ref f30) = true)
    (a31 : PySem.W.nsIn K mainGlobals "_law_taken" = some (some (.ref f31)))
    (l31 : K.lookup f31 = some ⟨oc31, od31, .func (PySem.W.fnOf "_law_taken" "_law_taken" (defArgs sL_taken) (defBody sL_taken) (defScope sL_taken) .none kV31 dc31 pm31 an31 cd31 ct31), sl31⟩)
    (c31 : PySem.W.codeIn K cd31 "_law_taken" = true)
    (k31 : PySem.W.keepIn K (.ref f31) = true)
    (a32 : PySem.W.nsIn K mainGlobals "_law_thing" = some (some (.ref f32)))
    (l32 : K.lookup f32 = some ⟨oc32, od32, .func (PySem.W.fnOf "_law_thing" "_law_thing" (defArgs sL_thing) (defBody sL_thing) (defScope sL_thing) .none kV32 dc32 pm32 an32 cd32 ct32), sl32⟩)
    (c32 : PySem.W.codeIn K cd32 "_law_thing" = true)
    (k32 : PySem.W.keepIn K (.ref f32) = true)
    (a33 : PySem.W.nsIn K mainGlobals "_law_place" = some (some (.ref f33)))
    (l33 : K.lookup f33 = some ⟨oc33, od33, .func (PySem.W.fnOf "_law_place" "_law_place" (defArgs sL_place) (defBody sL_place) (defScope sL_place) .none kV33 dc33 pm33 an33 cd33 ct33), sl33⟩)
    (c33 : PySem.W.codeIn K cd33 "_law_place" = true)
    (k33 : PySem.W.keepIn K (.ref f33) = true)
    (a34 : PySem.W.nsIn K mainGlobals "_law_step" = some (some (.ref f34)))
    (l34 : K.lookup f34 = some ⟨oc34, od34, .func (PySem.W.fnOf "_law_step" "_law_step" (defArgs sL_step) (defBody sL_step) (defScope sL_step) .none kV34 dc34 pm34 an34 cd34 ct34), sl34⟩)
    (c34 : PySem.W.codeIn K cd34 "_law_step" = true)
    (k34 : PySem.W.keepIn K (.ref f34) = true)
    (a35 : PySem.W.nsIn K mainGlobals "_law_body" = some (some (.ref f35)))
    (l35 : K.lookup f35 = some ⟨oc35, od35, .func (PySem.W.fnOf "_law_body" "_law_body" (defArgs sL_body) (defBody sL_body) (defScope sL_body) .none kV35 dc35 pm35 an35 cd35 ct35), sl35⟩)
    (c35 : PySem.W.codeIn K cd35 "_law_body" = true)
    (k35 : PySem.W.keepIn K (.ref f35) = true)
    (a36 : PySem.W.nsIn K mainGlobals "_law_program" = some (some (.ref f36)))
    (l36 : K.lookup f36 = some ⟨oc36, od36, .func (PySem.W.fnOf "_law_program" "_law_program" (defArgs sL_program) (defBody sL_program) (defScope sL_program) .none kV36 dc36 pm36 an36 cd36 ct36), sl36⟩)
    (c36 : PySem.W.codeIn K cd36 "_law_program" = true)
    (k36 : PySem.W.keepIn K (.ref f36) = true)
    (a37 : PySem.W.nsIn K mainGlobals "_law_ways" = some (some (.ref f37)))
    (l37 : K.lookup f37 = some ⟨oc37, od37, .func (PySem.W.fnOf "_law_ways" "_law_ways" (defArgs sL_ways) (defBody sL_ways) (defScope sL_ways) .none kV37 dc37 pm37 an37 cd37 ct37), sl37⟩)
    (c37 : PySem.W.codeIn K cd37 "_law_ways" = true)
    (k37 : PySem.W.keepIn K (.ref f37) = true)
    (a38 : PySem.W.nsIn K mainGlobals "_law_plain" = some (some (.ref f38)))
    (l38 : K.lookup f38 = some ⟨oc38, od38, .func (PySem.W.fnOf "_law_plain" "_law_plain" (defArgs sL_plain) (defBody sL_plain) (defScope sL_plain) .none kV38 dc38 pm38 an38 cd38 ct38), sl38⟩)
    (c38 : PySem.W.codeIn K cd38 "_law_plain" = true)
    (k38 : PySem.W.keepIn K (.ref f38) = true)
    (a39 : PySem.W.nsIn K mainGlobals "law" = some (some (.ref f39)))
    (l39 : K.lookup f39 = some ⟨oc39, od39, .func (PySem.W.fnOf "law" "law" (defArgs slaw) (defBody slaw) (defScope slaw) .none kV39 dc39 pm39 an39 cd39 ct39), sl39⟩)
    (c39 : PySem.W.codeIn K cd39 "law" = true)
    (k39 : PySem.W.keepIn K (.ref f39) = true)
    (aCC : PySem.W.nsIn K mainGlobals "Cell" = some (some (.ref CC)))
    (a40 : PySem.W.findIn K (.ref CC) "__init__" = some (some (.ref f40)))
    (i40 : PySem.W.isFn K (.ref f40) = true)
    (l40 : K.lookup f40 = some ⟨oc40, od40, .func (PySem.W.fnOf "__init__" "Cell.__init__" (defArgs sCell_init) (defBody sCell_init) (defScope sCell_init) .none kV40 dc40 pm40 an40 cd40 ct40), sl40⟩)
    (c40 : PySem.W.codeIn K cd40 "Cell.__init__" = true)
    (k40 : PySem.W.keepIn K (.ref f40) = true)
    (pgC : PySem.W.plainGet K CC Str.empty = true)
    (hdC : PySem.W.hasDictIn K CC = true)
    (poC : PySem.W.plainOver K CC = true)
    (saC : PySem.W.findIn K (.ref CC) "__setattr__" = some (some (.builtin "object.__setattr__")))
    (mkC : PySem.W.makesIn K CC = true)
    (kcC : PySem.W.keepIn K (.ref CC) = true)
    (nC_number : PySem.W.findIn K (.ref CC) "number" = some none)
    (nC_loans : PySem.W.findIn K (.ref CC) "loans" = some none)
    (haC : PySem.W.findIn K (.ref CC) "__class__" = some (some (.builtin "object.__class__")))
    (hmC : PySem.W.mroIn K CC (.type "object") = some true)
    (aCF : PySem.W.nsIn K mainGlobals "Frame" = some (some (.ref CF)))
    (a41 : PySem.W.findIn K (.ref CF) "__init__" = some (some (.ref f41)))
    (i41 : PySem.W.isFn K (.ref f41) = true)
    (l41 : K.lookup f41 = some ⟨oc41, od41, .func (PySem.W.fnOf "__init__" "Frame.__init__" (defArgs sFrame_init) (defBody sFrame_init) (defScope sFrame_init) .none kV41 dc41 pm41 an41 cd41 ct41), sl41⟩)
    (c41 : PySem.W.codeIn K cd41 "Frame.__init__" = true)
    (k41 : PySem.W.keepIn K (.ref f41) = true)
    (pgF : PySem.W.plainGet K CF Str.empty = true)
    (hdF : PySem.W.hasDictIn K CF = true)
    (poF : PySem.W.plainOver K CF = true)
    (saF : PySem.W.findIn K (.ref CF) "__setattr__" = some (some (.builtin "object.__setattr__")))
    (mkF : PySem.W.makesIn K CF = true)
    (kcF : PySem.W.keepIn K (.ref CF) = true)
    (nF_owns : PySem.W.findIn K (.ref CF) "owns" = some none)
    (nF_handed : PySem.W.findIn K (.ref CF) "handed" = some none)
    (nF_roads : PySem.W.findIn K (.ref CF) "roads" = some none)
    (aCW : PySem.W.nsIn K mainGlobals "Want" = some (some (.ref CW)))
    (a42 : PySem.W.findIn K (.ref CW) "__init__" = some (some (.ref f42)))
    (i42 : PySem.W.isFn K (.ref f42) = true)
    (l42 : K.lookup f42 = some ⟨oc42, od42, .func (PySem.W.fnOf "__init__" "Want.__init__" (defArgs sWant_init) (defBody sWant_init) (defScope sWant_init) .none kV42 dc42 pm42 an42 cd42 ct42), sl42⟩)
    (c42 : PySem.W.codeIn K cd42 "Want.__init__" = true)
    (k42 : PySem.W.keepIn K (.ref f42) = true)
    (pgW : PySem.W.plainGet K CW Str.empty = true)
    (hdW : PySem.W.hasDictIn K CW = true)
    (poW : PySem.W.plainOver K CW = true)
    (saW : PySem.W.findIn K (.ref CW) "__setattr__" = some (some (.builtin "object.__setattr__")))
    (mkW : PySem.W.makesIn K CW = true)
    (kcW : PySem.W.keepIn K (.ref CW) = true)
    (nW_thing : PySem.W.findIn K (.ref CW) "thing" = some none)
    (nW_frame : PySem.W.findIn K (.ref CW) "frame" = some none)
    (haW : PySem.W.findIn K (.ref CW) "__class__" = some (some (.builtin "object.__class__")))
    (hmW : PySem.W.mroIn K CW (.type "object") = some true)
    (aCR : PySem.W.nsIn K mainGlobals "Run" = some (some (.ref CR)))
    (a43 : PySem.W.findIn K (.ref CR) "__init__" = some (some (.ref f43)))
    (i43 : PySem.W.isFn K (.ref f43) = true)
    (l43 : K.lookup f43 = some ⟨oc43, od43, .func (PySem.W.fnOf "__init__" "Run.__init__" (defArgs sRun_init) (defBody sRun_init) (defScope sRun_init) .none kV43 dc43 pm43 an43 cd43 ct43), sl43⟩)
    (c43 : PySem.W.codeIn K cd43 "Run.__init__" = true)
    (k43 : PySem.W.keepIn K (.ref f43) = true)
    (pgR : PySem.W.plainGet K CR Str.empty = true)
    (hdR : PySem.W.hasDictIn K CR = true)
    (poR : PySem.W.plainOver K CR = true)
    (saR : PySem.W.findIn K (.ref CR) "__setattr__" = some (some (.builtin "object.__setattr__")))
    (mkR : PySem.W.makesIn K CR = true)
    (kcR : PySem.W.keepIn K (.ref CR) = true)
    (nR_program : PySem.W.findIn K (.ref CR) "program" = some none)
    (nR_ways : PySem.W.findIn K (.ref CR) "ways" = some none)
    (nR_commons : PySem.W.findIn K (.ref CR) "commons" = some none)
    (nR_said : PySem.W.findIn K (.ref CR) "said" = some none)
    (nR_lent : PySem.W.findIn K (.ref CR) "lent" = some none)
    (nR_mixed : PySem.W.findIn K (.ref CR) "mixed" = some none)
    (hn : PySem.W.specialIn K (.builtin "object.__class__") "__get__" = some (some (.builtin "getset_descriptor.__get__")))
    (htk : PySem.W.takesIn K (.builtin "object.__class__") = some true)
    (neCW : CC ≠ CW)
    (clCW : PySem.W.isClsIn K CW = true)
    (tyCW : PySem.W.typeIn K (.ref CW) = some (.type "type"))
    (suCW : PySem.W.subIn K (.ref CC) (.ref CW) = some false)
    (i_NUMBERS : PySem.W.nsIn K mainGlobals "NUMBERS" = some (some (.int 3 t0)))
    (i_MOST_WORKS : PySem.W.nsIn K mainGlobals "MOST_WORKS" = some (some (.int 4 t1)))
    (i_MOST_PARAMS : PySem.W.nsIn K mainGlobals "MOST_PARAMS" = some (some (.int 3 t2)))
    (i_MOST_OWNS : PySem.W.nsIn K mainGlobals "MOST_OWNS" = some (some (.int 99 t3)))
    (i_MOST_STEPS : PySem.W.nsIn K mainGlobals "MOST_STEPS" = some (some (.int 100 t4)))
    (i_MOST_OTHERS : PySem.W.nsIn K mainGlobals "MOST_OTHERS" = some (some (.int 4 t5)))
    (i_COMMON_CELLS : PySem.W.nsIn K mainGlobals "COMMON_CELLS" = some (some (.int 3 t6)))
    (t_PLACES : PySem.W.nsIn K mainGlobals "PLACES" = some (some (.ref aP)))
    (u_PLACES : K.lookup aP = some ⟨.type "tuple", odTP, .seq #[.str "cell" uP0, .str "own" uP1, .str "par" uP2] nTP, slTP⟩)
    (t_WAYS : PySem.W.nsIn K mainGlobals "WAYS" = some (some (.ref aW)))
    (u_WAYS : K.lookup aW = some ⟨.type "tuple", odTW, .seq #[.str "copy" uW0, .str "place" uW1, .str "back" uW2, .str "want" uW3] nTW, slTW⟩)
    (z_len : PySem.W.nsIn K mainGlobals "len" = some none)
    (z_int : PySem.W.nsIn K mainGlobals "int" = some none)
    (z_range : PySem.W.nsIn K mainGlobals "range" = some none)
    (z_isinstance : PySem.W.nsIn K mainGlobals "isinstance" = some none)
    (z_tuple : PySem.W.nsIn K mainGlobals "tuple" = some none)
    (z_list : PySem.W.nsIn K mainGlobals "list" = some none)
    (z_bool : PySem.W.nsIn K mainGlobals "bool" = some none)
    (z_str : PySem.W.nsIn K mainGlobals "str" = some none)
    (z_zip : PySem.W.nsIn K mainGlobals "zip" = some none)
    (z_enumerate : PySem.W.nsIn K mainGlobals "enumerate" = some none)
    (z_reversed : PySem.W.nsIn K mainGlobals "reversed" = some none) :
    ∃ fd : FuncData, (∀ (s : Shared) (v : Value), BindsTo s fd ⟨[v], []⟩ [("_law_script", v)]) ∧ ∀ base : Heap, K.In base → base.Ns mainGlobals mg → FnOk l.prog w K mg base CX0 130 fa fd ["_law_script"] (spLaw K) := by
  have e := hfa.symm.trans (PySem.W.mg_of X G a39)
  cases e
  have F0 := fun_mk (st := sis_below) l0 c0 k0
  have D0 : DefAt K mg "is_below" sis_below pis_below := ⟨_, _, F0, PySem.W.mg_of X G a0, F0.binds (ps := pis_below) fun _ _ _ _ _ _ us hl => match us, hl with | [_, _], _ => rfl⟩
  have F1 := fun_mk (st := sis_number) l1 c1 k1
  have D1 : DefAt K mg "is_number" sis_number pis_number := ⟨_, _, F1, PySem.W.mg_of X G a1, F1.binds (ps := pis_number) fun _ _ _ _ _ _ us hl => match us, hl with | [_], _ => rfl⟩
  have F2 := fun_mk (st := sis_shaped) l2 c2 k2
  have D2 : DefAt K mg "is_shaped" sis_shaped pis_shaped := ⟨_, _, F2, PySem.W.mg_of X G a2, F2.binds (ps := pis_shaped) fun _ _ _ _ _ _ us hl => match us, hl with | [_, _, _], _ => rfl⟩
  have F3 := fun_mk (st := sneed_program) l3 c3 k3
  have D3 : DefAt K mg "need_program" sneed_program pneed_program := ⟨_, _, F3, PySem.W.mg_of X G a3, F3.binds (ps := pneed_program) fun _ _ _ _ _ _ us hl => match us, hl with | [_], _ => rfl⟩
  have F4 := fun_mk (st := sneed_head) l4 c4 k4
  have D4 : DefAt K mg "need_head" sneed_head pneed_head := ⟨_, _, F4, PySem.W.mg_of X G a4, F4.binds (ps := pneed_head) fun _ _ _ _ _ _ us hl => match us, hl with | [_, _], _ => rfl⟩
  have F5 := fun_mk (st := sneed_body) l5 c5 k5
  have D5 : DefAt K mg "need_body" sneed_body pneed_body := ⟨_, _, F5, PySem.W.mg_of X G a5, F5.binds (ps := pneed_body) fun _ _ _ _ _ _ us hl => match us, hl with | [_, _, _, _, _], _ => rfl⟩
  have F6 := fun_mk (st := sneed_step) l6 c6 k6
  have D6 : DefAt K mg "need_step" sneed_step pneed_step := ⟨_, _, F6, PySem.W.mg_of X G a6, F6.binds (ps := pneed_step) fun _ _ _ _ _ _ us hl => match us, hl with | [_, _, _, _, _], _ => rfl⟩
  have F7 := fun_mk (st := sneed_call) l7 c7 k7
  have D7 : DefAt K mg "need_call" sneed_call pneed_call := ⟨_, _, F7, PySem.W.mg_of X G a7, F7.binds (ps := pneed_call) fun _ _ _ _ _ _ us hl => match us, hl with | [_, _, _, _], _ => rfl⟩
  have F8 := fun_mk (st := sneed_place) l8 c8 k8
  have D8 : DefAt K mg "need_place" sneed_place pneed_place := ⟨_, _, F8, PySem.W.mg_of X G a8, F8.binds (ps := pneed_place) fun _ _ _ _ _ _ us hl => match us, hl with | [_, _], _ => rfl⟩
  have F9 := fun_mk (st := sneed_thing) l9 c9 k9
  have D9 : DefAt K mg "need_thing" sneed_thing pneed_thing := ⟨_, _, F9, PySem.W.mg_of X G a9, F9.binds (ps := pneed_thing) fun _ _ _ _ _ _ us hl => match us, hl with | [_, _, _], _ => rfl⟩
  have F10 := fun_mk (st := sis_plain) l10 c10 k10
  have D10 : DefAt K mg "is_plain" sis_plain pis_plain := ⟨_, _, F10, PySem.W.mg_of X G a10, F10.binds (ps := pis_plain) fun _ _ _ _ _ _ us hl => match us, hl with | [_, _], _ => rfl⟩
  have F11 := fun_mk (st := sneed_ways) l11 c11 k11
  have D11 : DefAt K mg "need_ways" sneed_ways pneed_ways := ⟨_, _, F11, PySem.W.mg_of X G a11, F11.binds (ps := pneed_ways) fun _ _ _ _ _ _ us hl => match us, hl with | [_, _], _ => rfl⟩
  have F12 := fun_mk (st := sdone) l12 c12 k12
  have D12 : DefAt K mg "done" sdone pdone := ⟨_, _, F12, PySem.W.mg_of X G a12, F12.binds (ps := pdone) fun _ _ _ _ _ _ us hl => match us, hl with | [_, _, _], _ => rfl⟩
  have F13 := fun_mk (st := snumbers_of) l13 c13 k13
  have D13 : DefAt K mg "numbers_of" snumbers_of pnumbers_of := ⟨_, _, F13, PySem.W.mg_of X G a13, F13.binds (ps := pnumbers_of) fun _ _ _ _ _ _ us hl => match us, hl with | [_], _ => rfl⟩
  have F14 := fun_mk (st := sdo_body) l14 c14 k14
  have D14 : DefAt K mg "do_body" sdo_body pdo_body := ⟨_, _, F14, PySem.W.mg_of X G a14, F14.binds (ps := pdo_body) fun _ _ _ _ _ _ us hl => match us, hl with | [_, _, _], _ => rfl⟩
  have F15 := fun_mk (st := sdo_step) l15 c15 k15
  have D15 : DefAt K mg "do_step" sdo_step pdo_step := ⟨_, _, F15, PySem.W.mg_of X G a15, F15.binds (ps := pdo_step) fun _ _ _ _ _ _ us hl => match us, hl with | [_, _, _], _ => rfl⟩
  have F16 := fun_mk (st := sdo_set) l16 c16 k16
  have D16 : DefAt K mg "do_set" sdo_set pdo_set := ⟨_, _, F16, PySem.W.mg_of X G a16, F16.binds (ps := pdo_set) fun _ _ _ _ _ _ us hl => match us, hl with | [_, _, _, _], _ => rfl⟩
  have F17 := fun_mk (st := sdo_call) l17 c17 k17
  have D17 : DefAt K mg "do_call" sdo_call pdo_call := ⟨_, _, F17, PySem.W.mg_of X G a17, F17.binds (ps := pdo_call) fun _ _ _ _ _ _ us hl => match us, hl with | [_, _, _, _], _ => rfl⟩
  have F18 := fun_mk (st := shand) l18 c18 k18
  have D18 : DefAt K mg "hand" shand phand := ⟨_, _, F18, PySem.W.mg_of X G a18, F18.binds (ps := phand) fun _ _ _ _ _ _ us hl => match us, hl with | [_, _, _, _, _], _ => rfl⟩
  have F19 := fun_mk (st := scome_to) l19 c19 k19
  have D19 : DefAt K mg "come_to" scome_to pcome_to := ⟨_, _, F19, PySem.W.mg_of X G a19, F19.binds (ps := pcome_to) fun _ _ _ _ _ _ us hl => match us, hl with | [_, _, _, _], _ => rfl⟩
  have F20 := fun_mk (st := sroad_of) l20 c20 k20
  have D20 : DefAt K mg "road_of" sroad_of proad_of := ⟨_, _, F20, PySem.W.mg_of X G a20, F20.binds (ps := proad_of) fun _ _ _ _ _ _ us hl => match us, hl with | [_, _], _ => rfl⟩
  have F21 := fun_mk (st := sfound) l21 c21 k21
  have D21 : DefAt K mg "found" sfound pfound := ⟨_, _, F21, PySem.W.mg_of X G a21, F21.binds (ps := pfound) fun _ _ _ _ _ _ us hl => match us, hl with | [_, _, _], _ => rfl⟩
  have F22 := fun_mk (st := snumber_of) l22 c22 k22
  have D22 : DefAt K mg "number_of" snumber_of pnumber_of := ⟨_, _, F22, PySem.W.mg_of X G a22, F22.binds (ps := pnumber_of) fun _ _ _ _ _ _ us hl => match us, hl with | [_, _, _], _ => rfl⟩
  have F23 := fun_mk (st := sparted) l23 c23 k23
  have D23 : DefAt K mg "parted" sparted pparted := ⟨_, _, F23, PySem.W.mg_of X G a23, F23.binds (ps := pparted) fun _ _ _ _ _ _ us hl => match us, hl with | [_, _, _], _ => rfl⟩
  have F24 := fun_mk (st := smixed) l24 c24 k24
  have D24 : DefAt K mg "mixed" smixed pmixed := ⟨_, _, F24, PySem.W.mg_of X G a24, F24.binds (ps := pmixed) fun _ _ _ _ _ _ us hl => match us, hl with | [_, _], _ => rfl⟩
  have F25 := fun_mk (st := soutcome) l25 c25 k25
  have D25 : DefAt K mg "outcome" soutcome poutcome := ⟨_, _, F25, PySem.W.mg_of X G a25, F25.binds (ps := poutcome) fun _ _ _ _ _ _ us hl => match us, hl with | [_, _, _], _ => rfl⟩
  have F26 := fun_mk (st := sall_cells) l26 c26 k26
  have D26 : DefAt K mg "all_cells" sall_cells pall_cells := ⟨_, _, F26, PySem.W.mg_of X G a26, F26.binds (ps := pall_cells) fun _ _ _ _ _ _ us hl => match us, hl with | [], _ => rfl⟩
  have F27 := fun_mk (st := smay_set) l27 c27 k27
  have D27 : DefAt K mg "may_set" smay_set pmay_set := ⟨_, _, F27, PySem.W.mg_of X G a27, F27.binds (ps := pmay_set) fun _ _ _ _ _ _ us hl => match us, hl with | [_, _], _ => rfl⟩
  have F28 := fun_mk (st := smark_body) l28 c28 k28
  have D28 : DefAt K mg "mark_body" smark_body pmark_body := ⟨_, _, F28, PySem.W.mg_of X G a28, F28.binds (ps := pmark_body) fun _ _ _ _ _ _ us hl => match us, hl with | [_, _, _, _], _ => rfl⟩
  have F29 := fun_mk (st := smark_handed) l29 c29 k29
  have D29 : DefAt K mg "mark_handed" smark_handed pmark_handed := ⟨_, _, F29, PySem.W.mg_of X G a29, F29.binds (ps := pmark_handed) fun _ _ _ _ _ _ us hl => match us, hl with | [_, _, _, _], _ => rfl⟩
  have F30 := fun_mk (st := smark) l30 c30 k30
  have D30 : DefAt K mg "mark" smark pmark := ⟨_, _, F30, PySem.W.mg_of X G a30, F30.binds (ps := pmark) fun _ _ _ _ _ _ us hl => match us, hl with | [_, _], _ => rfl⟩
  have F31 := fun_mk (st := sL_taken) l31 c31 k31
  have D31 : DefAt K mg "_law_taken" sL_taken pL_taken := ⟨_, _, F31, PySem.W.mg_of X G a31, F31.binds (ps := pL_taken) fun _ _ _ _ _ _ us hl => match us, hl with | [_, _], _ => rfl⟩
  have F32 := fun_mk (st := sL_thing) l32 c32 k32
  have D32 : DefAt K mg "_law_thing" sL_thing pL_thing := ⟨_, _, F32, PySem.W.mg_of X G a32, F32.binds (ps := pL_thing) fun _ _ _ _ _ _ us hl => match us, hl with | [_, _, _], _ => rfl⟩
  have F33 := fun_mk (st := sL_place) l33 c33 k33
  have D33 : DefAt K mg "_law_place" sL_place pL_place := ⟨_, _, F33, PySem.W.mg_of X G a33, F33.binds (ps := pL_place) fun _ _ _ _ _ _ us hl => match us, hl with | [_, _, _], _ => rfl⟩
  have F34 := fun_mk (st := sL_step) l34 c34 k34
  have D34 : DefAt K mg "_law_step" sL_step pL_step := ⟨_, _, F34, PySem.W.mg_of X G a34, F34.binds (ps := pL_step) fun _ _ _ _ _ _ us hl => match us, hl with | [_, _, _, _, _], _ => rfl⟩
  have F35 := fun_mk (st := sL_body) l35 c35 k35
  have D35 : DefAt K mg "_law_body" sL_body pL_body := ⟨_, _, F35, PySem.W.mg_of X G a35, F35.binds (ps := pL_body) fun _ _ _ _ _ _ us hl => match us, hl with | [_, _, _, _, _], _ => rfl⟩
  have F36 := fun_mk (st := sL_program) l36 c36 k36
  have D36 : DefAt K mg "_law_program" sL_program pL_program := ⟨_, _, F36, PySem.W.mg_of X G a36, F36.binds (ps := pL_program) fun _ _ _ _ _ _ us hl => match us, hl with | [_, _], _ => rfl⟩
  have F37 := fun_mk (st := sL_ways) l37 c37 k37
  have D37 : DefAt K mg "_law_ways" sL_ways pL_ways := ⟨_, _, F37, PySem.W.mg_of X G a37, F37.binds (ps := pL_ways) fun _ _ _ _ _ _ us hl => match us, hl with | [_, _, _], _ => rfl⟩
  have F38 := fun_mk (st := sL_plain) l38 c38 k38
  have D38 : DefAt K mg "_law_plain" sL_plain pL_plain := ⟨_, _, F38, PySem.W.mg_of X G a38, F38.binds (ps := pL_plain) fun _ _ _ _ _ _ us hl => match us, hl with | [_, _], _ => rfl⟩
  have F39 := fun_mk (st := slaw) l39 c39 k39
  have D39 : DefAt K mg "law" slaw plaw := ⟨_, _, F39, PySem.W.mg_of X G a39, F39.binds (ps := plaw) fun _ _ _ _ _ _ us hl => match us, hl with | [_], _ => rfl⟩
  have F40 := fun_mk (st := sCell_init) l40 c40 k40
  have ClC : Cls K CC := ⟨pgC, hdC, poC, saC⟩
  have CAC : ClassAt K mg "Cell" "Cell.__init__" CC sCell_init pCell_init := ⟨f40, _, ⟨mkC, a40, i40, kcC⟩, F40, PySem.W.mg_of X G aCC, F40.binds (ps := pCell_init) fun _ _ _ _ _ _ us hl => match us, hl with | [_, _], _ => rfl⟩
  have F41 := fun_mk (st := sFrame_init) l41 c41 k41
  have ClF : Cls K CF := ⟨pgF, hdF, poF, saF⟩
  have CAF : ClassAt K mg "Frame" "Frame.__init__" CF sFrame_init pFrame_init := ⟨f41, _, ⟨mkF, a41, i41, kcF⟩, F41, PySem.W.mg_of X G aCF, F41.binds (ps := pFrame_init) fun _ _ _ _ _ _ us hl => match us, hl with | [_, _], _ => rfl⟩
  have F42 := fun_mk (st := sWant_init) l42 c42 k42
  have ClW : Cls K CW := ⟨pgW, hdW, poW, saW⟩
  have CAW : ClassAt K mg "Want" "Want.__init__" CW sWant_init pWant_init := ⟨f42, _, ⟨mkW, a42, i42, kcW⟩, F42, PySem.W.mg_of X G aCW, F42.binds (ps := pWant_init) fun _ _ _ _ _ _ us hl => match us, hl with | [_, _, _], _ => rfl⟩
  have F43 := fun_mk (st := sRun_init) l43 c43 k43
  have ClR : Cls K CR := ⟨pgR, hdR, poR, saR⟩
  have CAR : ClassAt K mg "Run" "Run.__init__" CR sRun_init pRun_init := ⟨f43, _, ⟨mkR, a43, i43, kcR⟩, F43, PySem.W.mg_of X G aCR, F43.binds (ps := pRun_init) fun _ _ _ _ _ _ us hl => match us, hl with | [_, _, _, _], _ => rfl⟩
  have B : Blt mg := ⟨PySem.W.mg_none_of X G z_len, PySem.W.mg_none_of X G z_int, PySem.W.mg_none_of X G z_range, PySem.W.mg_none_of X G z_isinstance, PySem.W.mg_none_of X G z_tuple, PySem.W.mg_none_of X G z_list, PySem.W.mg_none_of X G z_bool, PySem.W.mg_none_of X G z_str, PySem.W.mg_none_of X G z_zip, PySem.W.mg_none_of X G z_enumerate⟩
  have own : Own K mg CC CF CW CR := ⟨⟨ClC, haC, hn, htk, hmC⟩, ⟨ClW, haW, hn, htk, hmW⟩, ClF, ClR, kit_no neCW clCW tyCW suCW, kit_self, PySem.W.mg_of X G aCW, nC_number, nC_loans, nF_owns, nF_handed, nF_roads, nW_thing, nW_frame, nR_program, nR_ways, nR_commons, nR_said, nR_lent, nR_mixed⟩
  have T : Prg K (fun i => match i with | 0 => t0 | 1 => t1 | 2 => t2 | 3 => t3 | 4 => t4 | 5 => t5 | _ => t6) aP aW ⟨CC, CF, CW, CR⟩ mg := ⟨⟨⟨B, PySem.W.mg_of X G i_NUMBERS, PySem.W.mg_of X G i_MOST_WORKS, PySem.W.mg_of X G i_MOST_PARAMS, PySem.W.mg_of X G i_MOST_OWNS, PySem.W.mg_of X G i_MOST_STEPS, PySem.W.mg_of X G i_MOST_OTHERS, PySem.W.mg_of X G i_COMMON_CELLS⟩, PySem.W.mg_of X G t_PLACES, PySem.W.mg_of X G t_WAYS, .inr ⟨_, _, _, u_PLACES, rfl, rfl, (by show 3 ≤ sizeLine; decide), .cons ⟨_, rfl⟩ (.cons ⟨_, rfl⟩ (.cons ⟨_, rfl⟩ .nil))⟩, .inr ⟨_, _, _, u_WAYS, rfl, rfl, (by show 4 ≤ sizeLine; decide), .cons ⟨_, rfl⟩ (.cons ⟨_, rfl⟩ (.cons ⟨_, rfl⟩ (.cons ⟨_, rfl⟩ .nil)))⟩⟩, own, PySem.W.mg_of X G aCW⟩
  have T2 : Blt2 mg := ⟨PySem.W.mg_none_of X G z_reversed⟩
  refine ⟨PySem.W.fnOf "law" "law" (defArgs slaw) (defBody slaw) (defScope slaw) .none kV39 dc39 pm39 an39 cd39 ct39, fun s v => .of_eq rfl, fun base _ _ => ?_⟩
  exact (lawOk (P := l.prog) (w := w) (base := base) T T2 D0 D1 D2 D3 D4 D5 D6 D7 D8 D9 D10 D11 D12 D13 D14 D15 D16 D17 D18 D19 D20 D21 D22 D23 D24 D25 D26 D27 D28 D29 D30 D31 D32 D33 D34 D35 D36 D37 D38 D39 CAC CAF CAW CAR).at_ (PySem.W.mg_of X G a39) l39
theorem walk {l : PySem.W.OpenLaw} {q : Program} {loose : List Str} {XP : (Str → Option Value) → Heap → Prop} {YP : World → Heap → Prop} {d : DefRec} {K : Params → PySem.W.Frag} (hn : l.most = some 63) (hdf : d.params.defaults = [])
    (hY : ∀ (w : World) (h : Heap), YP w h → (K w.params).In h)
    (F : ∀ (w : World) (mg : Str → Option Value) (fa : Addr) (h : Heap), (K w.params).In h → h.Ns mainGlobals mg → mg d.name = some (.ref fa) →
      ∃ fd : FuncData, (∀ (s : Shared) (u : Value), BindsTo s fd ⟨[u], []⟩ [("_law_script", u)]) ∧ ∀ base : Heap, (K w.params).In base → base.Ns mainGlobals mg → FnOk l.prog w (K w.params) mg base CX0 130 fa fd ["_law_script"] (spLaw (K w.params))) :
    PySem.W.WalkO q loose XP YP l.row.toRowW d [] (fun f vs => PySem.call f vs) :=
  L2.walk_of (n := 63) (k := 130) (x := "_law_script") (CX := fun _ => CX0) (sp := fun w => spLaw (K w.params)) hn (by decide) hdf ⟨rfl, by decide, by decide⟩ hY F (fun _ _ a ns _ o hS => ⟨a, ns, rfl, scr_of o hS, fun _ => rfl⟩) fun _ _ _ _ _ z => z
end Hw
open PySem PySem.W PyProof.Rows
set_option maxRecDepth 100000 in
set_option maxHeartbeats 0 in
theorem PySem.Challenge.cw_handways_k10_whole_nothing_that_is_a_pla_holds : PySem.Challenge.rw_handways_k10_whole_nothing_that_is_a_pla.Holds := by
  w_on; o_law; k_head; (case hw => w_witness2)
  k_fill
  refine Hw.walk (l := PySem.Challenge.rw_handways_k10_whole_nothing_that_is_a_pla) rfl rfl (fun w h Y => PySem.W.kIn_of Y) ?F
  case F =>
    intro w mg fa h KX G hmg
    refine' Hw.all_mk KX G hmg ?a0 ?l0 ?c0 ?k0 ?a1 ?l1 ?c1 ?k1 ?a2 ?l2 ?c2 ?k2 ?a3 ?l3 ?c3 ?k3 ?a4 ?l4 ?c4 ?k4 ?a5 ?l5 ?c5 ?k5 ?a6 ?l6 ?c6 ?k6 ?a7 ?l7 ?c7 ?k7 ?a8 ?l8 ?c8 ?k8 ?a9 ?l9 ?c9 ?k9 ?a10 ?l10 ?c10 ?k10 ?a11 ?l11 ?c11 ?k11 ?a12 ?l12 ?c12 ?k12 ?a13 ?l13 ?c13 ?k13 ?a14 ?l14 ?c14 ?k14 ?a15 ?l15 ?c15 ?k15 ?a16 ?l16 ?c16 ?k16 ?a17 ?l17 ?c17 ?k17 ?a18 ?l18 ?c18 ?k18 ?a19 ?l19 ?c19 ?k19 ?a20 ?l20 ?c20 ?k20 ?a21 ?l21 ?c21 ?k21 ?a22 ?l22 ?c22 ?k22 ?a23 ?l23 ?c23 ?k23 ?a24 ?l24 ?c24 ?k24 ?a25 ?l25 ?c25 ?k25 ?a26 ?l26 ?c26 ?k26 ?a27 ?l27 ?c27 ?k27 ?a28 ?l28 ?c28 ?k28 ?a29 ?l29 ?c29 ?k29 ?a30 ?l30 ?c30 ?k30 ?a31 ?l31 ?c31 ?k31 ?a32 ?l32 ?c32 ?k32 ?a33 ?l33 ?c33 ?k33 ?a34 ?l34 ?c34 ?k34 ?a35 ?l35 ?c35 ?k35 ?a36 ?l36 ?c36 ?k36 ?a37 ?l37 ?c37 ?k37 ?a38 ?l38 ?c38 ?k38 ?a39 ?l39 ?c39 ?k39 ?aCC ?a40 ?i40 ?l40 ?c40 ?k40 ?pgC ?hdC ?poC ?saC ?mkC ?kcC ?nC_number ?nC_loans ?haC ?hmC ?aCF ?a41 ?i41 ?l41 ?c41 ?k41 ?pgF ?hdF ?poF ?saF ?mkF ?kcF ?nF_owns ?nF_handed ?nF_roads ?aCW ?a42 ?i42 ?l42 ?c42 ?k42 ?pgW ?hdW ?poW ?saW ?mkW ?kcW ?nW_thing ?nW_frame ?haW ?hmW ?aCR ?a43 ?i43 ?l43 ?c43 ?k43 ?pgR ?hdR ?poR ?saR ?mkR ?kcR ?nR_program ?nR_ways ?nR_commons ?nR_said ?nR_lent ?nR_mixed ?hn ?htk ?neCW ?clCW ?tyCW ?suCW ?i_NUMBERS ?i_MOST_WORKS ?i_MOST_PARAMS ?i_MOST_OWNS ?i_MOST_STEPS ?i_MOST_OTHERS ?i_COMMON_CELLS ?t_PLACES ?u_PLACES ?t_WAYS ?u_WAYS ?z_len ?z_int ?z_range ?z_isinstance ?z_tuple ?z_list ?z_bool ?z_str ?z_zip ?z_enumerate ?z_reversed
    (case a0 => k_is)
    (case l0 => k_is)
    (case c0 => k_is)
    (case k0 => k_is)
    (case a1 => k_is)
    (case l1 => k_is)
    (case c1 => k_is)
    (case k1 => k_is)
    (case a2 => k_is)
    (case l2 => k_is)
    (case c2 => k_is)
    (case k2 => k_is)
    (case a3 => k_is)
    (case l3 => k_is)
    (case c3 => k_is)
    (case k3 => k_is)
    (case a4 => k_is)
    (case l4 => k_is)
    (case c4 => k_is)
    (case k4 => k_is)
    (case a5 => k_is)
    (case l5 => k_is)
    (case c5 => k_is)
    (case k5 => k_is)
    (case a6 => k_is)
    (case l6 => k_is)
    (case c6 => k_is)
    (case k6 => k_is)
    (case a7 => k_is)
    (case l7 => k_is)
    (case c7 => k_is)
    (case k7 => k_is)
    (case a8 => k_is)
    (case l8 => k_is)
    (case c8 => k_is)
    (case k8 => k_is)
    (case a9 => k_is)
    (case l9 => k_is)
    (case c9 => k_is)
    (case k9 => k_is)
    (case a10 => k_is)
    (case l10 => k_is)
    (case c10 => k_is)
    (case k10 => k_is)
    (case a11 => k_is)
    (case l11 => k_is)
    (case c11 => k_is)
    (case k11 => k_is)
    (case a12 => k_is)
    (case l12 => k_is)
    (case c12 => k_is)
    (case k12 => k_is)
    (case a13 => k_is)
    (case l13 => k_is)
    (case c13 => k_is)
    (case k13 => k_is)
    (case a14 => k_is)
    (case l14 => k_is)
    (case c14 => k_is)
    (case k14 => k_is)
    (case a15 => k_is)
    (case l15 => k_is)
    (case c15 => k_is)
    (case k15 => k_is)
    (case a16 => k_is)
    (case l16 => k_is)
    (case c16 => k_is)
    (case k16 => k_is)
    (case a17 => k_is)
    (case l17 => k_is)
    (case c17 => k_is)
    (case k17 => k_is)
    (case a18 => k_is)
    (case l18 => k_is)
    (case c18 => k_is)
    (case k18 => k_is)
    (case a19 => k_is)
    (case l19 => k_is)
    (case c19 => k_is)
    (case k19 => k_is)
    (case a20 => k_is)
    (case l20 => k_is)
    (case c20 => k_is)
    (case k20 => k_is)
    (case a21 => k_is)
    (case l21 => k_is)
    (case c21 => k_is)
    (case k21 => k_is)
    (case a22 => k_is)
    (case l22 => k_is)
    (case c22 => k_is)
    (case k22 => k_is)
    (case a23 => k_is)
    (case l23 => k_is)
    (case c23 => k_is)
    (case k23 => k_is)
    (case a24 => k_is)
    (case l24 => k_is)
    (case c24 => k_is)
    (case k24 => k_is)
    (case a25 => k_is)
    (case l25 => k_is)
    (case c25 => k_is)
    (case k25 => k_is)
    (case a26 => k_is)
    (case l26 => k_is)
    (case c26 => k_is)
    (case k26 => k_is)
    (case a27 => k_is)
    (case l27 => k_is)
    (case c27 => k_is)
    (case k27 => k_is)
    (case a28 => k_is)
    (case l28 => k_is)
    (case c28 => k_is)
    (case k28 => k_is)
    (case a29 => k_is)
    (case l29 => k_is)
    (case c29 => k_is)
    (case k29 => k_is)
    (case a30 => k_is)
    (case l30 => k_is)
    (case c30 => k_is)
    (case k30 => k_is)
    (case a31 => k_is)
    (case l31 => k_is)
    (case c31 => k_is)
    (case k31 => k_is)
    (case a32 => k_is)
    (case l32 => k_is)
    (case c32 => k_is)
    (case k32 => k_is)
    (case a33 => k_is)
    (case l33 => k_is)
    (case c33 => k_is)
    (case k33 => k_is)
    (case a34 => k_is)
    (case l34 => k_is)
    (case c34 => k_is)
    (case k34 => k_is)
    (case a35 => k_is)
    (case l35 => k_is)
    (case c35 => k_is)
    (case k35 => k_is)
    (case a36 => k_is)
    (case l36 => k_is)
    (case c36 => k_is)
    (case k36 => k_is)
    (case a37 => k_is)
    (case l37 => k_is)
    (case c37 => k_is)
    (case k37 => k_is)
    (case a38 => k_is)
    (case l38 => k_is)
    (case c38 => k_is)
    (case k38 => k_is)
    (case a39 => k_is)
    (case l39 => k_is)
    (case c39 => k_is)
    (case k39 => k_is)
    (case aCC => k_is)
    (case a40 => k_is)
    (case i40 => k_is)
    (case l40 => k_is)
    (case c40 => k_is)
    (case k40 => k_is)
    (case pgC => k_is)
    (case hdC => k_is)
    (case poC => k_is)
    (case saC => k_is)
    (case mkC => k_is)
    (case kcC => k_is)
    (case nC_number => k_is)
    (case nC_loans => k_is)
    (case haC => k_is)
    (case hmC => k_is)
    (case aCF => k_is)
    (case a41 => k_is)
    (case i41 => k_is)
    (case l41 => k_is)
    (case c41 => k_is)
    (case k41 => k_is)
    (case pgF => k_is)
    (case hdF => k_is)
    (case poF => k_is)
    (case saF => k_is)
    (case mkF => k_is)
    (case kcF => k_is)
    (case nF_owns => k_is)
    (case nF_handed => k_is)
    (case nF_roads => k_is)
    (case aCW => k_is)
    (case a42 => k_is)
    (case i42 => k_is)
    (case l42 => k_is)
    (case c42 => k_is)
    (case k42 => k_is)
    (case pgW => k_is)
    (case hdW => k_is)
    (case poW => k_is)
    (case saW => k_is)
    (case mkW => k_is)
    (case kcW => k_is)
    (case nW_thing => k_is)
    (case nW_frame => k_is)
    (case haW => k_is)
    (case hmW => k_is)
    (case aCR => k_is)
    (case a43 => k_is)
    (case i43 => k_is)
    (case l43 => k_is)
    (case c43 => k_is)
    (case k43 => k_is)
    (case pgR => k_is)
    (case hdR => k_is)
    (case poR => k_is)
    (case saR => k_is)
    (case mkR => k_is)
    (case kcR => k_is)
    (case nR_program => k_is)
    (case nR_ways => k_is)
    (case nR_commons => k_is)
    (case nR_said => k_is)
    (case nR_lent => k_is)
    (case nR_mixed => k_is)
    (case hn => k_is)
    (case htk => k_is)
    (case neCW => decide)
    (case clCW => k_is)
    (case tyCW => k_is)
    (case suCW => k_is)
    (case i_NUMBERS => k_is)
    (case i_MOST_WORKS => k_is)
    (case i_MOST_PARAMS => k_is)
    (case i_MOST_OWNS => k_is)
    (case i_MOST_STEPS => k_is)
    (case i_MOST_OTHERS => k_is)
    (case i_COMMON_CELLS => k_is)
    (case t_PLACES => k_is)
    (case u_PLACES => k_is)
    (case t_WAYS => k_is)
    (case u_WAYS => k_is)
    (case z_len => k_is)
    (case z_int => k_is)
    (case z_range => k_is)
    (case z_isinstance => k_is)
    (case z_tuple => k_is)
    (case z_list => k_is)
    (case z_bool => k_is)
    (case z_str => k_is)
    (case z_zip => k_is)
    (case z_enumerate => k_is)
    (case z_reversed => k_is)
