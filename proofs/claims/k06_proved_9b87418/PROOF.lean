import PyProof.Rows.All
import Wide.All
import OpenK.AllK
import Wide.FinOn
import HandS.ForMost
import HandS.Steps
import HandS.IsInst
import HandS.TupAny
import HandS.Zip
import HandS.Codes
import HandS.Small
import HandS.Flow
import HandS.Walk
import HandS.Evl
import KE.GoesEnum
import KE.GoesZip
import KE.GoesMore
import HandS.List
import HandS.Deep
import HandS.Conv
import HandS.RevRange
import HandS.TupMul
import PySem.Challenge.RW_handways_k06_who_may_set_what
set_option Elab.async false
set_option linter.all false
set_option maxRecDepth 100000
set_option maxHeartbeats 4000000
/-! My own layer over HandS: callees in short, heaps that keep, data. -/
namespace Hw
open PySem PySem.Spec PyProof.Rows L2

/-! ### callees -/
section
variable {P : Program} {w : World} {K : PySem.W.Frag} {mg : Str → Option Value} {base : Heap}
/-- a def of the top, with its promise -/
structure Callee (P : Program) (w : World) (K : PySem.W.Frag) (mg : Str → Option Value) (base : Heap) (x : Str) (k : Nat) (ps : List Str) (sp : Sp) : Prop where
  ex : ∃ (f : Addr) (fd : FuncData), FnOk P w K mg base CX0 k f fd ps sp ∧ mg x = some (.ref f) ∧ PySem.W.keepIn K (.ref f) = true ∧ Binds K fd ps [] ∧ ∃ oc od osl, K.lookup f = some ⟨oc, od, .func fd, osl⟩
/-- a def of the top, as it stands -/
structure DefAt (K : PySem.W.Frag) (mg : Str → Option Value) (x : Str) (st : Stmt) (ps : List Str) : Prop where
  ex : ∃ (f : Addr) (fd : FuncData), Fun K x x st f fd ∧ mg x = some (.ref f) ∧ Binds K fd ps []
theorem DefAt.ok {x : Str} {st : Stmt} {N ps : List Str} {k : Nat} {sp : Sp} (D : DefAt K mg x st ps) (S : FnScope N ps (defScope st)) (len : ∀ vs H Q E, sp vs H Q E → vs.length = ps.length)
    (hbody : ∀ (f : Addr) (cdv : Value) (A : Around) (outer : List Env) (s : Shared) (H : Hp) (vs : List V) (Q : VK) (E : XK), Room k (A.deeper (envOfC x (defScope st) s.heap.objs.size f cdv)) → sp vs H Q E →
      ∃ t, PSs (cxOf CX0 P w K mg base N x (defScope st) f cdv A outer s H E).nox (defBody st) t ∧ t { nx := fun _ H' => Q .non H', rt := Q } (start N vs) H) : Callee P w K mg base x (k + 1) ps sp := by
  obtain ⟨f, fd, F, m, b⟩ := D.ex
  obtain ⟨oc, od, kV, doc, pm, an, cdv, ct, osl, e, lk, hcd⟩ := id F.ex
  exact ⟨f, fd, F.ok S len fun cdv A outer s H vs Q E hr h => hbody f cdv A outer s H vs Q E hr h, m, F.kp, b, oc, od, osl, lk⟩
/-- nothing is asked, nothing is promised -/
theorem DefAt.none {x : Str} {st : Stmt} {ps : List Str} {k : Nat} {sp : Sp} (D : DefAt K mg x st ps) (no : ∀ vs H Q E, ¬ sp vs H Q E) : Callee P w K mg base x k ps sp := by
  obtain ⟨f, fd, F, m, b⟩ := D.ex
  obtain ⟨oc, od, kV, doc, pm, an, cdv, ct, osl, e, lk, hcd⟩ := id F.ex
  exact ⟨f, fd, ⟨fun vs H Q E h => absurd h (no vs H Q E), fun A outer s H args us vs Q E _ _ _ _ h => absurd h (no vs H Q E)⟩, m, F.kp, b, oc, od, osl, lk⟩
theorem Callee.mono {x : Str} {j k : Nat} {ps : List Str} {sp : Sp} (C : Callee P w K mg base x j ps sp) (h : j ≤ k) : Callee P w K mg base x k ps sp := by
  obtain ⟨f, fd, F, r⟩ := C.ex
  exact ⟨f, fd, F.mono h, r⟩
/-- of all promises at once -/
theorem Callee.all {ι : Type} {x : Str} {k : Nat} {ps : List Str} {sp : ι → Sp} (i0 : ι) (h : ∀ i, Callee P w K mg base x k ps (sp i)) : Callee P w K mg base x k ps (fun vs H Q E => ∃ i, sp i vs H Q E) := by
  obtain ⟨f, fd, F, m, kp, b, oc, od, osl, lk⟩ := (h i0).ex
  have at_ : ∀ i, FnOk P w K mg base CX0 k f fd ps (sp i) := fun i => by
    obtain ⟨f', fd', F', m', kp', b', oc', od', osl', lk'⟩ := (h i).ex
    rw [m] at m'
    cases m'
    rw [lk] at lk'
    cases lk'
    exact F'
  exact ⟨f, fd, ⟨fun vs H Q E ⟨i, q⟩ => (at_ i).len vs H Q E q, fun A outer s H args us vs Q E hr he hb hv ⟨i, q⟩ => (at_ i).run A outer s H args us vs Q E hr he hb hv q⟩, m, kp, b, oc, od, osl, lk⟩
theorem Callee.imp {x : Str} {k : Nat} {ps : List Str} {sp sp' : Sp} (C : Callee P w K mg base x k ps sp) (h : ∀ vs H Q E, sp' vs H Q E → sp vs H Q E) : Callee P w K mg base x k ps sp' := by
  obtain ⟨f, fd, F, r⟩ := C.ex
  exact ⟨f, fd, F.imp h, r⟩
end
section
variable {X : Cx}
theorem pcall {k : Nat} {ps : List Str} {sp : Sp} {x : Str} {p pos : Pos} {e : Expr} {es : List Expr} {t : TA} (C : Callee X.prog X.w X.K X.mg X.base x k ps sp) (hr : Room k X.A) (hg : Gl X x) (ha : PA X (e :: es) t)
    (hd : (x == ("__debug__" : Str)) = false := by decide) (h1 : starEach (e :: es) X.env = (false, eval e X.env) :: starEach es X.env := by rfl)
    (h2 : ((backTo pos (starEach es X.env)).any fun x => x.1) = false := by rfl) : PE X (.Call (.Name x p) (e :: es) [] pos) (tCall sp [] E0 t) := by
  obtain ⟨f, fd, F, m, kp, b, _⟩ := C.ex
  exact pe_call F hr hg m kp b .nil pass0 ha hd h1 h2
theorem pcall0 {k : Nat} {ps : List Str} {sp : Sp} {x : Str} {p pos : Pos} (C : Callee X.prog X.w X.K X.mg X.base x k ps sp) (hr : Room k X.A) (hg : Gl X x)
    (hd : (x == ("__debug__" : Str)) = false := by decide) : PE X (.Call (.Name x p) [] [] pos) (tCall sp [] E0 tNil) := by
  obtain ⟨f, fd, F, m, kp, b, _⟩ := C.ex
  exact pe_call0 F hr hg m kp b .nil pass0 hd
end
/-- the built-in names that the program doesn't give another meaning -/
structure Blt (mg : Str → Option Value) : Prop where
  len : mg "len" = none
  int : mg "int" = none
  range : mg "range" = none
  isinstance : mg "isinstance" = none
  tuple : mg "tuple" = none
  list : mg "list" = none
  bool : mg "bool" = none
  str : mg "str" = none
  zip : mg "zip" = none
  enumerate : mg "enumerate" = none

/-! ### heaps that keep all but some -/
def Keep (M : List Addr) (H H' : Hp) : Prop := ∀ a o, H a = some o → a ∉ M → H' a = some o
theorem Keep.refl {M : List Addr} {H : Hp} : Keep M H H := fun _ _ h _ => h
theorem Keep.trans {M : List Addr} {H H1 H2 : Hp} (a : Keep M H H1) (b : Keep M H1 H2) : Keep M H H2 := fun x o h n => b x o (a x o h n) n
theorem Keep.mono {M M' : List Addr} {H H1 : Hp} (a : Keep M H H1) (s : ∀ x ∈ M, x ∈ M') : Keep M' H H1 := fun x o h n => a x o h fun z => n (s x z)
theorem Keep.new {M : List Addr} {H : Hp} {p : Addr} {o : HO} (h : H p = none) : Keep M H (upd H p o) := fun a u e _ => by
  rw [upd_ne (ne_of_none e h)]
  exact e
theorem Keep.put {M : List Addr} {H : Hp} {p : Addr} {o : HO} (h : p ∈ M) : Keep M H (upd H p o) := fun a u e n => by
  have : a ≠ p := fun z => n (z ▸ h)
  rw [upd_ne this]
  exact e
/-- what is new may be changed -/
theorem Keep.at {M : List Addr} {H H1 : Hp} {p : Addr} {o : HO} (a : Keep M H H1) (h : H p = none) : Keep M H (upd H1 p o) := fun x u e n => by
  rw [upd_ne (ne_of_none e h)]
  exact a x u e n
/-- what is only new may be changed by the rest -/
theorem Keep.less {M : List Addr} {H H1 : Hp} {p : Addr} (a : Keep (p :: M) H H1) (h : H p = none) : Keep M H H1 := fun x u e n =>
  a x u e fun z => by
    rcases List.mem_cons.mp z with z | z
    · exact ne_of_none e h z
    · exact n z
theorem Keep.fresh1 {M : List Addr} {H H1 H2 : Hp} {l : Addr} (k1 : Keep M H H1) (k2 : Keep [l] H1 H2) (n : H l = none) : Keep M H H2 :=
  ((k1.mono (M' := l :: M) fun x hx => List.mem_cons_of_mem _ hx).trans (k2.mono (M' := l :: M) fun x hx => List.mem_cons.mpr (.inl (List.mem_singleton.mp hx)))).less n
theorem Keep.by0 {M : List Addr} {H H1 H2 : Hp} (k1 : Keep M H H1) (k2 : Keep [] H1 H2) : Keep M H H2 := k1.trans (k2.mono fun _ z => nomatch z)
/-- free behind is free ahead -/
theorem Keep.free {M : List Addr} {H H1 : Hp} {p : Addr} (a : Keep M H H1) (hm : ∀ m ∈ M, H1 m ≠ none) (h : H1 p = none) : H p = none := by
  cases e : H p with
  | none => rfl
  | some o =>
    by_cases z : p ∈ M
    · exact absurd h (hm p z)
    · rw [a p o e z] at h
      cases h
theorem Keep.rd {M : List Addr} {H H1 : Hp} {a : Addr} {u : HO} (k : Keep M H H1) (n : a ∉ M) (h : Rd H a u) : Rd H1 a u := by
  rcases h with h | ⟨o, h⟩
  · exact .inl (k a _ h n)
  · exact .inr ⟨o, k a _ h n⟩
theorem Keep.sqL {K : PySem.W.Frag} {M : List Addr} {H H1 : Hp} {a : Addr} {xs : List V} (k : Keep M H H1) (n : a ∉ M) (h : SqL K H a xs) : SqL K H1 a xs := by
  rcases h with h | h
  · exact .inl (k.rd n h)
  · exact .inr h

/-! ### tuples stay -/
/-- every tuple, and whatever is locked, stands as it was -/
def Tst (H H' : Hp) : Prop := (∀ a xs, H a = some (.tup xs) → H' a = some (.tup xs)) ∧ ∀ a o u, H a = some (.frz o u) → H' a = some (.frz o u)
theorem Tst.refl {H : Hp} : Tst H H := ⟨fun _ _ h => h, fun _ _ _ h => h⟩
theorem Tst.trans {H H1 H2 : Hp} (a : Tst H H1) (b : Tst H1 H2) : Tst H H2 := ⟨fun x xs h => b.1 x xs (a.1 x xs h), fun x o u h => b.2 x o u (a.2 x o u h)⟩
/-- what is at M is no tuple and not locked -/
def Lo (H : Hp) (M : List Addr) : Prop := ∀ a ∈ M, (∃ xs, H a = some (.lst xs)) ∨ (∃ kvs, H a = some (.dK kvs)) ∨ ∃ C dx fs, H a = some (.ins C dx fs)
theorem Keep.ts {M : List Addr} {H H1 : Hp} (k : Keep M H H1) (l : Lo H M) : Tst H H1 := by
  have no : ∀ a o, H a = some o → (∀ xs, o ≠ .lst xs) → (∀ kvs, o ≠ .dK kvs) → (∀ C dx fs, o ≠ .ins C dx fs) → a ∉ M := fun a o e h1 h2 h3 z => by
    rcases l a z with ⟨xs, q⟩ | ⟨kvs, q⟩ | ⟨C, dx, fs, q⟩
    · rw [e] at q; exact h1 _ (Option.some.inj q)
    · rw [e] at q; exact h2 _ (Option.some.inj q)
    · rw [e] at q; exact h3 _ _ _ (Option.some.inj q)
  exact ⟨fun a xs h => k a _ h (no a _ h (fun _ z => nomatch z) (fun _ z => nomatch z) fun _ _ _ z => nomatch z), fun a o u h => k a _ h (no a _ h (fun _ z => nomatch z) (fun _ z => nomatch z) fun _ _ _ z => nomatch z)⟩
theorem Tst.new {H : Hp} {p : Addr} {o : HO} (h : H p = none) : Tst H (upd H p o) := (Keep.new (M := []) h).ts fun _ z => nomatch z
theorem Tst.sqT {K : PySem.W.Frag} {H H1 : Hp} {a : Addr} {xs : List V} (k : Tst H H1) (h : SqT K H a xs) : SqT K H1 a xs := by
  rcases h with (h | ⟨o, h⟩) | h
  · exact .inl (.inl (k.1 a xs h))
  · exact .inl (.inr ⟨o, k.2 a o _ h⟩)
  · exact .inr h

/-! ### data: texts, numbers, truths and tuples -/
mutual
inductive Rp (K : PySem.W.Frag) (H : Hp) : V → PyData → Prop
  | non : Rp K H .non .none
  | bl (b : Bool) : Rp K H (.bl b) (.bool b)
  | int (i : Int) : Rp K H (.int i) (.int i)
  | str (x : Str) : Rp K H (.str x) (.str x)
  | tup {a : Addr} {xs : List V} {ds : List PyData} : SqT K H a xs → Rps K H xs ds → Rp K H (.ref a) (.tuple ds)
inductive Rps (K : PySem.W.Frag) (H : Hp) : List V → List PyData → Prop
  | nil : Rps K H [] []
  | cons {v : V} {vs : List V} {d : PyData} {ds : List PyData} : Rp K H v d → Rps K H vs ds → Rps K H (v :: vs) (d :: ds)
end
section
variable {K : PySem.W.Frag} {H H1 : Hp}
mutual
theorem Rp.ts (k : Tst H H1) : ∀ {d : PyData} {v : V}, Rp K H v d → Rp K H1 v d
  | .none, _, h => by cases h; exact .non
  | .bool b, _, h => by cases h; exact .bl b
  | .int i, _, h => by cases h; exact .int i
  | .str x, _, h => by cases h; exact .str x
  | .tuple ds, _, h => by
    cases h with
    | tup hs ha => exact .tup (k.sqT hs) (Rps.ts k ha)
  | .list _, _, h => by cases h
  | .dict _, _, h => by cases h
theorem Rps.ts (k : Tst H H1) : ∀ {ds : List PyData} {vs : List V}, Rps K H vs ds → Rps K H1 vs ds
  | [], _, h => by cases h; exact .nil
  | d :: ds, _, h => by
    cases h with
    | cons h1 h2 => exact .cons (Rp.ts k h1) (Rps.ts k h2)
end
theorem Rps.length : ∀ {ds : List PyData} {vs : List V}, Rps K H vs ds → vs.length = ds.length
  | [], _, h => by cases h; rfl
  | d :: ds, _, h => by
    cases h with
    | cons h1 h2 => rw [List.length_cons, List.length_cons, Rps.length h2]
theorem Rps.get : ∀ {ds : List PyData} {vs : List V} {i : Nat} {d : PyData}, Rps K H vs ds → ds[i]? = some d → ∃ v, vs[i]? = some v ∧ Rp K H v d
  | [], _, _, _, _, e => by simp at e
  | d :: ds, _, 0, _, h, e => by
    cases h with
    | cons h1 h2 =>
      simp at e
      subst e
      exact ⟨_, rfl, h1⟩
  | d :: ds, _, i + 1, d', h, e => by
    cases h with
    | cons h1 h2 =>
      obtain ⟨v, q1, q2⟩ := Rps.get (i := i) h2 (by simpa using e)
      exact ⟨v, by simpa using q1, q2⟩
theorem Rps.get' : ∀ {ds : List PyData} {vs : List V} {i : Nat} {v : V}, Rps K H vs ds → vs[i]? = some v → ∃ d, ds[i]? = some d ∧ Rp K H v d
  | [], _, _, _, h, e => by cases h; simp at e
  | d :: ds, _, 0, _, h, e => by
    cases h with
    | cons h1 h2 =>
      simp at e
      subst e
      exact ⟨_, rfl, h1⟩
  | d :: ds, _, i + 1, d', h, e => by
    cases h with
    | cons h1 h2 =>
      obtain ⟨v, q1, q2⟩ := Rps.get' (i := i) h2 (by simpa using e)
      exact ⟨v, by simpa using q1, q2⟩
theorem Rps.append : ∀ {ds ds' : List PyData} {vs vs' : List V}, Rps K H vs ds → Rps K H vs' ds' → Rps K H (vs ++ vs') (ds ++ ds')
  | [], _, _, _, h, h' => by cases h; exact h'
  | d :: ds, _, _, _, h, h' => by
    cases h with
    | cons h1 h2 => exact .cons h1 (Rps.append h2 h')
theorem Rps.take : ∀ {ds : List PyData} {vs : List V} (n : Nat), Rps K H vs ds → Rps K H (vs.take n) (ds.take n)
  | _, _, 0, _ => by rw [List.take_zero, List.take_zero]; exact .nil
  | [], _, n + 1, h => by cases h; exact .nil
  | d :: ds, _, n + 1, h => by
    cases h with
    | cons h1 h2 => exact .cons h1 (Rps.take n h2)
theorem Rp.tup_inv {v : V} {ds : List PyData} (h : Rp K H v (.tuple ds)) : ∃ a xs, v = .ref a ∧ SqT K H a xs ∧ Rps K H xs ds := by
  cases h with
  | tup hs ha => exact ⟨_, _, rfl, hs, ha⟩
theorem Rp.int_inv {v : V} {i : Int} (h : Rp K H v (.int i)) : v = .int i := by cases h; rfl
theorem Rp.str_inv {v : V} {x : Str} (h : Rp K H v (.str x)) : v = .str x := by cases h; rfl
theorem Rps.inv0 {vs : List V} (h : Rps K H vs []) : vs = [] := by cases h; rfl
theorem Rps.inv {vs : List V} {d : PyData} {ds : List PyData} (h : Rps K H vs (d :: ds)) : ∃ v r, vs = v :: r ∧ Rp K H v d ∧ Rps K H r ds := by
  cases h with
  | cons h1 h2 => exact ⟨_, _, rfl, h1, h2⟩
end
/-- behind a store, behind a new object: the heap as a letter -/
theorem st_put {H : Hp} {p : Addr} {o : HO} {Q : Hp → Prop} (h : ∀ H1, H1 p = some o → Keep [p] H H1 → Q H1) : Q (upd H p o) := h _ upd_same (Keep.put (List.mem_singleton.mpr rfl))
theorem st_new {H : Hp} {o : HO} {Q : V → Hp → Prop} (h : ∀ p H1, H p = none → H1 p = some o → Keep [] H H1 → Q (.ref p) H1) : ∀ p, H p = none → Q (.ref p) (upd H p o) := fun p hp => h p _ hp upd_same (Keep.new hp)
theorem ite_t {c : Bool} {A B : Prop} (h : c = true) (a : A) : if c = true then A else B := by rw [if_pos h]; exact a
theorem ite_f {c : Bool} {A B : Prop} (h : c = false) (b : B) : if c = true then A else B := by rw [if_neg (by rw [h]; decide)]; exact b
theorem small {n : Nat} (h : n ≤ 100000) : n ≤ sizeLine := Nat.le_trans h (by decide)
theorem smallT {n : Nat} (h : n ≤ 100000) : n < sizeLine := Nat.lt_of_le_of_lt h (by decide)
end Hw
/-! Readings, one lemma a former: what is left, from the left. -/
namespace Hw
open PySem PySem.Spec PyProof.Rows L2

theorem cx_K {CX : CXT} {P : Program} {w : World} {K : PySem.W.Frag} {mg : Str → Option Value} {base : Heap} {N : List Str} {q : Str} {sc : Scope} {f : Addr} {cd : Value} {A : Around} {outer : List Env} {s : Shared} {H : Hp} {E : XK} :
    (cxOf CX P w K mg base N q sc f cd A outer s H E).nox.K = K := rfl

theorem cx_K1 {CX : CXT} {P : Program} {w : World} {K : PySem.W.Frag} {mg : Str → Option Value} {base : Heap} {N : List Str} {q : Str} {sc : Scope} {f : Addr} {cd : Value} {A : Around} {outer : List Env} {s : Shared} {H : Hp} {E : XK} :
    (cxOf CX P w K mg base N q sc f cd A outer s H E).K = K := rfl
def nums (l : List Nat) : List V := l.map fun (n : Nat) => V.int (n : Int)
theorem nums_flat {l : List Nat} : (nums l).all flatV = true := by
  unfold nums
  rw [List.all_eq_true]
  intro x hx
  obtain ⟨n, _, rfl⟩ := List.mem_map.mp hx
  rfl
theorem nums_get {l : List Nat} {i n : Nat} (h : l[i]? = some n) : atI (nums l) (i : Int) = some (.int (n : Int)) := atI_nat (by unfold nums; rw [List.getElem?_map, h]; rfl)
theorem nums_len {l : List Nat} : (nums l).length = l.length := List.length_map _
theorem nums_app {a b : List Nat} : nums (a ++ b) = nums a ++ nums b := List.map_append
theorem inV_nums {q : Nat} {l : List Nat} : inV (.int (q : Int)) (nums l) = decide (q ∈ l) := by
  unfold inV nums
  rw [List.any_map, Bool.eq_iff_iff, List.any_eq_true, decide_eq_true_eq]
  constructor
  · rintro ⟨x, hx, e⟩
    have e' : eqV (.int (x : Int)) (.int (q : Int)) = true := e
    have : (x : Int) = (q : Int) := by
      unfold eqV at e'
      simpa using e'
    have : x = q := by omega
    exact this ▸ hx
  · intro h
    refine ⟨q, h, ?_⟩
    show eqV (.int (q : Int)) (.int (q : Int)) = true
    unfold eqV
    simp
/-! ### rules with names -/
def rLen (K : PySem.W.Frag) : List V → Hp → VK → Prop := fun xs H Q => ∃ p ys, xs = [V.ref p] ∧ (SqL K H p ys ∨ SqT K H p ys) ∧ Q (V.int ↑ys.length) H
theorem c_len {X : Cx} : CallR X (.builtin "len") (rLen X.K) := call_len_seq
def rInt1 : List V → Hp → VK → Prop := fun xs H Q => (∃ i, xs = [.int i] ∧ Q (.int i) H) ∨ ∃ k, xs = [.bl k] ∧ Q (.int (if k then 1 else 0)) H
theorem c_int {X : Cx} : CallR X (.type "int") rInt1 := call_int1
def rTupOf (K : PySem.W.Frag) : List V → Hp → VK → Prop := fun xs H Q => ∃ p ys, xs = [.ref p] ∧ ((SqL K H p ys ∧ ∀ l, H l = none → Q (.ref l) (upd H l (.tup ys))) ∨ (SqT K H p ys ∧ Q (.ref p) H))
theorem c_tuple {X : Cx} : CallR X (.type "tuple") (rTupOf X.K) := call_tuple_of
def rLstOf (K : PySem.W.Frag) : List V → Hp → VK → Prop := fun xs H Q => ∃ p ys, xs = [V.ref p] ∧ (SqL K H p ys ∨ SqT K H p ys) ∧ ∀ (l : Addr), H l = none → Q (V.ref l) (upd H l (HO.lst ys))
theorem c_list {X : Cx} : CallR X (.type "list") (rLstOf X.K) := call_list_of

/-- an item of a list or of a tuple -/
def rIxA (K : PySem.W.Frag) : R2 := fun x y H Q => ∃ p xs i v, x = .ref p ∧ y = .int i ∧ (SqL K H p xs ∨ SqT K H p xs) ∧ atI xs i = some v ∧ Q v H
theorem ixA0 {X : Cx} : IxR X (rIxA X.K) := by
  intro value slice pins s σ H x y v u Q I rx ry h hs
  obtain ⟨p, xs, i, z, rfl, rfl, hq | hq, he, q⟩ := h
  · exact ix_list value slice pins s σ H _ _ v u Q I rx ry ⟨p, xs, i, z, rfl, rfl, hq, he, q⟩ hs
  · exact ix_tup value slice pins s σ H _ _ v u Q I rx ry ⟨p, xs, i, z, rfl, rfl, hq, he, q⟩ hs
def kb (t n : String) : Bool := (kitB t n).getD false
/-! the rules, the written part by its letter -/
section
variable {X : Cx} {K : PySem.W.Frag}
theorem ixL (h : X.K = K := by rfl) : IxR X (rIxL K) := h ▸ ix_list
theorem ixA (h : X.K = K := by rfl) : IxR X (rIxA K) := h ▸ ixA0
theorem ixT (h : X.K = K := by rfl) : IxR X (rIxT K) := h ▸ ix_tup
theorem cLen (h : X.K = K := by rfl) : CallR X (.builtin "len") (rLen K) := h ▸ c_len
theorem cTuple (h : X.K = K := by rfl) : CallR X (.type "tuple") (rTupOf K) := h ▸ c_tuple
theorem cList (h : X.K = K := by rfl) : CallR X (.type "list") (rLstOf K) := h ▸ c_list
theorem slL (h : X.K = K := by rfl) : SlR X (rSlL K) := h ▸ sl_list
theorem slA (h : X.K = K := by rfl) : SlR X (rSlA K) := h ▸ sl_tupA
theorem opCatA (h : X.K = K := by rfl) : OpR X (binaryOp .Add) (rCatA K) := h ▸ op_catA
theorem opIn (h : X.K = K := by rfl) : OpR X (compareOp .In) (rIn K false) := h ▸ op_in_seq
theorem opNotIn (h : X.K = K := by rfl) : OpR X (compareOp .NotIn) (rIn K true) := h ▸ op_notIn_seq
theorem opEqD (hu : X.A.units + 64 < cLine) (h : X.K = K := by rfl) : OpR X (compareOp .Eq) (rEqD K) := h ▸ op_eqD hu
theorem opNeD (hu : X.A.units + 64 < cLine) (h : X.K = K := by rfl) : OpR X (compareOp .NotEq) (rNeD K) := h ▸ op_neD hu
theorem cIsi (h : X.K = K := by rfl) : CallR X (.builtin "isinstance") (rIsi K) := h ▸ call_isi
theorem cIsiT (h : X.K = K := by rfl) : CallR X (.builtin "isinstance") (rIsiT K) := h ▸ call_isiT
theorem peFld {e : Expr} {f : Str} {pos : Pos} {ta : TE} (he : PE X e ta) (hb : attributeBase e f X.env (eval e X.env) = eval e X.env) (h : X.K = K := by rfl) : PE X (.Attribute e f pos) (tFld K ta f) := h ▸ pe_fld he hb
theorem psFld {o value : Expr} {f : Str} {pos pos' : Pos} {ta tv : TE} (ho : PE X o ta) (hv : PE X value tv) (hs : swapsWith value (some (.Attribute o f pos')) pos.line X.env = pure false) (h : X.K = K := by rfl) : PS X (.Assign [.Attribute o f pos'] value pos) (sFld K ta tv f) := h ▸ ps_fld ho hv hs
theorem peApp {o e : Expr} {to te : TE} {apos cpos : Pos} (ho : PE X o to) (he : PE X e te) (h : X.K = K := by rfl)
    (h1 : attributeBase o "append" X.env (eval o X.env) = eval o X.env := by rfl)
    (h2 : ((((backTo cpos (starEach (e :: []) X.env)).all fun x => !x.fst) && (backToKw cpos (keywordEach [] X.env)).all fun x => x.fst.isSome) && decide (((e :: []).length + ([] : List Keyword).length + if ([] : List Keyword).isEmpty = true then 0 else 1) < 30)) = true := by rfl)
    (h3 : (apos.endLine == cpos.line) = true := by rfl) (h4 : starEach (e :: []) X.env = (false, eval e X.env) :: starEach [] X.env := by rfl) (h5 : ((backTo cpos (starEach [] X.env)).any fun x => x.fst) = false := by rfl) :
    PE X (.Call (.Attribute o "append" apos) [e] [] cpos) (tBM K "list" rAppend to (tCons te tNil)) := h ▸ pe_bm PySem.F.plainAttrs_list PySem.F.slot_list_append PySem.F.type_list_append mt_append ho (pa_cons he pa_nil h4) h1 h2 h3 h4 h5
theorem piList {tg l : Expr} {tl : TE} (h1 : PE X l tl) (h : X.K = K := by rfl) : PI X tg l (iList K tl) := h ▸ pi_list h1
theorem piTup {tg l : Expr} {tl : TE} (h1 : PE X l tl) (h : X.K = K := by rfl) : PI X tg l (iTup K tl) := h ▸ pi_tup h1
theorem piZip {e e2 : Expr} {ta : TA} {p pos tpos : Pos} {elts : List Expr} {kk : Nat} (hg : Gl X "zip") (hm : X.mg "zip" = none) (ha : PA X [e, e2] ta) (h : X.K = K := by rfl)
    (hs : starEach [e, e2] X.env = (false, eval e X.env) :: starEach [e2] X.env := by rfl) (hpl : ((backTo pos (starEach [e2] X.env)).any fun x => x.fst) = false := by rfl) : PI X (.Tuple elts kk tpos) (.Call (.Name "zip" p) [e, e2] [] pos) (RZ.iZipA K ta) := h ▸ RZ.pi_zipA hg hm ha hs hpl
theorem pgTup {es : List Expr} {k : Nat} {t : TGs} {n : Nat} {pos : Pos} (hc : X.calm = true) (h1 : PGs X es t) (h : X.K = K := by rfl)
    (hn : (assignEach es X.env).length = n := by rfl) (hst : (assignEach es X.env).findIdx? (·.1) = none := by rfl) : PG X (.Tuple es k pos) (gTup K n t) := h ▸ pg_tup hc h1 hn hst
end
theorem dRN {a : Addr} : decide (V.ref a = V.non) = false := rfl
theorem dIN {i : Int} : decide (V.int i = V.non) = false := rfl
theorem dNN : decide (V.non = V.non) = true := rfl
theorem nRN {a : Addr} : (!decide (V.ref a = V.non)) = true := rfl
theorem nIN {i : Int} : (!decide (V.int i = V.non)) = true := rfl
theorem nNN : (!decide (V.non = V.non)) = false := rfl
/-- what is asked of a call; of a new object; of a loop -/
def Ask (sp : Sp) (vs : List V) (H : Hp) (Q : VK) (E : XK) : Prop := sp (vs ++ []) H Q E
def IsBl (x : V) (R : Bool → Prop) : Prop := ∃ k, x = .bl k ∧ R k
def IsInt (x : V) (R : Int → Prop) : Prop := ∃ i, x = .int i ∧ R i
def IsTwo (vs : List V) (R : V → V → Prop) : Prop := ∃ v w, vs = [v, w] ∧ R v w
def IsL (K : PySem.W.Frag) (x : V) (H : Hp) (R : Prop) : Prop := tyV K "list" x H ∧ R
def GetD (x y : V) (H : Hp) (R : V → Prop) : Prop := ∃ a v, x = V.ref a ∧ DGet H a y (some v) ∧ R v
def PutD (x y v : V) (H : Hp) (R : Hp → Prop) : Prop := ∃ a H4, x = V.ref a ∧ DPut H a y v H4 ∧ R H4
def GetF (K : PySem.W.Frag) (f : Str) (x : V) (H : Hp) (R : V → Prop) : Prop := ∃ a C dx fs v, x = V.ref a ∧ H a = some (HO.ins C dx fs) ∧ Cls K C ∧ NoAttr K C f ∧ List.lookup f fs = some v ∧ R v
def SetF (K : PySem.W.Frag) (f : Str) (x y : V) (H : Hp) (R : Hp → Prop) : Prop := ∃ a C dx fs, x = V.ref a ∧ H a = some (HO.ins C dx fs) ∧ Cls K C ∧ NoAttr K C f ∧ fs.length < 1000 ∧ R (upd H a (HO.ins C dx (putF f y fs)))
def New (o : HO) (n : Nat) (H : Hp) (Q : VK) : Prop := n ≤ sizeLine ∧ ∀ p, H p = none → Q (.ref p) (upd H p o)

section
variable {K : PySem.W.Frag} {σ : L2.St} {H : Hp} {Q : VK} {QT : Bool → Hp → Prop} {ta tb tc te : TE} {t u : TT} {x y z v : V} {D : Ends} {ts tu : TS}
theorem r_var {i : Nat} (h : σ[i]? = some (some v)) (q : Q v H) : tVar i σ H Q := ⟨v, h, q⟩
theorem r_c (q : Q v H) : tC v σ H Q := q
theorem r_op {r : R2} (h : ta σ H fun x H1 => tb σ H1 fun y H2 => r x y H2 Q) : tOp r ta tb σ H Q := h
theorem r_I0 {g : Int → Int → V} {i j : Int} (q : Q (g i j) H) : rI0 g (.int i) (.int j) H Q := ⟨i, j, rfl, rfl, q⟩
theorem r_I {C : Int → Int → Prop} {g : Int → Int → V} {i j : Int} (c : C i j) (q : Q (g i j) H) : rI C g (.int i) (.int j) H Q := ⟨i, j, rfl, rfl, c, q⟩
theorem r_eq (h : scal x y = true) (q : Q (.bl (decide (x = y))) H) : rEq x y H Q := ⟨h, q⟩
theorem r_ne (h : scal x y = true) (q : Q (.bl (!decide (x = y))) H) : rNe x y H Q := ⟨h, q⟩
theorem r_isN (q : Q (.bl (decide (x = .non))) H) : rIsN x .non H Q := ⟨rfl, q⟩
theorem r_notN (q : Q (.bl (!decide (x = .non))) H) : rNotN x .non H Q := ⟨rfl, q⟩
theorem r_ixL {p : Addr} {xs : List V} {i : Int} (h : SqL K H p xs) (e : atI xs i = some v) (q : Q v H) : rIxL K (.ref p) (.int i) H Q := ⟨p, xs, i, v, rfl, rfl, h, e, q⟩
theorem r_ixT {p : Addr} {xs : List V} {i : Int} (h : SqT K H p xs) (e : atI xs i = some v) (q : Q v H) : rIxT K (.ref p) (.int i) H Q := ⟨p, xs, i, v, rfl, rfl, h, e, q⟩
theorem r_ixA {p : Addr} {xs : List V} {i : Int} (h : SqL K H p xs ∨ SqT K H p xs) (e : atI xs i = some v) (q : Q v H) : rIxA K (.ref p) (.int i) H Q := ⟨p, xs, i, v, rfl, rfl, h, e, q⟩
theorem r_in {p : Addr} {xs : List V} {n : Bool} (h : SqL K H p xs ∨ SqT K H p xs) (f : flatV x = true) (g : xs.all flatV = true) (q : Q (V.bl (if n = true then !inV x xs else inV x xs)) H) : rIn K n x (.ref p) H Q := ⟨p, xs, rfl, h, f, g, q⟩
theorem r_test (h : te σ H fun x H' => IsBl x fun k => QT k H') : tTest te σ H QT := h
theorem r_B (h : te σ H fun x H' => IsBl x fun k => QT k H') : tB te σ H QT := h
theorem r_bl {k : Bool} {R : Bool → Prop} (q : R k) : IsBl (.bl k) R := ⟨k, rfl, q⟩
theorem r_not (h : t σ H fun c H1 => QT (!c) H1) : tNot t σ H QT := h
theorem r_and (h : t σ H fun c H1 => if c = true then u σ H1 QT else QT false H1) : tAnd t u σ H QT := h
theorem r_or (h : t σ H fun c H1 => if c = true then QT true H1 else u σ H1 QT) : tOr t u σ H QT := h
theorem r_notV (h : ta σ H fun x H1 => IsBl x fun c => Q (V.bl !c) H1) : tNotV ta σ H Q := h
theorem r_andV (h : ta σ H fun x H1 => IsBl x fun c => if c = true then tb σ H1 Q else Q (V.bl false) H1) : tAndV ta tb σ H Q := h
theorem r_orV (h : ta σ H fun x H1 => IsBl x fun c => if c = true then Q (V.bl true) H1 else tb σ H1 Q) : tOrV ta tb σ H Q := h
theorem r_ifE (h : t σ H fun c H1 => if c = true then ta σ H1 Q else tb σ H1 Q) : tIf t ta tb σ H Q := h
theorem r_chain {r r' : R2} (h : ta σ H fun x H1 => tb σ H1 fun y H2 => r x y H2 fun z H3 => IsBl z fun k => if k = true then tc σ H3 fun w' H4 => r' y w' H4 Q else Q (V.bl false) H3) : tChain r r' ta tb tc σ H Q := h
/-- both tests only look -/
theorem r_andP {a b : Bool} (h1 : ∀ R : Bool → Hp → Prop, R a H → t σ H R) (h2 : a = true → ∀ R : Bool → Hp → Prop, R b H → u σ H R) (q : QT (a && b) H) : tAnd t u σ H QT := by
  refine h1 _ ?_
  cases a with
  | true =>
    refine h2 rfl _ ?_
    exact q
  | false => exact q
theorem r_orP {a b : Bool} (h1 : ∀ R : Bool → Hp → Prop, R a H → t σ H R) (h2 : a = false → ∀ R : Bool → Hp → Prop, R b H → u σ H R) (q : QT (a || b) H) : tOr t u σ H QT := by
  refine h1 _ ?_
  cases a with
  | true => exact q
  | false =>
    refine h2 rfl _ ?_
    exact q
/-- an impure second test -/
theorem r_andI {a : Bool} (h1 : ∀ R : Bool → Hp → Prop, R a H → t σ H R) (h2 : a = true → u σ H QT) (h3 : a = false → QT false H) : tAnd t u σ H QT := by
  refine h1 _ ?_
  cases a with
  | true => exact h2 rfl
  | false => exact h3 rfl
theorem r_orI {a : Bool} (h1 : ∀ R : Bool → Hp → Prop, R a H → t σ H R) (h2 : a = false → u σ H QT) (h3 : a = true → QT true H) : tOr t u σ H QT := by
  refine h1 _ ?_
  cases a with
  | true => exact h3 rfl
  | false => exact h2 rfl
theorem cut {t u : TS} (Mid : L2.St → Hp → Prop) (h : t { D with nx := Mid } σ H) (k : ∀ σ' H', Mid σ' H' → u D σ' H') : Evl.tCut t u D σ H := ⟨Mid, h, k⟩
/-! arguments, calls -/
theorem r_nil {QA : List V → Hp → Prop} (q : QA [] H) : tNil σ H QA := q
theorem r_cons {QA : List V → Hp → Prop} {tr : TA} (h : ta σ H fun x H1 => tr σ H1 fun xs H2 => QA (x :: xs) H2) : tCons ta tr σ H QA := h
theorem r_call {sp : Sp} {E : XK} {t : TA} (h : t σ H fun vs H1 => Ask sp vs H1 Q E) : tCall sp [] E t σ H Q := h
theorem ask {sp : Sp} {vs : List V} {E : XK} (h : sp vs H Q E) : Ask sp vs H Q E := by
  unfold Ask
  rw [List.append_nil]
  exact h
theorem r_cb {r : List V → Hp → VK → Prop} {t : TA} (h : t σ H fun vs H1 => r vs H1 Q) : tCB r t σ H Q := h
theorem r_lenL {p : Addr} {ys : List V} (h : SqL K H p ys) (q : Q (.int ys.length) H) : rLen K [.ref p] H Q := ⟨p, ys, rfl, .inl h, q⟩
theorem r_lenT {p : Addr} {ys : List V} (h : SqT K H p ys) (q : Q (.int ys.length) H) : rLen K [.ref p] H Q := ⟨p, ys, rfl, .inr h, q⟩
theorem r_int {i : Int} (q : Q (.int i) H) : rInt1 [.int i] H Q := .inl ⟨i, rfl, q⟩
theorem r_intB {k : Bool} (q : Q (.int (if k then 1 else 0)) H) : rInt1 [.bl k] H Q := .inr ⟨k, rfl, q⟩
theorem r_tupL {p : Addr} {ys : List V} (h : SqL K H p ys) (q : New (.tup ys) 0 H Q) : rTupOf K [.ref p] H Q := ⟨p, ys, rfl, .inl ⟨h, q.2⟩⟩
theorem r_tupT {p : Addr} {ys : List V} (h : SqT K H p ys) (q : Q (.ref p) H) : rTupOf K [.ref p] H Q := ⟨p, ys, rfl, .inr ⟨h, q⟩⟩
theorem r_lstL {p : Addr} {ys : List V} (h : SqL K H p ys) (q : New (.lst ys) 0 H Q) : rLstOf K [.ref p] H Q := ⟨p, ys, rfl, .inl h, q.2⟩
theorem r_lstT {p : Addr} {ys : List V} (h : SqT K H p ys) (q : New (.lst ys) 0 H Q) : rLstOf K [.ref p] H Q := ⟨p, ys, rfl, .inr h, q.2⟩
/-! new objects -/
theorem r_tup {t : TA} (h : t σ H fun xs H1 => New (.tup xs) xs.length H1 Q) : tTup t σ H Q := h
theorem r_lst {t : TA} (h : t σ H fun xs H1 => New (.lst xs) xs.length H1 Q) : tLst t σ H Q := h
theorem new {o : HO} {n : Nat} (z : n ≤ sizeLine) (q : ∀ p H1, H p = none → H1 p = some o → Keep [] H H1 → Q (.ref p) H1) : New o n H Q := ⟨z, fun p hp => q p _ hp upd_same (Keep.new hp)⟩
/-! isinstance of a built-in class -/
theorem r_isi {t n : String} (ty : TyX K H x (.type t)) (e : (kitB t n).isSome = true) (q : Q (.bl (kb t n)) H) : rIsi K [x, .ty n] H Q := ⟨x, .ty n, .type t, .type n, kb t n, rfl, .ty n, ty, kit_ty (by unfold kb; rw [Option.isSome_iff_exists] at e; obtain ⟨b, e⟩ := e; rw [e]; rfl), q⟩
theorem r_isiT2 {t n1 n2 : String} {tp : Addr} (hT : H tp = some (.tup [.ty n1, .ty n2])) (ty : TyX K H x (.type t)) (e1 : (kitB t n1).isSome = true) (e2 : (kitB t n2).isSome = true) (q : Q (.bl (kb t n1 || kb t n2)) H) : rIsiT K [x, .ref tp] H Q := by
  have f1 : kitB t n1 = some (kb t n1) := by unfold kb; rw [Option.isSome_iff_exists] at e1; obtain ⟨b, e⟩ := e1; rw [e]; rfl
  have f2 : kitB t n2 = some (kb t n2) := by unfold kb; rw [Option.isSome_iff_exists] at e2; obtain ⟨b, e⟩ := e2; rw [e]; rfl
  exact ⟨x, tp, _, .type t, [.type n1, .type n2], kb t n1 || kb t n2, rfl, hT, .cons (.ty n1) (.cons (.ty n2) .nil), ty, kitAny_cons (kit_ty f1) (fun h => by rw [h, Bool.false_or]; exact kitAny_cons (kit_ty f2) (fun h2 => by rw [h2]; exact kitAny_nil) fun h2 => h2) (fun h => by rw [h, Bool.true_or]), q⟩
theorem tyT {a : Addr} {xs : List V} (h : SqT K H a xs) : TyX K H (.ref a) (.type "tuple") := by
  rcases h with (h | ⟨o, h⟩) | ⟨o, its, n, h, c, _⟩
  · exact .base (.tup h)
  · exact .fTuple h
  · exact .kTuple h c
theorem tyL {a : Addr} {xs : List V} (h : SqL K H a xs) : TyX K H (.ref a) (.type "list") := by
  rcases h with (h | ⟨o, h⟩) | ⟨o, its, n, h, c, _⟩
  · exact .base (.lst h)
  · exact .base (.frz h)
  · exact .kList h c
/-! slices, sums of sequences -/
theorem r_sl {r : V → Option Int → Option Int → Hp → VK → Prop} {tl th : TO} (h : te σ H fun x H1 => tl σ H1 fun l H2 => th σ H2 fun u H3 => r x l u H3 Q) : tSl r te tl th σ H Q := h
theorem r_part {QO : Option Int → Hp → Prop} (h : te σ H fun x H1 => IsInt x fun i => QO (some i) H1) : tPart te σ H QO := h
theorem r_part1 {R : Int → Prop} {i : Int} (q : R i) : IsInt (.int i) R := ⟨i, rfl, q⟩
theorem r_noPart {QO : Option Int → Hp → Prop} (q : QO none H) : tNoPart σ H QO := q
theorem r_slL {a : Addr} {xs : List V} {lo hi : Option Int} (h : SqL K H a xs) (q : New (.lst (cutV xs lo hi)) 0 H Q) : rSlL K (.ref a) lo hi H Q := ⟨a, xs, rfl, h, q.2⟩
/-- a slice of a tuple: some tuple of these -/
theorem r_slA {a : Addr} {xs : List V} {lo hi : Option Int} (h : SqT K H a xs) (q : ∀ p H1, SqT K H1 p (cutV xs lo hi) → Keep [] H H1 → (∀ b, H1 b = none → H b = none) → Q (.ref p) H1) : rSlA K (.ref a) lo hi H Q := by
  refine ⟨a, xs, rfl, h, fun e => ?_, fun _ p hp => q p _ (SqT.of upd_same) (Keep.new hp) fun b hb => (Keep.new (M := []) hp).free (fun _ z => nomatch z) hb⟩
  refine q a H ?_ Keep.refl fun _ h => h
  have : cutV xs lo hi = xs := by
    unfold cutV
    rw [e.1, e.2]
    simp
  rw [this]
  exact h
theorem cutV_to {xs : List V} {k : Int} (h : 0 ≤ k) : cutV xs none (some k) = xs.take k.toNat := by
  unfold cutV HT.sIx
  simp only [if_neg (show ¬ k < 0 by omega), List.drop_zero, Nat.sub_zero]
  rw [← List.take_take, List.take_length]
theorem atI_ints {ns : List Int} {v : Int} (h0 : 0 ≤ v) (h1 : v < ns.length) : ∃ z, atI (ns.map V.int) v = some (.int z) ∧ z ∈ ns := by
  obtain ⟨m, rfl⟩ : ∃ m : Nat, v = m := ⟨v.toNat, by omega⟩
  have hm : m < ns.length := by omega
  refine ⟨ns[m], atI_nat ?_, List.getElem_mem hm⟩
  rw [List.getElem?_map, List.getElem?_eq_getElem hm]
  rfl
theorem r_catA {a b : Addr} {xs ys : List V} (h : SqT K H a xs) (g : SqT K H b ys) (z : xs.length + ys.length ≤ sizeLine) (q : ∀ p H1, SqT K H1 p (xs ++ ys) → Keep [] H H1 → (∀ b, H1 b = none → H b = none) → Q (.ref p) H1) : rCatA K (.ref a) (.ref b) H Q := by
  refine ⟨a, b, xs, ys, rfl, rfl, h, g, z, fun e => ?_, fun _ e => ?_, fun _ _ p hp => q p _ (SqT.of upd_same) (Keep.new hp) fun b hb => (Keep.new (M := []) hp).free (fun _ z => nomatch z) hb⟩
  · refine q b H ?_ Keep.refl fun _ h => h
    rw [e]
    exact g
  · refine q a H ?_ Keep.refl fun _ h => h
    rw [e, List.append_nil]
    exact h
theorem r_cat {a b : Addr} {xs ys : List V} (h : H a = some (.lst xs)) (g : H b = some (.lst ys)) (z : xs.length + ys.length ≤ sizeLine) (q : New (.lst (xs ++ ys)) 0 H Q) : rCat (.ref a) (.ref b) H Q := ⟨a, b, xs, ys, rfl, rfl, h, g, z, q.2⟩
/-! statements -/
theorem r_seq (h : ts { D with nx := tu D } σ H) : tSeq ts tu D σ H := h
theorem r_next (h : D.nx σ H) : tNext D σ H := h
theorem r_asg {g : TG} (h : te σ H fun x H1 => g x σ H1 D.nx) : tAsg te g D σ H := h
theorem r_name {i : Nat} {QS : L2.St → Hp → Prop} (h : QS (σ.set i (some v)) H) : gName i v σ H QS := h
theorem r_drop (h : te σ H fun _ H1 => D.nx σ H1) : tDrop te D σ H := h
theorem r_ret (h : te σ H D.rt) : tRet te D σ H := h
theorem r_retN (h : D.rt .non H) : tRetN D σ H := h
theorem r_if (h : t σ H fun b H1 => if b = true then ts D σ H1 else tu D σ H1) : tIfS t ts tu D σ H := h
theorem r_par {i j : Nat} {ta : TA} (h : ta σ H fun vs H1 => IsTwo vs fun v w => D.nx ((List.set σ i (some v)).set j (some w)) H1) : tPar i j ta D σ H := h
theorem r_par2 {v w : V} {R : V → V → Prop} (q : R v w) : IsTwo [v, w] R := ⟨v, w, rfl, q⟩
theorem r_sub {to ti : TE} {t : TSet} {QS : L2.St → Hp → Prop} (h : to σ H fun o H1 => ti σ H1 fun i H2 => t o i v H2 fun H3 => QS σ H3) : gSub to ti t v σ H QS := h
theorem r_setL {p : Addr} {xs : List V} {k : Int} {j : Nat} {QH : Hp → Prop} (h : H p = some (.lst xs)) (e : ixN xs.length k = some j) (q : ∀ H1, H1 p = some (.lst (xs.set j v)) → Keep [p] H H1 → QH H1) : rSetL (.ref p) (.int k) v H QH :=
  ⟨p, xs, k, j, rfl, rfl, h, e, q _ upd_same (Keep.put (List.mem_singleton.mpr rfl))⟩
theorem r_gtup {a : Addr} {xs : List V} {n : Nat} {t : TGs} {QS : L2.St → Hp → Prop} (h : SqT K H a xs) (e : xs.length = n) (q : t xs σ H QS) : gTup K n t (.ref a) σ H QS := ⟨a, xs, rfl, h, e, q⟩
theorem r_gnil {QS : L2.St → Hp → Prop} (q : QS σ H) : gNil [] σ H QS := ⟨rfl, q⟩
theorem r_gcons {t : TG} {u : TGs} {r : List V} {QS : L2.St → Hp → Prop} (q : t v σ H fun σ' H' => u r σ' H' QS) : gCons t u (v :: r) σ H QS := ⟨v, r, rfl, q⟩
/-! methods -/
theorem r_append {r : V → List V → Hp → VK → Prop} {t : TA} (h : ta σ H fun x H1 => IsL K x H1 (t σ H1 fun xs H2 => r x xs H2 Q)) : tBM K "list" r ta t σ H Q := h
theorem r_isL {p : Addr} {xs : List V} {R : Prop} (h : SqL K H p xs) (q : R) : IsL K (.ref p) H R := ⟨.inl ⟨rfl, xs, h⟩, q⟩
theorem r_app {l : Addr} {xs : List V} (h : H l = some (.lst xs)) (z : xs.length < sizeLine) (q : ∀ H1, H1 l = some (.lst (xs ++ [y])) → Keep [l] H H1 → Q .non H1) : rAppend (.ref l) [y] H Q :=
  ⟨l, xs, y, rfl, rfl, h, z, q _ upd_same (Keep.put (List.mem_singleton.mpr rfl))⟩
/-! dicts with written text keys -/
theorem r_dget {td ty : TE} (h : td σ H fun x H1 => ty σ H1 fun y H2 => GetD x y H2 fun v => Q v H2) : tDGet td ty σ H Q := h
theorem r_dgetS {a : Addr} {k : Str} {kvs : List (Key × V)} {R : V → Prop} (h : H a = some (.dK kvs)) (e : valV kvs (.inr k) = some v) (q : R v) : GetD (.ref a) (.str k) H R := ⟨a, v, rfl, e ▸ DGet.k (k := Sum.inr k) h, q⟩
theorem r_dput {td ty tv : TE} (h : tv σ H fun v H1 => td σ H1 fun x H2 => ty σ H2 fun y H3 => PutD x y v H3 fun H4 => D.nx σ H4) : sDPut td ty tv D σ H := h
theorem r_dputS {a : Addr} {k : Str} {kvs : List (Key × V)} {QH : Hp → Prop} (h : H a = some (.dK kvs)) (z : kvs.length < sizeLine) (q : ∀ H1, H1 a = some (.dK (putK kvs (.inr k) v)) → Keep [a] H H1 → QH H1) : PutD (.ref a) (.str k) v H QH :=
  ⟨a, _, rfl, DPut.k (k := Sum.inr k) h z, q _ upd_same (Keep.put (List.mem_singleton.mpr rfl))⟩
/-! written dicts -/
def Disp (p : Addr) (ps : List (V × V)) (H : Hp) (Q : VK) : Prop := H p = some (.dK []) ∧ ∃ kvs : List (Key × V), ps = kvs.map (fun kv => (kV kv.1, kv.2)) ∧ kvs.length ≤ 15 ∧ Q (.ref p) (upd H p (.dK (mergeK [] kvs)))
theorem r_disp {trs : List (TE × TE)} (h : ∀ p H1, H p = none → H1 p = some (.dK []) → Keep [] H H1 → tPairs trs σ H1 fun ps H2 => Disp p ps H2 Q) : tDisp trs σ H Q := fun p hp => h p _ hp upd_same (Keep.new hp)
theorem r_pnil {QP : List (V × V) → Hp → Prop} (q : QP [] H) : tPairs [] σ H QP := q
theorem r_pcons {tk tv : TE} {r : List (TE × TE)} {QP : List (V × V) → Hp → Prop} (h : tk σ H fun x H1 => tv σ H1 fun y H2 => tPairs r σ H2 fun ps H3 => QP ((x, y) :: ps) H3) : tPairs ((tk, tv) :: r) σ H QP := h
theorem put_new {acc : List (Key × V)} {k : Key} {x : V} (h : ∀ p ∈ acc, p.1 ≠ k) : putK acc k x = acc ++ [(k, x)] := by
  unfold putK
  rw [if_neg]
  intro c
  obtain ⟨p, hp, e⟩ := List.any_eq_true.mp c
  exact h p hp (of_decide_eq_true e)
theorem mergeK_app : ∀ {kvs acc : List (Key × V)}, ((acc ++ kvs).map (·.1)).Nodup → mergeK acc kvs = acc ++ kvs
  | [], acc, _ => (List.append_nil acc).symm
  | (k, x) :: r, acc, h => by
    have e : acc ++ (k, x) :: r = (acc ++ [(k, x)]) ++ r := by rw [List.append_assoc]; rfl
    have hn : ∀ p ∈ acc, p.1 ≠ k := fun p hp z => by
      rw [List.map_append] at h
      exact (List.nodup_append.mp h).2.2 p.1 (List.mem_map_of_mem hp) k (List.mem_map_of_mem (f := (·.1)) (List.mem_cons_self (a := (k, x)))) z
    show mergeK (putK acc k x) r = _
    rw [put_new hn, e]
    exact mergeK_app (by rw [← e]; exact h)
theorem disp {p : Addr} {ps : List (V × V)} (kvs : List (Key × V)) (h : H p = some (.dK [])) (e : ps = kvs.map (fun kv => (kV kv.1, kv.2))) (z : kvs.length ≤ 15) (n : (kvs.map (·.1)).Nodup) (q : ∀ H1, H1 p = some (.dK kvs) → Keep [p] H H1 → Q (.ref p) H1) : Disp p ps H Q := by
  refine ⟨h, kvs, e, z, ?_⟩
  rw [mergeK_app (acc := []) (kvs := kvs) n]
  exact q _ upd_same (Keep.put (List.mem_singleton.mpr rfl))
/-! fields -/
theorem r_fld {f : Str} (h : ta σ H fun x H1 => GetF K f x H1 fun v => Q v H1) : tFld K ta f σ H Q := h
theorem r_fld1 {f : Str} {a C dx : Addr} {fs : List (Str × V)} {R : V → Prop} (h : H a = some (.ins C dx fs)) (c : Cls K C) (n : NoAttr K C f) (e : fs.lookup f = some v) (q : R v) : GetF K f (.ref a) H R := ⟨a, C, dx, fs, v, rfl, h, c, n, e, q⟩
theorem r_sfld {f : Str} {tv : TE} (h : tv σ H fun y H1 => ta σ H1 fun x H2 => SetF K f x y H2 fun H3 => D.nx σ H3) : sFld K ta tv f D σ H := h
theorem r_sfld1 {f : Str} {a C dx : Addr} {fs : List (Str × V)} {QH : Hp → Prop} (h : H a = some (.ins C dx fs)) (c : Cls K C) (n : NoAttr K C f) (z : fs.length < 1000) (q : ∀ H1, H1 a = some (.ins C dx (putF f y fs)) → Keep [a] H H1 → QH H1) : SetF K f (.ref a) y H QH := ⟨a, C, dx, fs, rfl, h, c, n, z, q _ upd_same (Keep.put (List.mem_singleton.mpr rfl))⟩
/-! loops -/
def ForIt (J : It) (g : TG) (tb : TS) (D : Ends) (σ : L2.St) (H : Hp) : Prop := ∃ W : Nat → Nat → L2.St → Hp → Prop, (∃ m, W 0 m σ H) ∧ ∀ i m σ H, W i m σ H →
  (J.stop i H ∧ D.nx σ H) ∨ (J.go i H ∧ ∃ N : L2.St → Hp → Prop, (∀ σ' H', N σ' H' → ∃ m', m' < m ∧ W (i + 1) m' σ' H') ∧ ∀ x H', J.yld i H x H' → g x σ H' fun σ2 H2 => tb { D with nx := N, ct := N, bk := D.nx } σ2 H2)
theorem r_for {wi : TI} {g : TG} (h : wi σ H fun J H1 => ForIt J g ts D σ H1) : tFor wi g ts D σ H := h
def RngOf (vs : List V) (R : Int → Prop) : Prop := ∃ j : Int, vs = [.int j] ∧ -(2 ^ 62) ≤ j ∧ j < 2 ^ 62 ∧ R j
theorem r_iRng1 {ta : TA} {R : It → Hp → Prop} (h : ta σ H fun vs H1 => RngOf vs fun n => R (Itr 0 n.toNat) H1) : iRng1 ta σ H R := h
theorem r_rng {j : Int} {R : Int → Prop} (h1 : -(2 ^ 62) ≤ j) (h2 : j < 2 ^ 62) (q : R j) : RngOf [.int j] R := ⟨j, rfl, h1, h2, q⟩
def OverL (K : PySem.W.Frag) (x : V) (H : Hp) (R : Addr → Prop) : Prop := ∃ a, x = .ref a ∧ (∃ xs, SqL K H a xs) ∧ R a
def OverT (K : PySem.W.Frag) (x : V) (H : Hp) (R : Addr → Prop) : Prop := ∃ a, x = .ref a ∧ (∃ xs, SqT K H a xs) ∧ R a
theorem r_iList {R : It → Hp → Prop} (h : ta σ H fun x H1 => OverL K x H1 fun a => R (Itl K a) H1) : iList K ta σ H R := h
theorem r_iTup {R : It → Hp → Prop} (h : ta σ H fun x H1 => OverT K x H1 fun a => R (Itt K a) H1) : iTup K ta σ H R := h
theorem r_overL {a : Addr} {xs : List V} {R : Addr → Prop} (h : SqL K H a xs) (q : R a) : OverL K (.ref a) H R := ⟨a, rfl, ⟨xs, h⟩, q⟩
theorem r_overT {a : Addr} {xs : List V} {R : Addr → Prop} (h : SqT K H a xs) (q : R a) : OverT K (.ref a) H R := ⟨a, rfl, ⟨xs, h⟩, q⟩
theorem forR {n : Nat} {g : TG} (Pv : Nat → L2.St → Hp → Prop) (h0 : Pv 0 σ H) (hs : ∀ i σ H, i < n → Pv i σ H → g (.int (i : Int)) σ H fun σ2 H2 => ts { D with nx := Pv (i + 1), ct := Pv (i + 1), bk := D.nx } σ2 H2)
    (hd : ∀ σ H, Pv n σ H → D.nx σ H) : ForIt (Itr 0 n) g ts D σ H :=
  for_it (walk_range (lo := 0) (n := n)) Pv h0 (fun _ _ _ _ _ => trivial) (fun i x σ H H' hi p y => by
    obtain ⟨rfl, rfl⟩ := y
    show g (.int (0 + (i : Int))) σ H' _
    rw [Int.zero_add]
    exact hs i σ H' hi p) hd
theorem forL {a : Addr} {xs : List V} {g : TG} (Pv : Nat → L2.St → Hp → Prop) (h0 : Pv 0 σ H) (hG : ∀ i σ H, i ≤ xs.length → Pv i σ H → SqL K H a xs) (hs : ∀ i x σ H, xs[i]? = some x → Pv i σ H → g x σ H fun σ2 H2 => ts { D with nx := Pv (i + 1), ct := Pv (i + 1), bk := D.nx } σ2 H2)
    (hd : ∀ σ H, Pv xs.length σ H → D.nx σ H) : ForIt (Itl K a) g ts D σ H :=
  for_it walk_list Pv h0 hG (fun i x σ H H' hi p y => by
    obtain ⟨rfl, e⟩ := y
    exact hs i x σ H' e p) hd
theorem forT {a : Addr} {xs : List V} {g : TG} (Pv : Nat → L2.St → Hp → Prop) (h0 : Pv 0 σ H) (hG : ∀ i σ H, i ≤ xs.length → Pv i σ H → SqT K H a xs) (hs : ∀ i x σ H, xs[i]? = some x → Pv i σ H → g x σ H fun σ2 H2 => ts { D with nx := Pv (i + 1), ct := Pv (i + 1), bk := D.nx } σ2 H2)
    (hd : ∀ σ H, Pv xs.length σ H → D.nx σ H) : ForIt (Itt K a) g ts D σ H :=
  for_it walk_tup Pv h0 hG (fun i x σ H H' hi p y => by
    obtain ⟨rfl, e⟩ := y
    exact hs i x σ H' e p) hd
def Down (Pv : Nat → L2.St → Hp → Prop) (m : Nat) (σ : L2.St) (H : Hp) : Prop := ∃ m', m' < m ∧ Pv m' σ H
/-- a turn of a while -/
def WhT (Pv : Nat → L2.St → Hp → Prop) (m : Nat) (ts : TS) (D : Ends) (σ : L2.St) (H : Hp) : Prop := ∃ N : L2.St → Hp → Prop, (∀ σ' H', N σ' H' → ∃ m', m' < m ∧ Pv m' σ' H') ∧ ts { D with nx := N, ct := N, bk := D.nx } σ H
theorem turn {Pv : Nat → L2.St → Hp → Prop} {m : Nat} (h : ts { D with nx := Down Pv m, ct := Down Pv m, bk := D.nx } σ H) : WhT Pv m ts D σ H := ⟨Down Pv m, fun _ _ q => q, h⟩
theorem whileM (Pv : Nat → L2.St → Hp → Prop) (m : Nat) (h0 : Pv m σ H) (hs : ∀ m σ H, Pv m σ H → t σ H fun b H1 => if b = true then WhT Pv m ts D σ H1 else D.nx σ H1) : tWhile t ts D σ H := ⟨Pv, ⟨m, h0⟩, hs⟩
/-! comprehensions, without ifs -/
def LcIt (J : It) (g : TG) (tt : TT) (te : TE) (vs : List Nat) (σ : L2.St) (H1 : Hp) (Q : VK) : Prop := ∀ D, H1 D = none → ∃ W : Nat → Nat → Hp → Prop, (∃ m, W 0 m (upd H1 D (.lst []))) ∧ ∀ i m H, W i m H →
  (J.stop i H ∧ Q (.ref D) H) ∨ (J.go i H ∧ ∃ Nx : Hp → Prop, (∀ H', Nx H' → ∃ m', m' < m ∧ W (i + 1) m' H') ∧ ∀ x H', J.yld i H x H' → g x (wipe σ vs) H' fun σ2 H2 => wipe σ2 vs = wipe σ vs ∧ tt σ2 H2 fun b H3 =>
    if b = true then te σ2 H3 fun y H4 => ∃ acc, H4 D = some (.lst acc) ∧ acc.length < sizeLine ∧ Nx (upd H4 D (.lst (acc ++ [y]))) else Nx H3)
theorem r_lc {wi : TI} {g : TG} {tt : TT} {vs : List Nat} (h : wi σ H fun J H1 => LcIt J g tt te vs σ H1 Q) : tLc wi g tt te vs σ H Q := h
def Acc (D : Addr) (y : V) (H : Hp) (R : Hp → Prop) : Prop := ∃ acc, H D = some (.lst acc) ∧ acc.length < sizeLine ∧ R (upd H D (.lst (acc ++ [y])))
theorem acc {E : Addr} {xs : List V} {R : Hp → Prop} (h : H E = some (.lst xs)) (z : xs.length < sizeLine) (q : ∀ H1, H1 E = some (.lst (xs ++ [y])) → Keep [E] H H1 → R H1) : Acc E y H R := ⟨xs, h, z, q _ upd_same (Keep.put (List.mem_singleton.mpr rfl))⟩
theorem lcY {J : It} {n : Nat} {G : Hp → Prop} {Y : Nat → Hp → V → Hp → Prop} (w : Walk J n G Y) {g : TG} {vs : List Nat} (Pv : Addr → Nat → Hp → Prop) (h0 : ∀ E H1, H E = none → H1 E = some (.lst []) → Keep [] H H1 → Pv E 0 H1) (hG : ∀ E i H, i ≤ n → Pv E i H → G H)
    (hs : ∀ E i x H H', i < n → Pv E i H → Y i H x H' → g x (wipe σ vs) H' fun σ2 H2 => wipe σ2 vs = wipe σ vs ∧ te σ2 H2 fun y H4 => Acc E y H4 (Pv E (i + 1))) (hd : ∀ E H, Pv E n H → Q (.ref E) H) : LcIt J g tYes te vs σ H Q :=
  fun E hE => lc_it w (Pv E) (h0 E _ hE upd_same (Keep.new hE)) (hG E) (fun i x H1 H' hi p y => hs E i x H1 H' hi p y) (hd E)
theorem lcR {n : Nat} {g : TG} {vs : List Nat} (Pv : Addr → Nat → Hp → Prop) (h0 : ∀ E H1, H E = none → H1 E = some (.lst []) → Keep [] H H1 → Pv E 0 H1)
    (hs : ∀ E i H, i < n → Pv E i H → g (.int (i : Int)) (wipe σ vs) H fun σ2 H2 => wipe σ2 vs = wipe σ vs ∧ te σ2 H2 fun y H4 => Acc E y H4 (Pv E (i + 1))) (hd : ∀ E H, Pv E n H → Q (.ref E) H) : LcIt (Itr 0 n) g tYes te vs σ H Q :=
  lcY (walk_range (lo := 0) (n := n)) Pv h0 (fun _ _ _ _ _ => trivial) (fun E i x H H' hi p y => by
    obtain ⟨rfl, rfl⟩ := y
    show g (.int (0 + (i : Int))) (wipe σ vs) H' _
    rw [Int.zero_add]
    exact hs E i H' hi p) hd
theorem lcL {a : Addr} {xs : List V} {g : TG} {vs : List Nat} (Pv : Addr → Nat → Hp → Prop) (h0 : ∀ E H1, H E = none → H1 E = some (.lst []) → Keep [] H H1 → Pv E 0 H1) (hG : ∀ E i H, i ≤ xs.length → Pv E i H → SqL K H a xs)
    (hs : ∀ E i x H, xs[i]? = some x → Pv E i H → g x (wipe σ vs) H fun σ2 H2 => wipe σ2 vs = wipe σ vs ∧ te σ2 H2 fun y H4 => Acc E y H4 (Pv E (i + 1))) (hd : ∀ E H, Pv E xs.length H → Q (.ref E) H) : LcIt (Itl K a) g tYes te vs σ H Q :=
  lcY walk_list Pv h0 hG (fun E i x H H' hi p y => by
    obtain ⟨rfl, e⟩ := y
    exact hs E i x H' e p) hd
theorem lcT {a : Addr} {xs : List V} {g : TG} {vs : List Nat} (Pv : Addr → Nat → Hp → Prop) (h0 : ∀ E H1, H E = none → H1 E = some (.lst []) → Keep [] H H1 → Pv E 0 H1) (hG : ∀ E i H, i ≤ xs.length → Pv E i H → SqT K H a xs)
    (hs : ∀ E i x H, xs[i]? = some x → Pv E i H → g x (wipe σ vs) H fun σ2 H2 => wipe σ2 vs = wipe σ vs ∧ te σ2 H2 fun y H4 => Acc E y H4 (Pv E (i + 1))) (hd : ∀ E H, Pv E xs.length H → Q (.ref E) H) : LcIt (Itt K a) g tYes te vs σ H Q :=
  lcY walk_tup Pv h0 hG (fun E i x H H' hi p y => by
    obtain ⟨rfl, e⟩ := y
    exact hs E i x H' e p) hd
/-! comprehensions with one if -/
theorem lcYi {J : It} {n : Nat} {G : Hp → Prop} {Y : Nat → Hp → V → Hp → Prop} (w : Walk J n G Y) {g : TG} {tt : TT} {vs : List Nat} (Pv : Addr → Nat → Hp → Prop) (h0 : ∀ E H1, H E = none → H1 E = some (.lst []) → Keep [] H H1 → Pv E 0 H1) (hG : ∀ E i H, i ≤ n → Pv E i H → G H)
    (hs : ∀ E i x H H', i < n → Pv E i H → Y i H x H' → g x (wipe σ vs) H' fun σ2 H2 => wipe σ2 vs = wipe σ vs ∧ tt σ2 H2 fun b H3 => if b = true then te σ2 H3 fun y H4 => Acc E y H4 (Pv E (i + 1)) else Pv E (i + 1) H3) (hd : ∀ E H, Pv E n H → Q (.ref E) H) : LcIt J g tt te vs σ H Q :=
  fun E hE => lc_it w (Pv E) (h0 E _ hE upd_same (Keep.new hE)) (hG E) (fun i x H1 H' hi p y => hs E i x H1 H' hi p y) (hd E)
theorem lcRi {n : Nat} {g : TG} {tt : TT} {vs : List Nat} (Pv : Addr → Nat → Hp → Prop) (h0 : ∀ E H1, H E = none → H1 E = some (.lst []) → Keep [] H H1 → Pv E 0 H1)
    (hs : ∀ E i H, i < n → Pv E i H → g (.int (i : Int)) (wipe σ vs) H fun σ2 H2 => wipe σ2 vs = wipe σ vs ∧ tt σ2 H2 fun b H3 => if b = true then te σ2 H3 fun y H4 => Acc E y H4 (Pv E (i + 1)) else Pv E (i + 1) H3) (hd : ∀ E H, Pv E n H → Q (.ref E) H) : LcIt (Itr 0 n) g tt te vs σ H Q :=
  lcYi (walk_range (lo := 0) (n := n)) Pv h0 (fun _ _ _ _ _ => trivial) (fun E i x H H' hi p y => by
    obtain ⟨rfl, rfl⟩ := y
    show g (.int (0 + (i : Int))) (wipe σ vs) H' _
    rw [Int.zero_add]
    exact hs E i H' hi p) hd
end
end Hw
/-! The syntax of programs in Lean, its data, what is well made. -/
namespace Hw
open PySem PySem.Spec PyProof.Rows L2

inductive Th where
  | num (n : Nat) | sum (a b : Th) | cell (t : Th) | own (k : Nat) | par (k : Nat)
mutual
inductive St where
  | set (p t : Th) | say (t : Th) | ite (t : Th) (a b : Sts) | call (w : Nat) (ts : List Th)
inductive Sts where
  | nil | cons (s : St) (r : Sts)
end
def Sts.app : Sts → Sts → Sts
  | .nil, r => r
  | .cons s q, r => .cons s (q.app r)
structure Wk where
  params : Nat
  owns : Nat
  body : Sts

def Th.enc : Th → PyData
  | .num n => .tuple [.str "num", .int (n : Int)]
  | .sum a b => .tuple [.str "sum", a.enc, b.enc]
  | .cell t => .tuple [.str "cell", t.enc]
  | .own k => .tuple [.str "own", .int (k : Int)]
  | .par k => .tuple [.str "par", .int (k : Int)]
mutual
def St.enc : St → PyData
  | .set p t => .tuple [.str "set", p.enc, t.enc]
  | .say t => .tuple [.str "say", t.enc]
  | .ite t a b => .tuple [.str "if", t.enc, .tuple a.encs, .tuple b.encs]
  | .call w ts => .tuple [.str "call", .int (w : Int), .tuple (ts.map Th.enc)]
def Sts.encs : Sts → List PyData
  | .nil => []
  | .cons s r => s.enc :: r.encs
end
def Wk.enc (w : Wk) : PyData := .tuple [.int (w.params : Int), .int (w.owns : Int), .tuple w.body.encs]
def encP (P : List Wk) : PyData := .tuple (P.map Wk.enc)

def Th.word : Th → Str
  | .num _ => "num"
  | .sum _ _ => "sum"
  | .cell _ => "cell"
  | .own _ => "own"
  | .par _ => "par"
theorem Th.head {K : PySem.W.Frag} {H : Hp} {v : V} : ∀ {t : Th}, Rp K H v t.enc → ∃ a r, v = .ref a ∧ SqT K H a (.str t.word :: r)
  | .num n, h => by
    obtain ⟨a, xs, rfl, ha, hx⟩ := h.tup_inv
    obtain ⟨v0, r0, rfl, g0, gr⟩ := hx.inv
    cases g0.str_inv
    exact ⟨a, r0, rfl, ha⟩
  | .sum x y, h => by
    obtain ⟨a, xs, rfl, ha, hx⟩ := h.tup_inv
    obtain ⟨v0, r0, rfl, g0, gr⟩ := hx.inv
    cases g0.str_inv
    exact ⟨a, r0, rfl, ha⟩
  | .cell x, h => by
    obtain ⟨a, xs, rfl, ha, hx⟩ := h.tup_inv
    obtain ⟨v0, r0, rfl, g0, gr⟩ := hx.inv
    cases g0.str_inv
    exact ⟨a, r0, rfl, ha⟩
  | .own n, h => by
    obtain ⟨a, xs, rfl, ha, hx⟩ := h.tup_inv
    obtain ⟨v0, r0, rfl, g0, gr⟩ := hx.inv
    cases g0.str_inv
    exact ⟨a, r0, rfl, ha⟩
  | .par n, h => by
    obtain ⟨a, xs, rfl, ha, hx⟩ := h.tup_inv
    obtain ⟨v0, r0, rfl, g0, gr⟩ := hx.inv
    cases g0.str_inv
    exact ⟨a, r0, rfl, ha⟩
section
variable {K : PySem.W.Frag} {H : Hp} {v : V}
theorem Th.inv_num {n : Nat} (h : Rp K H v (Th.num n).enc) : ∃ a, v = .ref a ∧ SqT K H a [.str "num", .int (n : Int)] := by
  obtain ⟨a, xs, rfl, ha, hx⟩ := h.tup_inv
  obtain ⟨v0, r0, rfl, g0, gr⟩ := hx.inv
  obtain ⟨v1, r1, rfl, g1, gr1⟩ := gr.inv
  cases gr1.inv0
  cases g0.str_inv
  cases g1.int_inv
  exact ⟨a, rfl, ha⟩
theorem Th.inv_own {n : Nat} (h : Rp K H v (Th.own n).enc) : ∃ a, v = .ref a ∧ SqT K H a [.str "own", .int (n : Int)] := by
  obtain ⟨a, xs, rfl, ha, hx⟩ := h.tup_inv
  obtain ⟨v0, r0, rfl, g0, gr⟩ := hx.inv
  obtain ⟨v1, r1, rfl, g1, gr1⟩ := gr.inv
  cases gr1.inv0
  cases g0.str_inv
  cases g1.int_inv
  exact ⟨a, rfl, ha⟩
theorem Th.inv_par {n : Nat} (h : Rp K H v (Th.par n).enc) : ∃ a, v = .ref a ∧ SqT K H a [.str "par", .int (n : Int)] := by
  obtain ⟨a, xs, rfl, ha, hx⟩ := h.tup_inv
  obtain ⟨v0, r0, rfl, g0, gr⟩ := hx.inv
  obtain ⟨v1, r1, rfl, g1, gr1⟩ := gr.inv
  cases gr1.inv0
  cases g0.str_inv
  cases g1.int_inv
  exact ⟨a, rfl, ha⟩
theorem Th.inv_cell {t : Th} (h : Rp K H v (Th.cell t).enc) : ∃ a u, v = .ref a ∧ SqT K H a [.str "cell", u] ∧ Rp K H u t.enc := by
  obtain ⟨a, xs, rfl, ha, hx⟩ := h.tup_inv
  obtain ⟨v0, r0, rfl, g0, gr⟩ := hx.inv
  obtain ⟨v1, r1, rfl, g1, gr1⟩ := gr.inv
  cases gr1.inv0
  cases g0.str_inv
  exact ⟨a, _, rfl, ha, g1⟩
theorem Th.inv_sum {t u : Th} (h : Rp K H v (Th.sum t u).enc) : ∃ a x y, v = .ref a ∧ SqT K H a [.str "sum", x, y] ∧ Rp K H x t.enc ∧ Rp K H y u.enc := by
  obtain ⟨a, xs, rfl, ha, hx⟩ := h.tup_inv
  obtain ⟨v0, r0, rfl, g0, gr⟩ := hx.inv
  obtain ⟨v1, r1, rfl, g1, gr1⟩ := gr.inv
  obtain ⟨v2, r2, rfl, g2, gr2⟩ := gr1.inv
  cases gr2.inv0
  cases g0.str_inv
  exact ⟨a, _, _, rfl, ha, g1, g2⟩
end
theorem atI_zero {x : V} {r : List V} : atI (x :: r) 0 = some x := atI_nat (j := 0) rfl
theorem Sts.encs_app : ∀ a b : Sts, (a.app b).encs = a.encs ++ b.encs
  | .nil, b => rfl
  | .cons s r, b => by
    show s.enc :: (r.app b).encs = s.enc :: (r.encs ++ b.encs)
    rw [Sts.encs_app r b]
def Sts.take : Nat → Sts → Sts
  | 0, _ => .nil
  | _ + 1, .nil => .nil
  | n + 1, .cons s r => .cons s (r.take n)
theorem Sts.encs_take : ∀ (n : Nat) (a : Sts), (a.take n).encs = a.encs.take n
  | 0, _ => by rw [List.take_zero]; rfl
  | _ + 1, .nil => rfl
  | n + 1, .cons s r => by
    show s.enc :: (r.take n).encs = s.enc :: (r.encs.take n)
    rw [Sts.encs_take n r]
def Sts.len : Sts → Nat
  | .nil => 0
  | .cons _ r => r.len + 1
theorem Sts.encs_len : ∀ a : Sts, a.encs.length = a.len
  | .nil => rfl
  | .cons s r => by
    show r.encs.length + 1 = r.len + 1
    rw [Sts.encs_len r]

/-! ### well made: p params, o own cells, so deep -/
def Th.ok (p o : Nat) : Nat → Th → Prop
  | _, .num n => n < 3
  | _, .own k => k < o
  | _, .par k => k < p
  | 0, .cell _ => False
  | 0, .sum _ _ => False
  | d + 1, .cell t => Th.ok p o d t
  | d + 1, .sum a b => Th.ok p o d a ∧ Th.ok p o d b
theorem Th.ok.mono {p o : Nat} : ∀ {t : Th} {d e : Nat}, Th.ok p o d t → d ≤ e → Th.ok p o e t
  | .num _, 0, 0, h, _ => h
  | .num _, 0, _ + 1, h, _ => h
  | .num _, _ + 1, 0, h, _ => h
  | .num _, _ + 1, _ + 1, h, _ => h
  | .own _, 0, 0, h, _ => h
  | .own _, 0, _ + 1, h, _ => h
  | .own _, _ + 1, 0, h, _ => h
  | .own _, _ + 1, _ + 1, h, _ => h
  | .par _, 0, 0, h, _ => h
  | .par _, 0, _ + 1, h, _ => h
  | .par _, _ + 1, 0, h, _ => h
  | .par _, _ + 1, _ + 1, h, _ => h
  | .cell t, 0, _, h, _ => h.elim
  | .cell t, _ + 1, 0, _, g => by omega
  | .cell t, d + 1, e + 1, h, g => Th.ok.mono (t := t) (d := d) (e := e) h (by omega)
  | .sum a b, 0, _, h, _ => h.elim
  | .sum a b, _ + 1, 0, _, g => by omega
  | .sum a b, d + 1, e + 1, h, g => ⟨Th.ok.mono (t := a) (d := d) (e := e) h.1 (by omega), Th.ok.mono (t := b) (d := d) (e := e) h.2 (by omega)⟩
theorem Th.ok_num {p o d n : Nat} (h : n < 3) : Th.ok p o d (.num n) := by cases d <;> exact h
theorem Th.ok_own {p o d n : Nat} (h : n < o) : Th.ok p o d (.own n) := by cases d <;> exact h
theorem Th.ok_par {p o d n : Nat} (h : n < p) : Th.ok p o d (.par n) := by cases d <;> exact h
def Th.isPlace : Th → Bool
  | .cell _ | .own _ | .par _ => true
  | _ => false
/- shapes: params and own cells of all works; the work at; so many steps within others -/
mutual
def St.ok (sh : List (Nat × Nat)) (at_ : Nat) : Nat → St → Prop
  | _, .set p t => p.isPlace = true ∧ Th.ok (sh.getD at_ (0, 0)).1 (sh.getD at_ (0, 0)).2 4 p ∧ Th.ok (sh.getD at_ (0, 0)).1 (sh.getD at_ (0, 0)).2 4 t
  | _, .say t => Th.ok (sh.getD at_ (0, 0)).1 (sh.getD at_ (0, 0)).2 4 t
  | 0, .ite _ _ _ => False
  | d + 1, .ite t a b => Th.ok (sh.getD at_ (0, 0)).1 (sh.getD at_ (0, 0)).2 4 t ∧ Sts.ok sh at_ d a ∧ Sts.ok sh at_ d b
  | _, .call w ts => at_ < w ∧ w < sh.length ∧ ts.length = (sh.getD w (0, 0)).1 ∧ ∀ t ∈ ts, Th.ok (sh.getD at_ (0, 0)).1 (sh.getD at_ (0, 0)).2 4 t
def Sts.ok (sh : List (Nat × Nat)) (at_ : Nat) : Nat → Sts → Prop
  | _, .nil => True
  | d, .cons s r => St.ok sh at_ d s ∧ Sts.ok sh at_ d r
end
theorem St.ok_set {sh : List (Nat × Nat)} {at_ d : Nat} {p t : Th} (h : p.isPlace = true) (h1 : Th.ok (sh.getD at_ (0, 0)).1 (sh.getD at_ (0, 0)).2 4 p) (h2 : Th.ok (sh.getD at_ (0, 0)).1 (sh.getD at_ (0, 0)).2 4 t) : St.ok sh at_ d (.set p t) := by
  cases d <;> (unfold St.ok; exact ⟨h, h1, h2⟩)
theorem St.ok_say {sh : List (Nat × Nat)} {at_ d : Nat} {t : Th} (h : Th.ok (sh.getD at_ (0, 0)).1 (sh.getD at_ (0, 0)).2 4 t) : St.ok sh at_ d (.say t) := by
  cases d <;> (unfold St.ok; exact h)
theorem St.ok_ite {sh : List (Nat × Nat)} {at_ d : Nat} {t : Th} {a b : Sts} (h : Th.ok (sh.getD at_ (0, 0)).1 (sh.getD at_ (0, 0)).2 4 t) (h1 : Sts.ok sh at_ d a) (h2 : Sts.ok sh at_ d b) : St.ok sh at_ (d + 1) (.ite t a b) := by
  unfold St.ok; exact ⟨h, h1, h2⟩
theorem St.ok_call {sh : List (Nat × Nat)} {at_ d w : Nat} {ts : List Th} (h : at_ < w) (h1 : w < sh.length) (h2 : ts.length = (sh.getD w (0, 0)).1) (h3 : ∀ t ∈ ts, Th.ok (sh.getD at_ (0, 0)).1 (sh.getD at_ (0, 0)).2 4 t) : St.ok sh at_ d (.call w ts) := by
  cases d <;> (unfold St.ok; exact ⟨h, h1, h2, h3⟩)
theorem getD_at {sh : List (Nat × Nat)} {i : Nat} (h : i < sh.length) : sh.getD i (0, 0) = sh[i] := by rw [List.getD_eq_getElem?_getD, List.getElem?_eq_getElem h]; rfl
/- how many steps, those within others too; how many calls -/
mutual
def St.many : St → Nat
  | .set _ _ => 1
  | .say _ => 1
  | .ite _ a b => 1 + a.many + b.many
  | .call _ _ => 1
def Sts.many : Sts → Nat
  | .nil => 0
  | .cons s r => s.many + r.many
end
mutual
def St.calls : St → Nat
  | .set _ _ => 0
  | .say _ => 0
  | .ite _ a b => a.calls + b.calls
  | .call _ _ => 1
def Sts.calls : Sts → Nat
  | .nil => 0
  | .cons s r => s.calls + r.calls
end
theorem Sts.ok_app {sh : List (Nat × Nat)} {at_ : Nat} : ∀ {d : Nat} {a b : Sts}, Sts.ok sh at_ d a → Sts.ok sh at_ d b → Sts.ok sh at_ d (a.app b)
  | _, .nil, _, _, g => g
  | d, .cons s r, b, h, g => by
    unfold Sts.ok at h
    show Sts.ok sh at_ d (.cons s (r.app b))
    unfold Sts.ok
    exact ⟨h.1, Sts.ok_app h.2 g⟩
theorem Sts.ok_take {sh : List (Nat × Nat)} {at_ : Nat} : ∀ {d : Nat} (n : Nat) {a : Sts}, Sts.ok sh at_ d a → Sts.ok sh at_ d (a.take n)
  | _, 0, _, _ => by unfold Sts.take Sts.ok; trivial
  | _, _ + 1, .nil, _ => by unfold Sts.take Sts.ok; trivial
  | d, n + 1, .cons s r, h => by
    unfold Sts.ok at h
    show Sts.ok sh at_ d (.cons s (r.take n))
    unfold Sts.ok
    exact ⟨h.1, Sts.ok_take n h.2⟩
theorem Sts.many_app : ∀ a b : Sts, (a.app b).many = a.many + b.many
  | .nil, b => (Nat.zero_add _).symm
  | .cons s r, b => by
    show s.many + (r.app b).many = s.many + r.many + b.many
    rw [Sts.many_app r b]
    omega
theorem Sts.many_take : ∀ (n : Nat) (a : Sts), (a.take n).many ≤ a.many
  | 0, _ => Nat.zero_le _
  | _ + 1, .nil => Nat.zero_le _
  | n + 1, .cons s r => by
    show s.many + (r.take n).many ≤ s.many + r.many
    have := Sts.many_take n r
    omega
theorem Sts.calls_app : ∀ a b : Sts, (a.app b).calls = a.calls + b.calls
  | .nil, b => (Nat.zero_add _).symm
  | .cons s r, b => by
    show s.calls + (r.app b).calls = s.calls + r.calls + b.calls
    rw [Sts.calls_app r b]
    omega
theorem Sts.calls_take : ∀ (n : Nat) (a : Sts), (a.take n).calls ≤ a.calls
  | 0, _ => Nat.zero_le _
  | _ + 1, .nil => Nat.zero_le _
  | n + 1, .cons s r => by
    show s.calls + (r.take n).calls ≤ s.calls + r.calls
    have := Sts.calls_take n r
    omega
theorem Sts.len_le_many : ∀ a : Sts, a.len ≤ a.many
  | .nil => Nat.le_refl _
  | .cons s r => by
    show r.len + 1 ≤ s.many + r.many
    have := Sts.len_le_many r
    have : 1 ≤ s.many := by cases s <;> (unfold St.many; omega)
    omega
def shapes (P : List Wk) : List (Nat × Nat) := P.map fun w => (w.params, w.owns)
/-- what the law's own drawing gives: a program; so many steps and calls at most in a work -/
structure Good (P : List Wk) (steps : Nat) : Prop where
  one : 1 ≤ P.length
  few : P.length ≤ 4
  first : ∀ w, P[0]? = some w → w.params = 0
  params : ∀ w ∈ P, w.params ≤ 3
  owns : ∀ w ∈ P, w.owns ≤ 10
  body : ∀ (i : Nat) (w : Wk), P[i]? = some w → Sts.ok (shapes P) i 2 w.body
  many : ∀ w ∈ P, w.body.many ≤ steps
  calls : ∀ w ∈ P, w.body.calls ≤ 4
end Hw
/-! Steps and works, opened. -/
namespace Hw
open PySem PySem.Spec PyProof.Rows L2
section
variable {K : PySem.W.Frag}
/-! ### steps, opened -/
section
variable {H : Hp} {v : V}
theorem St.inv_say {t : Th} (h : Rp K H v (St.say t).enc) : ∃ a u, v = .ref a ∧ SqT K H a [.str "say", u] ∧ Rp K H u t.enc := by
  obtain ⟨a, xs, rfl, ha, hx⟩ := h.tup_inv
  obtain ⟨v0, r0, rfl, g0, gr⟩ := hx.inv
  obtain ⟨v1, r1, rfl, g1, gr1⟩ := gr.inv
  cases gr1.inv0
  cases g0.str_inv
  exact ⟨a, _, rfl, ha, g1⟩
theorem St.inv_set {p t : Th} (h : Rp K H v (St.set p t).enc) : ∃ a u x, v = .ref a ∧ SqT K H a [.str "set", u, x] ∧ Rp K H u p.enc ∧ Rp K H x t.enc := by
  obtain ⟨a, xs, rfl, ha, hx⟩ := h.tup_inv
  obtain ⟨v0, r0, rfl, g0, gr⟩ := hx.inv
  obtain ⟨v1, r1, rfl, g1, gr1⟩ := gr.inv
  obtain ⟨v2, r2, rfl, g2, gr2⟩ := gr1.inv
  cases gr2.inv0
  cases g0.str_inv
  exact ⟨a, _, _, rfl, ha, g1, g2⟩
theorem St.inv_ite {t : Th} {b c : Sts} (h : Rp K H v (St.ite t b c).enc) : ∃ a u x y, v = .ref a ∧ SqT K H a [.str "if", u, x, y] ∧ Rp K H u t.enc ∧ Rp K H x (.tuple b.encs) ∧ Rp K H y (.tuple c.encs) := by
  obtain ⟨a, xs, rfl, ha, hx⟩ := h.tup_inv
  obtain ⟨v0, r0, rfl, g0, gr⟩ := hx.inv
  obtain ⟨v1, r1, rfl, g1, gr1⟩ := gr.inv
  obtain ⟨v2, r2, rfl, g2, gr2⟩ := gr1.inv
  obtain ⟨v3, r3, rfl, g3, gr3⟩ := gr2.inv
  cases gr3.inv0
  cases g0.str_inv
  exact ⟨a, _, _, _, rfl, ha, g1, g2, g3⟩
theorem St.inv_call {k : Nat} {ts : List Th} (h : Rp K H v (St.call k ts).enc) : ∃ a x, v = .ref a ∧ SqT K H a [.str "call", .int (k : Int), x] ∧ Rp K H x (.tuple (ts.map Th.enc)) := by
  obtain ⟨a, xs, rfl, ha, hx⟩ := h.tup_inv
  obtain ⟨v0, r0, rfl, g0, gr⟩ := hx.inv
  obtain ⟨v1, r1, rfl, g1, gr1⟩ := gr.inv
  obtain ⟨v2, r2, rfl, g2, gr2⟩ := gr1.inv
  cases gr2.inv0
  cases g0.str_inv
  cases g1.int_inv
  exact ⟨a, _, rfl, ha, g2⟩
theorem Wk.inv {k : Wk} (h : Rp K H v k.enc) : ∃ a x, v = .ref a ∧ SqT K H a [.int (k.params : Int), .int (k.owns : Int), x] ∧ Rp K H x (.tuple k.body.encs) := by
  obtain ⟨a, xs, rfl, ha, hx⟩ := h.tup_inv
  obtain ⟨v0, r0, rfl, g0, gr⟩ := hx.inv
  obtain ⟨v1, r1, rfl, g1, gr1⟩ := gr.inv
  obtain ⟨v2, r2, rfl, g2, gr2⟩ := gr1.inv
  cases gr2.inv0
  cases g0.int_inv
  cases g1.int_inv
  exact ⟨a, _, rfl, ha, g2⟩
end
def Sts.drop : Nat → Sts → Sts
  | 0, b => b
  | _ + 1, .nil => .nil
  | n + 1, .cons _ r => r.drop n
theorem Sts.drop_get : ∀ {i : Nat} {b : Sts} {d : PyData}, b.encs[i]? = some d → ∃ st, d = st.enc ∧ b.drop i = .cons st (b.drop (i + 1))
  | _, .nil, _, e => by simp [Sts.encs] at e
  | 0, .cons s r, d, e => by
    have e' : (s.enc :: r.encs)[0]? = some d := e
    simp at e'
    refine ⟨s, e'.symm, ?_⟩
    show Sts.cons s r = .cons s ((Sts.cons s r).drop 1)
    congr 1
  | i + 1, .cons s r, d, e => by
    have e' : (s.enc :: r.encs)[i + 1]? = some d := e
    simp at e'
    obtain ⟨st, e1, e2⟩ := Sts.drop_get e'
    exact ⟨st, e1, e2⟩
theorem Sts.drop_all : ∀ {b : Sts}, b.drop b.encs.length = .nil
  | .nil => rfl
  | .cons s r => by
    show (Sts.cons s r).drop (r.encs.length + 1) = .nil
    exact Sts.drop_all (b := r)
end
end Hw
/-! The runs, in Lean: numbers by place, what is said, what is lent, whether it is mixed. -/
namespace Hw
open PySem PySem.Spec PyProof.Rows L2

mutual
inductive Fr where
  | mk (owns : List Nat) (hs : Hds)
inductive Hd where
  | road (p : Nat) (ws : List Nat) | want (t : Th) (f : Fr)
inductive Hds where
  | nil | cons (h : Hd) (r : Hds)
end
def Hds.get : Hds → Nat → Option Hd
  | .nil, _ => none
  | .cons h _, 0 => some h
  | .cons _ r, n + 1 => r.get n
def Hds.of : List (Hd × Option Nat) → Hds
  | [] => .nil
  | (h, _) :: r => .cons h (Hds.of r)
/-- the number of a thing: at, the numbers by place; so much fuel -/
def numF (at_ : List Nat) : Nat → Fr → Th → Option Nat
  | 0, _, _ => none
  | _ + 1, _, .num k => some k
  | n + 1, f, .sum a b => (numF at_ n f a).bind fun x => (numF at_ n f b).bind fun y => some ((x + y) % 3)
  | n + 1, f, .cell t => (numF at_ n f t).bind fun x => at_[x]?
  | _ + 1, .mk os _, .own k => os[k]?.bind fun p => at_[p]?
  | n + 1, .mk _ hs, .par k => match hs.get k with
    | some (.road p _) => at_[p]?
    | some (.want t f) => numF at_ n f t
    | none => none
/-- the place that a thing is (none: it is none), and the lent things on the road -/
def roadF (at_ : List Nat) : Nat → Fr → Th → Option (Option (Nat × List Nat))
  | 0, _, _ => none
  | _ + 1, _, .num _ => some none
  | _ + 1, _, .sum _ _ => some none
  | n + 1, f, .cell t => (numF at_ n f t).map fun x => some (x, [])
  | _ + 1, .mk os _, .own k => os[k]?.map fun p => some (p, [])
  | n + 1, .mk _ hs, .par k => match hs.get k with
    | some (.road p ws) => some (some (p, ws))
    | some (.want t f) => roadF at_ n f t
    | none => none
/-- a place is come to by a road that doesn't go through each thing by which it is lent -/
def meet (lent : List (Nat × Nat)) (p : Nat) (ws : List Nat) : Bool := lent.any fun q => decide (q.1 = p) && !decide (q.2 ∈ ws)
/-- so is some place where the number of a thing is asked; where its place is found -/
def mixN (at_ : List Nat) (lent : List (Nat × Nat)) : Nat → Fr → Th → Bool
  | 0, _, _ => false
  | _ + 1, _, .num _ => false
  | n + 1, f, .sum a b => mixN at_ lent n f a || mixN at_ lent n f b
  | n + 1, f, .cell t => mixN at_ lent n f t || meet lent ((numF at_ n f t).getD 0) []
  | _ + 1, .mk os _, .own k => meet lent (os.getD k 0) []
  | n + 1, .mk _ hs, .par k => match hs.get k with
    | some (.road p ws) => meet lent p ws
    | some (.want t f) => mixN at_ lent n f t
    | none => false
def mixR (at_ : List Nat) (lent : List (Nat × Nat)) : Nat → Fr → Th → Bool
  | 0, _, _ => false
  | _ + 1, _, .num _ => false
  | _ + 1, _, .sum _ _ => false
  | n + 1, f, .cell t => mixN at_ lent n f t
  | _ + 1, .mk _ _, .own _ => false
  | n + 1, .mk _ hs, .par k => match hs.get k with
    | some (.road _ _) => false
    | some (.want t f) => mixR at_ lent n f t
    | none => false

structure LS where
  at_ : List Nat
  said : List Nat
  lent : List (Nat × Nat)
  many : Nat
  mixed : Bool
def LS.mix (S : LS) (b : Bool) : LS := { S with mixed := S.mixed || b }
theorem LS.mix_false (S : LS) : S.mix false = S := by unfold LS.mix; rw [Bool.or_false]
theorem LS.mix_mix (S : LS) (a b : Bool) : (S.mix a).mix b = S.mix (a || b) := by unfold LS.mix; simp only [Bool.or_assoc]
/-- a new place with the number of the thing -/
def newF (N : Nat) (S : LS) (f : Fr) (t : Th) : Option (Hd × Option Nat × LS) :=
  (numF S.at_ N f t).map fun v => (.road S.at_.length [], none, { S.mix (mixN S.at_ S.lent N f t) with at_ := S.at_ ++ [v] })
/-- a place is lent -/
def LS.lend (S : LS) (p : Nat) (ws : List Nat) : LS := { S.mix (meet S.lent p ws) with many := S.many + 1, lent := S.lent ++ [(p, S.many + 1)] }
def handF (N : Nat) (S : LS) (f : Fr) (t : Th) (way : Str) : Option (Hd × Option Nat × LS) :=
  if way = "want" then some (.want t f, none, S)
  else if way = "place" ∨ way = "back" then
    (roadF S.at_ N f t).bind fun r => match r with
      | none => newF N (S.mix (mixR S.at_ S.lent N f t)) f t
      | some (p, ws) =>
        if way = "place" then some (.road p (ws ++ [S.many + 1]), none, (S.mix (mixR S.at_ S.lent N f t)).lend p ws)
        else S.at_[p]?.map fun v => (.road S.at_.length [], some p, { (S.mix (mixR S.at_ S.lent N f t)).lend p ws with at_ := S.at_ ++ [v] })
  else newF N S f t
def handsF (N : Nat) (f : Fr) : LS → List Th → List Str → Option (List (Hd × Option Nat) × LS)
  | S, [], _ => some ([], S)
  | S, t :: ts, w :: ws => (handF N S f t w).bind fun (h, b, S1) => (handsF N f S1 ts ws).map fun (r, S2) => ((h, b) :: r, S2)
  | _, _ :: _, [] => none
/-- what is laid back -/
def backsF : List Nat → List (Hd × Option Nat) → Option (List Nat)
  | at_, [] => some at_
  | at_, (_, none) :: r => backsF at_ r
  | at_, (.road q _, some p) :: r => if p < at_.length then at_[q]?.bind fun v => backsF (at_.set p v) r else none
  | _, (.want _ _, some _) :: _ => none
def iter (g : LS → St → Option LS) : Sts → LS → Option LS
  | .nil, S => some S
  | .cons s r, S => (g S s).bind (iter g r)
/-- own cells -/
def LS.enter (S : LS) (owns : Nat) : LS := { S with at_ := S.at_ ++ List.replicate owns 0 }
def ownsOf (S : LS) (owns : Nat) : List Nat := List.range' S.at_.length owns
def stepF (P : List Wk) (W : List (List Str)) (N : Nat) : Nat → Fr → LS → St → Option LS
  | 0, _, _, _ => none
  | _ + 1, f, S, .say t => (numF S.at_ N f t).map fun v => { S.mix (mixN S.at_ S.lent N f t) with said := S.said ++ [v] }
  | n + 1, f, S, .ite t a b => (numF S.at_ N f t).bind fun v => iter (stepF P W N n f) (if v = 0 then b else a) (S.mix (mixN S.at_ S.lent N f t))
  | _ + 1, f, S, .set p t => (numF S.at_ N f t).bind fun v => (roadF S.at_ N f p).bind fun r => match r with
    | none => some ((S.mix (mixN S.at_ S.lent N f t)).mix (mixR S.at_ S.lent N f p))
    | some (q, ws) => if q < S.at_.length then some { ((S.mix (mixN S.at_ S.lent N f t)).mix (mixR S.at_ S.lent N f p)).mix (meet S.lent q ws) with at_ := S.at_.set q v } else none
  | n + 1, f, S, .call w ts => W[w]?.bind fun ws => if ws.length = ts.length then (handsF N f S ts ws).bind fun (hs, S1) => P[w]?.bind fun wk =>
    (iter (stepF P W N n (.mk (ownsOf S1 wk.owns) (Hds.of hs))) wk.body (S1.enter wk.owns)).bind fun S2 => (backsF S2.at_ hs).map fun a => { S2 with at_ := a, lent := S2.lent.take S.lent.length } else none
def doesF (P : List Wk) (W : List (List Str)) (N n : Nat) (S : LS) (w : Nat) (hs : Hds) : Option LS :=
  P[w]?.bind fun wk => iter (stepF P W N n (.mk (ownsOf S wk.owns) hs)) wk.body (S.enter wk.owns)
def ranF (P : List Wk) (W : List (List Str)) (N n : Nat) (cells : List Nat) : Option LS := doesF P W N n ⟨cells, [], [], 0, false⟩ 0 .nil
end Hw
/-! Runs only grow. -/
namespace Hw
open PySem PySem.Spec PyProof.Rows L2
mutual
def Fr.wsLe (m : Nat) : Fr → Prop
  | .mk _ hs => hs.wsLe m
def Hd.wsLe (m : Nat) : Hd → Prop
  | .road _ ws => ws.length ≤ m
  | .want _ f => f.wsLe m
def Hds.wsLe (m : Nat) : Hds → Prop
  | .nil => True
  | .cons h r => h.wsLe m ∧ r.wsLe m
end
mutual
theorem Fr.wsLe.mono {m n : Nat} (l : m ≤ n) : ∀ {f : Fr}, f.wsLe m → f.wsLe n
  | .mk _ hs, h => by
    unfold Fr.wsLe at h ⊢
    exact Hds.wsLe.mono l h
theorem Hd.wsLe.mono {m n : Nat} (l : m ≤ n) : ∀ {d : Hd}, d.wsLe m → d.wsLe n
  | .road _ ws, h => by
    unfold Hd.wsLe at h ⊢
    exact Nat.le_trans h l
  | .want _ f, h => by
    unfold Hd.wsLe at h ⊢
    exact Fr.wsLe.mono l h
theorem Hds.wsLe.mono {m n : Nat} (l : m ≤ n) : ∀ {hs : Hds}, hs.wsLe m → hs.wsLe n
  | .nil, h => by unfold Hds.wsLe; trivial
  | .cons d r, h => by
    unfold Hds.wsLe at h ⊢
    exact ⟨Hd.wsLe.mono l h.1, Hds.wsLe.mono l h.2⟩
end
theorem Hds.wsLe.get {m : Nat} : ∀ {hs : Hds} {i : Nat} {d : Hd}, hs.wsLe m → hs.get i = some d → d.wsLe m
  | .nil, _, _, _, e => by unfold Hds.get at e; cases e
  | .cons d r, 0, d', h, e => by
    unfold Hds.wsLe at h
    unfold Hds.get at e
    cases e
    exact h.1
  | .cons d r, i + 1, d', h, e => by
    unfold Hds.wsLe at h
    unfold Hds.get at e
    exact Hds.wsLe.get h.2 e
theorem roadF_ws {at_ : List Nat} {m : Nat} : ∀ {N : Nat} {f : Fr} {t : Th} {p : Nat} {ws : List Nat}, f.wsLe m → roadF at_ N f t = some (some (p, ws)) → ws.length ≤ m
  | 0, f, t, p, ws, _, e => by unfold roadF at e; cases e
  | n + 1, f, .num _, p, ws, _, e => by unfold roadF at e; cases e
  | n + 1, f, .sum _ _, p, ws, _, e => by unfold roadF at e; cases e
  | n + 1, f, .cell u, p, ws, _, e => by
    unfold roadF at e
    cases q : numF at_ n f u with
    | none => rw [q] at e; cases e
    | some x => rw [q] at e; cases e; exact Nat.zero_le _
  | n + 1, .mk os hs, .own k, p, ws, _, e => by
    unfold roadF at e
    cases q : os[k]? with
    | none => rw [q] at e; cases e
    | some x => rw [q] at e; cases e; exact Nat.zero_le _
  | n + 1, .mk os hs, .par k, p, ws, h, e => by
    unfold roadF at e
    unfold Fr.wsLe at h
    cases q : hs.get k with
    | none => rw [q] at e; cases e
    | some d =>
      have hd := h.get q
      rw [q] at e
      cases d with
      | road p2 ws2 => cases e; unfold Hd.wsLe at hd; exact hd
      | want u f2 => unfold Hd.wsLe at hd; exact roadF_ws hd e
structure Le (S S' : LS) : Prop where
  a : S.at_.length ≤ S'.at_.length
  s : S.said.length ≤ S'.said.length
  m : S.many ≤ S'.many
  l : S.lent.length ≤ S.many → S'.lent.length ≤ S'.many
theorem Le.refl {S : LS} : Le S S := ⟨Nat.le_refl _, Nat.le_refl _, Nat.le_refl _, id⟩
theorem Le.trans {S S1 S2 : LS} (x : Le S S1) (y : Le S1 S2) : Le S S2 := ⟨Nat.le_trans x.a y.a, Nat.le_trans x.s y.s, Nat.le_trans x.m y.m, fun h => y.l (x.l h)⟩
theorem Le.mix {S : LS} {b : Bool} : Le S (S.mix b) := ⟨Nat.le_refl _, Nat.le_refl _, Nat.le_refl _, id⟩
theorem Le.lend {S : LS} {p : Nat} {ws : List Nat} : Le S (S.lend p ws) := ⟨Nat.le_refl _, Nat.le_refl _, Nat.le_succ _, fun h => by
  show (S.lent ++ [(p, S.many + 1)]).length ≤ S.many + 1
  rw [List.length_append, List.length_singleton]
  omega⟩
theorem newF_le {N : Nat} {S : LS} {f : Fr} {t : Th} {h : Hd} {b : Option Nat} {S' : LS} (e : newF N S f t = some (h, b, S')) : Le S S' ∧ ∀ m, h.wsLe m := by
  unfold newF at e
  cases q : numF S.at_ N f t with
  | none => rw [q] at e; cases e
  | some v =>
    rw [q] at e
    cases e
    exact ⟨⟨by show _ ≤ (S.at_ ++ [v]).length; rw [List.length_append]; omega, Nat.le_refl _, Nat.le_refl _, id⟩, fun m => by unfold Hd.wsLe; exact Nat.zero_le _⟩
theorem handF_le {N : Nat} {S : LS} {f : Fr} {t : Th} {way : Str} {h : Hd} {b : Option Nat} {S' : LS} (e : handF N S f t way = some (h, b, S')) : Le S S' ∧ (f.wsLe S.many → h.wsLe S'.many) := by
  unfold handF at e
  by_cases c1 : way = "want"
  · rw [if_pos c1] at e
    cases e
    exact ⟨Le.refl, fun w => by unfold Hd.wsLe; exact w⟩
  rw [if_neg c1] at e
  by_cases c2 : way = "place" ∨ way = "back"
  · rw [if_pos c2] at e
    cases q : roadF S.at_ N f t with
    | none => rw [q] at e; cases e
    | some r =>
      rw [q] at e
      cases r with
      | none =>
        have := newF_le (show newF N (S.mix (mixR S.at_ S.lent N f t)) f t = some (h, b, S') from e)
        exact ⟨Le.mix.trans this.1, fun _ => this.2 _⟩
      | some pw =>
        obtain ⟨p, ws⟩ := pw
        have e' : (if way = "place" then some (Hd.road p (ws ++ [S.many + 1]), (none : Option Nat), (S.mix (mixR S.at_ S.lent N f t)).lend p ws) else (S.at_[p]?.map fun v => (Hd.road S.at_.length [], some p, { (S.mix (mixR S.at_ S.lent N f t)).lend p ws with at_ := S.at_ ++ [v] }))) = some (h, b, S') := e
        by_cases c3 : way = "place"
        · rw [if_pos c3] at e'
          cases e'
          refine ⟨Le.mix.trans (Le.lend (p := p) (ws := ws)), fun w => ?_⟩
          have hw := roadF_ws w q
          unfold Hd.wsLe
          rw [List.length_append, List.length_singleton]
          exact Nat.succ_le_succ hw
        · rw [if_neg c3] at e'
          cases q2 : S.at_[p]? with
          | none => rw [q2] at e'; cases e'
          | some v =>
            rw [q2] at e'
            cases e'
            refine ⟨(Le.mix.trans (Le.lend (p := p) (ws := ws))).trans ⟨by show S.at_.length ≤ (S.at_ ++ [v]).length; rw [List.length_append]; omega, Nat.le_refl _, Nat.le_refl _, id⟩, fun _ => ?_⟩
            unfold Hd.wsLe
            exact Nat.zero_le _
  · rw [if_neg c2] at e
    have := newF_le e
    exact ⟨this.1, fun _ => this.2 _⟩
theorem handsF_le {N : Nat} {f : Fr} : ∀ {ts : List Th} {S : LS} {ws : List Str} {hs : List (Hd × Option Nat)} {S' : LS}, handsF N f S ts ws = some (hs, S') → Le S S' ∧ (f.wsLe S.many → (Hds.of hs).wsLe S'.many)
  | [], S, ws, hs, S', e => by
    unfold handsF at e
    cases e
    exact ⟨Le.refl, fun _ => by unfold Hds.of Hds.wsLe; trivial⟩
  | t :: ts, S, [], hs, S', e => by unfold handsF at e; cases e
  | t :: ts, S, w :: ws, hs, S', e => by
    unfold handsF at e
    cases q : handF N S f t w with
    | none => rw [q] at e; cases e
    | some r =>
      obtain ⟨d, b, S1⟩ := r
      rw [q] at e
      have q1 := handF_le q
      have e2 : ((handsF N f S1 ts ws).map fun (r, S2) => ((d, b) :: r, S2)) = some (hs, S') := e
      cases q2 : handsF N f S1 ts ws with
      | none => rw [q2] at e2; cases e2
      | some r2 =>
        obtain ⟨hs2, S2⟩ := r2
        rw [q2] at e2
        cases e2
        have q3 := handsF_le q2
        refine ⟨q1.1.trans q3.1, fun h => ?_⟩
        unfold Hds.of Hds.wsLe
        exact ⟨(q1.2 h).mono q3.1.m, q3.2 (h.mono q1.1.m)⟩
theorem backsF_len : ∀ {hs : List (Hd × Option Nat)} {a a' : List Nat}, backsF a hs = some a' → a'.length = a.length
  | [], a, a', e => by unfold backsF at e; cases e; rfl
  | (d, none) :: r, a, a', e => by unfold backsF at e; exact backsF_len e
  | (.road q _, some p) :: r, a, a', e => by
    unfold backsF at e
    by_cases c : p < a.length
    · rw [if_pos c] at e
      cases g : a[q]? with
      | none => rw [g] at e; cases e
      | some v =>
        rw [g] at e
        have := backsF_len (show backsF (a.set p v) r = some a' from e)
        rw [this, List.length_set]
    · rw [if_neg c] at e
      cases e
  | (.want _ _, some _) :: r, a, a', e => by unfold backsF at e; cases e
theorem iter_le {g : LS → St → Option LS} (hg : ∀ S s S', g S s = some S' → Le S S') : ∀ {b : Sts} {S S' : LS}, iter g b S = some S' → Le S S'
  | .nil, S, S', e => by unfold iter at e; cases e; exact Le.refl
  | .cons s r, S, S', e => by
    unfold iter at e
    cases q : g S s with
    | none => rw [q] at e; cases e
    | some S1 =>
      rw [q] at e
      exact (hg S s S1 q).trans (iter_le hg (show iter g r S1 = some S' from e))
theorem Le.enter {S : LS} {n : Nat} : Le S (S.enter n) := ⟨by show _ ≤ (S.at_ ++ _).length; rw [List.length_append]; omega, Nat.le_refl _, Nat.le_refl _, id⟩
theorem stepF_le {P : List Wk} {W : List (List Str)} {N : Nat} : ∀ {n : Nat} {f : Fr} {S : LS} {st : St} {S' : LS}, stepF P W N n f S st = some S' → Le S S'
  | 0, f, S, st, S', e => by unfold stepF at e; cases e
  | n + 1, f, S, .say t, S', e => by
    unfold stepF at e
    cases q : numF S.at_ N f t with
    | none => rw [q] at e; cases e
    | some v =>
      rw [q] at e
      cases e
      exact ⟨Nat.le_refl _, by show _ ≤ (S.said ++ [v]).length; rw [List.length_append]; omega, Nat.le_refl _, id⟩
  | n + 1, f, S, .ite t a b, S', e => by
    unfold stepF at e
    cases q : numF S.at_ N f t with
    | none => rw [q] at e; cases e
    | some v =>
      rw [q] at e
      exact Le.mix.trans (iter_le (fun S s S' h => stepF_le h) (show iter (stepF P W N n f) (if v = 0 then b else a) (S.mix (mixN S.at_ S.lent N f t)) = some S' from e))
  | n + 1, f, S, .set p t, S', e => by
    unfold stepF at e
    cases q : numF S.at_ N f t with
    | none => rw [q] at e; cases e
    | some v =>
      rw [q] at e
      cases q2 : roadF S.at_ N f p with
      | none =>
        rw [q2] at e
        cases e
      | some r =>
        rw [q2] at e
        cases r with
        | none =>
          cases e
          exact Le.mix.trans Le.mix
        | some pw =>
          obtain ⟨x, ws⟩ := pw
          have e' : (if x < S.at_.length then some { ((S.mix (mixN S.at_ S.lent N f t)).mix (mixR S.at_ S.lent N f p)).mix (meet S.lent x ws) with at_ := S.at_.set x v } else none) = some S' := e
          by_cases c : x < S.at_.length
          · rw [if_pos c] at e'
            cases e'
            exact ⟨by show _ ≤ (S.at_.set x v).length; rw [List.length_set]; exact Nat.le_refl _, Nat.le_refl _, Nat.le_refl _, id⟩
          · rw [if_neg c] at e'
            cases e'
  | n + 1, f, S, .call w ts, S', e => by
    unfold stepF at e
    cases q : W[w]? with
    | none => rw [q] at e; cases e
    | some ws =>
    rw [q] at e
    have e1 : (if ws.length = ts.length then (handsF N f S ts ws).bind fun (hs, S1) => P[w]?.bind fun wk =>
      (iter (stepF P W N n (.mk (ownsOf S1 wk.owns) (Hds.of hs))) wk.body (S1.enter wk.owns)).bind fun S2 => (backsF S2.at_ hs).map fun a => { S2 with at_ := a, lent := S2.lent.take S.lent.length } else none) = some S' := e
    by_cases c : ws.length = ts.length
    · rw [if_pos c] at e1
      cases q2 : handsF N f S ts ws with
      | none => rw [q2] at e1; cases e1
      | some r =>
      obtain ⟨hs, S1⟩ := r
      rw [q2] at e1
      cases q3 : P[w]? with
      | none => rw [q3] at e1; cases e1
      | some wk =>
      rw [q3] at e1
      have e2 : ((iter (stepF P W N n (.mk (ownsOf S1 wk.owns) (Hds.of hs))) wk.body (S1.enter wk.owns)).bind fun S2 => (backsF S2.at_ hs).map fun a => { S2 with at_ := a, lent := S2.lent.take S.lent.length }) = some S' := e1
      cases q4 : iter (stepF P W N n (.mk (ownsOf S1 wk.owns) (Hds.of hs))) wk.body (S1.enter wk.owns) with
      | none => rw [q4] at e2; cases e2
      | some S2 =>
      rw [q4] at e2
      have e3 : ((backsF S2.at_ hs).map fun a => { S2 with at_ := a, lent := S2.lent.take S.lent.length }) = some S' := e2
      cases q5 : backsF S2.at_ hs with
      | none => rw [q5] at e3; cases e3
      | some a =>
      rw [q5] at e3
      cases e3
      have l2 := ((handsF_le q2).1.trans Le.enter).trans (iter_le (fun S s S' h => stepF_le h) q4)
      exact ⟨by show _ ≤ a.length; rw [backsF_len q5]; exact l2.a, l2.s, l2.m, fun h => by
        show (S2.lent.take S.lent.length).length ≤ S2.many
        rw [List.length_take]
        have := l2.m
        omega⟩
    · rw [if_neg c] at e1
      cases e1
end Hw
/-! Good programs run, and stay small. -/
namespace Hw
open PySem PySem.Spec PyProof.Rows L2
/-! a frame of a work of p params and o own cells, wants through fewer than d frames, places below L -/
mutual
def Fr.okv (L : Nat) : Nat → Nat → Nat → Fr → Prop
  | p, o, d, .mk os hs => os.length = o ∧ (∀ x ∈ os, x < L) ∧ hs.okv L p d
def Hd.okv (L : Nat) : Nat → Hd → Prop
  | _, .road q _ => q < L
  | d, .want t f => ∃ d' p o, d' < d ∧ t.ok p o 4 ∧ f.okv L p o d'
def Hds.okv (L : Nat) : Nat → Nat → Hds → Prop
  | p, _, .nil => p = 0
  | p, d, .cons h r => ∃ p', p = p' + 1 ∧ h.okv L d ∧ r.okv L p' d
end
mutual
theorem Fr.okv.mono {L L' : Nat} (l : L ≤ L') : ∀ {f : Fr} {p o d d' : Nat}, d ≤ d' → f.okv L p o d → f.okv L' p o d'
  | .mk os hs, p, o, d, d', h, g => by
    unfold Fr.okv at g ⊢
    exact ⟨g.1, fun x hx => Nat.lt_of_lt_of_le (g.2.1 x hx) l, Hds.okv.mono l h g.2.2⟩
theorem Hd.okv.mono {L L' : Nat} (l : L ≤ L') : ∀ {h : Hd} {d d' : Nat}, d ≤ d' → h.okv L d → h.okv L' d'
  | .road q _, d, d', h, g => by
    unfold Hd.okv at g ⊢
    exact Nat.lt_of_lt_of_le g l
  | .want t f, d, d', h, g => by
    unfold Hd.okv at g ⊢
    obtain ⟨e, p, o, h1, h2, h3⟩ := g
    exact ⟨e, p, o, Nat.lt_of_lt_of_le h1 h, h2, Fr.okv.mono l (Nat.le_refl _) h3⟩
theorem Hds.okv.mono {L L' : Nat} (l : L ≤ L') : ∀ {hs : Hds} {p d d' : Nat}, d ≤ d' → hs.okv L p d → hs.okv L' p d'
  | .nil, p, d, d', h, g => by
    unfold Hds.okv at g ⊢
    exact g
  | .cons a r, p, d, d', h, g => by
    unfold Hds.okv at g ⊢
    obtain ⟨p', h1, h2, h3⟩ := g
    exact ⟨p', h1, Hd.okv.mono l h h2, Hds.okv.mono l h h3⟩
end
theorem Hds.okv.get {L : Nat} : ∀ {hs : Hds} {p d i : Nat}, hs.okv L p d → i < p → ∃ h, hs.get i = some h ∧ h.okv L d
  | .nil, p, d, i, g, hi => by
    unfold Hds.okv at g
    omega
  | .cons a r, p, d, 0, g, hi => by
    unfold Hds.okv at g
    obtain ⟨p', h1, h2, h3⟩ := g
    exact ⟨a, rfl, h2⟩
  | .cons a r, p, d, i + 1, g, hi => by
    unfold Hds.okv at g
    obtain ⟨p', h1, h2, h3⟩ := g
    obtain ⟨h, e1, e2⟩ := Hds.okv.get (i := i) h3 (by omega)
    exact ⟨h, e1, e2⟩
structure AtOk (a : List Nat) : Prop where
  l : 3 ≤ a.length
  v : ∀ x ∈ a, x < 3
theorem AtOk.get {a : List Nat} (g : AtOk a) {i : Nat} (h : i < a.length) : ∃ v, a[i]? = some v ∧ v < 3 := ⟨a[i], List.getElem?_eq_getElem h, g.v _ (List.getElem_mem h)⟩
theorem AtOk.app {a : List Nat} (g : AtOk a) {v : Nat} (h : v < 3) : AtOk (a ++ [v]) := ⟨by rw [List.length_append]; have := g.l; omega, fun x hx => by
  rcases List.mem_append.mp hx with hx | hx
  · exact g.v x hx
  · cases List.mem_singleton.mp hx
    exact h⟩
theorem AtOk.set {a : List Nat} (g : AtOk a) {i v : Nat} (h : v < 3) : AtOk (a.set i v) := ⟨by rw [List.length_set]; exact g.l, fun x hx => by
  rcases List.mem_or_eq_of_mem_set hx with hx | hx
  · exact g.v x hx
  · rw [hx]; exact h⟩
theorem numF_ok {a : List Nat} (ga : AtOk a) : ∀ {N d e p o : Nat} {f : Fr} {t : Th}, f.okv a.length p o d → t.ok p o e → e ≤ 4 → 6 * d + e + 1 ≤ N → ∃ k, numF a N f t = some k ∧ k < 3
  | 0, d, e, p, o, f, t, _, _, _, h => by omega
  | N + 1, d, e, p, o, f, .num k, _, ht, _, _ => ⟨k, by unfold numF; rfl, by cases e <;> exact ht⟩
  | N + 1, d, 0, p, o, f, .sum x y, _, ht, _, _ => ht.elim
  | N + 1, d, e + 1, p, o, f, .sum x y, hf, ht, he, h => by
    obtain ⟨k1, e1, _⟩ := numF_ok ga (N := N) hf ht.1 (by omega) (by omega)
    obtain ⟨k2, e2, _⟩ := numF_ok ga (N := N) hf ht.2 (by omega) (by omega)
    refine ⟨(k1 + k2) % 3, ?_, Nat.mod_lt _ (by decide)⟩
    unfold numF
    rw [e1, e2]
    rfl
  | N + 1, d, 0, p, o, f, .cell x, _, ht, _, _ => ht.elim
  | N + 1, d, e + 1, p, o, f, .cell x, hf, ht, he, h => by
    obtain ⟨k1, e1, l1⟩ := numF_ok ga (N := N) (t := x) hf ht (by omega) (by omega)
    obtain ⟨v, e2, l2⟩ := ga.get (i := k1) (by have := ga.l; omega)
    refine ⟨v, ?_, l2⟩
    unfold numF
    rw [e1]
    exact e2
  | N + 1, d, e, p, o, .mk os hs, .own k, hf, ht, he, h => by
    unfold Fr.okv at hf
    have hk : k < o := by cases e <;> exact ht
    have hk' : k < os.length := by omega
    obtain ⟨v, e2, l2⟩ := ga.get (hf.2.1 _ (List.getElem_mem hk'))
    refine ⟨v, ?_, l2⟩
    unfold numF
    rw [List.getElem?_eq_getElem hk']
    exact e2
  | N + 1, d, e, p, o, .mk os hs, .par k, hf, ht, he, h => by
    unfold Fr.okv at hf
    have hk : k < p := by cases e <;> exact ht
    obtain ⟨g, eg, og⟩ := hf.2.2.get hk
    cases g with
    | road q ws =>
      unfold Hd.okv at og
      obtain ⟨v, e2, l2⟩ := ga.get og
      refine ⟨v, ?_, l2⟩
      unfold numF
      rw [eg]
      exact e2
    | want u f2 =>
      unfold Hd.okv at og
      obtain ⟨d', p', o', h1, h2, h3⟩ := og
      obtain ⟨v, e2, l2⟩ := numF_ok ga (N := N) h3 h2 (Nat.le_refl _) (by omega)
      refine ⟨v, ?_, l2⟩
      unfold numF
      rw [eg]
      exact e2
theorem roadF_ok {a : List Nat} (ga : AtOk a) : ∀ {N d e p o : Nat} {f : Fr} {t : Th}, f.okv a.length p o d → t.ok p o e → e ≤ 4 → 6 * d + e + 1 ≤ N → ∃ r, roadF a N f t = some r ∧ ∀ q ws, r = some (q, ws) → q < a.length
  | 0, d, e, p, o, f, t, _, _, _, h => by omega
  | N + 1, d, e, p, o, f, .num k, _, ht, _, _ => ⟨none, by unfold roadF; rfl, fun _ _ h => nomatch h⟩
  | N + 1, d, e, p, o, f, .sum x y, _, ht, _, _ => ⟨none, by unfold roadF; rfl, fun _ _ h => nomatch h⟩
  | N + 1, d, 0, p, o, f, .cell x, _, ht, _, _ => ht.elim
  | N + 1, d, e + 1, p, o, f, .cell x, hf, ht, he, h => by
    obtain ⟨k1, e1, l1⟩ := numF_ok ga (N := N) (t := x) hf ht (by omega) (by omega)
    refine ⟨some (k1, []), ?_, fun q ws h => ?_⟩
    · unfold roadF
      rw [e1]
      rfl
    · cases h
      have := ga.l
      omega
  | N + 1, d, e, p, o, .mk os hs, .own k, hf, ht, he, h => by
    unfold Fr.okv at hf
    have hk : k < o := by cases e <;> exact ht
    have hk' : k < os.length := by omega
    refine ⟨some (os[k], []), ?_, fun q ws h => ?_⟩
    · unfold roadF
      rw [List.getElem?_eq_getElem hk']
      rfl
    · cases h
      exact hf.2.1 _ (List.getElem_mem hk')
  | N + 1, d, e, p, o, .mk os hs, .par k, hf, ht, he, h => by
    unfold Fr.okv at hf
    have hk : k < p := by cases e <;> exact ht
    obtain ⟨g, eg, og⟩ := hf.2.2.get hk
    cases g with
    | road q ws =>
      unfold Hd.okv at og
      refine ⟨some (q, ws), ?_, fun q' ws' h => ?_⟩
      · unfold roadF
        rw [eg]
      · cases h
        exact og
    | want u f2 =>
      unfold Hd.okv at og
      obtain ⟨d', p', o', h1, h2, h3⟩ := og
      obtain ⟨r, e2, l2⟩ := roadF_ok ga (N := N) h3 h2 (Nat.le_refl _) (by omega)
      refine ⟨r, ?_, l2⟩
      unfold roadF
      rw [eg]
      exact e2
/-! ### handing -/
def LS.size (S : LS) : Nat := S.at_.length + S.said.length + S.many
structure HOk1 (S S' : LS) (d : Nat) (h : Hd) (b : Option Nat) : Prop where
  a : AtOk S'.at_
  l : S.at_.length ≤ S'.at_.length
  z : S'.size ≤ S.size + 2
  o : h.okv S'.at_.length d
  b : ∀ p, b = some p → p < S'.at_.length ∧ ∃ q ws, h = .road q ws ∧ q < S'.at_.length
theorem newF_ok {N d p o : Nat} {S : LS} {f : Fr} {t : Th} (ga : AtOk S.at_) (hf : f.okv S.at_.length p o d) (ht : t.ok p o 4) (hN : 6 * d + 5 ≤ N) : ∃ h b S', newF N S f t = some (h, b, S') ∧ HOk1 S S' (d + 1) h b := by
  obtain ⟨k, e, lk⟩ := numF_ok ga hf ht (Nat.le_refl _) (by omega : 6 * d + 4 + 1 ≤ N)
  refine ⟨.road S.at_.length [], none, _, by unfold newF; rw [e]; rfl, ⟨ga.app lk, ?_, ?_, ?_, fun _ h => nomatch h⟩⟩
  · show _ ≤ (S.at_ ++ [k]).length
    rw [List.length_append]
    omega
  · show (S.at_ ++ [k]).length + S.said.length + S.many ≤ S.at_.length + S.said.length + S.many + 2
    rw [List.length_append, List.length_singleton]
    omega
  · unfold Hd.okv
    show S.at_.length < (S.at_ ++ [k]).length
    rw [List.length_append, List.length_singleton]
    omega
theorem handF_ok {N d p o : Nat} {S : LS} {f : Fr} {t : Th} {way : Str} (ga : AtOk S.at_) (hf : f.okv S.at_.length p o d) (ht : t.ok p o 4) (hN : 6 * d + 5 ≤ N) : ∃ h b S', handF N S f t way = some (h, b, S') ∧ HOk1 S S' (d + 1) h b := by
  unfold handF
  by_cases c1 : way = "want"
  · rw [if_pos c1]
    refine ⟨_, _, _, rfl, ga, Nat.le_refl _, Nat.le_add_right _ _, ?_, fun _ h => nomatch h⟩
    unfold Hd.okv
    exact ⟨d, p, o, Nat.lt_succ_self _, ht, hf⟩
  rw [if_neg c1]
  by_cases c2 : way = "place" ∨ way = "back"
  · rw [if_pos c2]
    obtain ⟨r, er, hr⟩ := roadF_ok ga hf ht (Nat.le_refl _) (by omega : 6 * d + 4 + 1 ≤ N)
    rw [er]
    cases r with
    | none =>
      obtain ⟨h, b, S', e, o⟩ := newF_ok (S := S.mix (mixR S.at_ S.lent N f t)) ga hf ht hN
      exact ⟨h, b, S', e, o.a, o.l, o.z, o.o, o.b⟩
    | some pw =>
      obtain ⟨q, ws⟩ := pw
      have hq := hr q ws rfl
      by_cases c3 : way = "place"
      · refine ⟨.road q (ws ++ [S.many + 1]), none, (S.mix (mixR S.at_ S.lent N f t)).lend q ws, ?_, ga, Nat.le_refl _, ?_, ?_, fun _ h => nomatch h⟩
        · show (if way = "place" then _ else _) = _
          rw [if_pos c3]
        · show S.at_.length + S.said.length + (S.many + 1) ≤ S.at_.length + S.said.length + S.many + 2
          omega
        · unfold Hd.okv
          exact hq
      · obtain ⟨v, ev, lv⟩ := ga.get hq
        refine ⟨.road S.at_.length [], some q, { (S.mix (mixR S.at_ S.lent N f t)).lend q ws with at_ := S.at_ ++ [v] }, ?_, ga.app lv, ?_, ?_, ?_, fun p' h => ?_⟩
        · show (if way = "place" then _ else _) = _
          rw [if_neg c3, ev]
          rfl
        · show _ ≤ (S.at_ ++ [v]).length
          rw [List.length_append]
          omega
        · show (S.at_ ++ [v]).length + S.said.length + (S.many + 1) ≤ S.at_.length + S.said.length + S.many + 2
          rw [List.length_append, List.length_singleton]
          omega
        · unfold Hd.okv
          show S.at_.length < (S.at_ ++ [v]).length
          rw [List.length_append, List.length_singleton]
          omega
        · cases h
          show q < (S.at_ ++ [v]).length ∧ ∃ q2 ws2, Hd.road S.at_.length [] = .road q2 ws2 ∧ q2 < (S.at_ ++ [v]).length
          rw [List.length_append, List.length_singleton]
          exact ⟨by omega, _, _, rfl, by omega⟩
  · rw [if_neg c2]
    exact newF_ok ga hf ht hN
/-- several -/
def BOk (L : Nat) (hs : List (Hd × Option Nat)) : Prop := ∀ h p, (h, some p) ∈ hs → p < L ∧ ∃ q ws, h = Hd.road q ws ∧ q < L
theorem handsF_ok {N d p o : Nat} {f : Fr} (hN : 6 * d + 5 ≤ N) : ∀ {ts : List Th} {ws : List Str} {S : LS}, AtOk S.at_ → f.okv S.at_.length p o d → (∀ t ∈ ts, t.ok p o 4) → ws.length = ts.length →
    ∃ hs S', handsF N f S ts ws = some (hs, S') ∧ AtOk S'.at_ ∧ S.at_.length ≤ S'.at_.length ∧ S'.size ≤ S.size + 2 * ts.length ∧ (Hds.of hs).okv S'.at_.length ts.length (d + 1) ∧ BOk S'.at_.length hs
  | [], ws, S, ga, hf, ht, hl => ⟨[], S, by unfold handsF; rfl, ga, Nat.le_refl _, Nat.le_refl _, by unfold Hds.of Hds.okv; rfl, fun h p hm => by cases hm⟩
  | t :: ts, [], S, ga, hf, ht, hl => by cases hl
  | t :: ts, w :: ws, S, ga, hf, ht, hl => by
    obtain ⟨h, b, S1, e1, ⟨a1, l1, z1, o1, b1⟩⟩ := handF_ok (way := w) ga hf (ht t (List.mem_cons_self)) hN
    obtain ⟨hs, S2, e2, a2, l2, z2, o2, b2⟩ := handsF_ok hN (ts := ts) (ws := ws) (S := S1) a1 (hf.mono l1 (Nat.le_refl _)) (fun u hu => ht u (List.mem_cons_of_mem _ hu)) (by simpa using hl)
    refine ⟨(h, b) :: hs, S2, ?_, a2, Nat.le_trans l1 l2, ?_, ?_, fun h' p' hm => ?_⟩
    · unfold handsF
      rw [e1]
      show ((handsF N f S1 ts ws).map fun (r, S2) => ((h, b) :: r, S2)) = _
      rw [e2]
      rfl
    · rw [List.length_cons]
      omega
    · unfold Hds.of Hds.okv
      exact ⟨ts.length, rfl, o1.mono l2 (Nat.le_refl _), o2⟩
    · rcases List.mem_cons.mp hm with hm | hm
      · cases hm
        obtain ⟨q1, q, ws', q2, q3⟩ := b1 p' rfl
        exact ⟨by omega, q, ws', q2, by omega⟩
      · exact b2 h' p' hm
theorem backsF_ok : ∀ {hs : List (Hd × Option Nat)} {a : List Nat}, AtOk a → BOk a.length hs → ∃ a', backsF a hs = some a' ∧ AtOk a' ∧ a'.length = a.length
  | [], a, g, _ => ⟨a, by unfold backsF; rfl, g, rfl⟩
  | (h, none) :: r, a, g, b => by
    obtain ⟨a', e, g', l⟩ := backsF_ok (hs := r) g fun h' p hm => b h' p (List.mem_cons_of_mem _ hm)
    exact ⟨a', by unfold backsF; exact e, g', l⟩
  | (h, some p) :: r, a, g, b => by
    obtain ⟨hp, q, ws, rfl, hq⟩ := b h p List.mem_cons_self
    obtain ⟨v, ev, lv⟩ := g.get hq
    obtain ⟨a', e, g', l⟩ := backsF_ok (hs := r) (a := a.set p v) (g.set lv) fun h' p' hm => by
      rw [List.length_set]
      exact b h' p' (List.mem_cons_of_mem _ hm)
    refine ⟨a', ?_, g', by rw [l, List.length_set]⟩
    unfold backsF
    rw [if_pos hp, ev]
    exact e
/-! ### steps -/
def grow : Nat → Nat
  | 0 => 0
  | j + 1 => 80 + 4 * (6 + grow j)
theorem grow_mono : ∀ {i j : Nat}, i ≤ j → grow i ≤ grow j
  | 0, j, _ => Nat.zero_le _
  | i + 1, 0, h => by omega
  | i + 1, j + 1, h => by
    unfold grow
    have := grow_mono (i := i) (j := j) (by omega)
    omega
structure SOk (S S' : LS) (z : Nat) : Prop where
  a : AtOk S'.at_
  l : S.at_.length ≤ S'.at_.length
  z : S'.size ≤ S.size + z
theorem iter_ok {sh : List (Nat × Nat)} {i e c : Nat} {g : LS → St → Option LS} {p o d : Nat} {f : Fr}
    (hg : ∀ (S : LS) (st : St), AtOk S.at_ → f.okv S.at_.length p o d → St.ok sh i e st → ∃ S', g S st = some S' ∧ SOk S S' (st.many + st.calls * c)) :
    ∀ {b : Sts} {S : LS}, AtOk S.at_ → f.okv S.at_.length p o d → Sts.ok sh i e b → ∃ S', iter g b S = some S' ∧ SOk S S' (b.many + b.calls * c)
  | .nil, S, ga, hf, _ => ⟨S, by unfold iter; rfl, ga, Nat.le_refl _, Nat.le_add_right _ _⟩
  | .cons s r, S, ga, hf, hb => by
    unfold Sts.ok at hb
    obtain ⟨S1, e1, o1⟩ := hg S s ga hf hb.1
    obtain ⟨S2, e2, o2⟩ := iter_ok hg (b := r) o1.a (hf.mono o1.l (Nat.le_refl _)) hb.2
    refine ⟨S2, by unfold iter; rw [e1]; exact e2, o2.a, Nat.le_trans o1.l o2.l, ?_⟩
    have h1 := o1.z
    have h2 := o2.z
    have hm : (Sts.cons s r).many = s.many + r.many := rfl
    have hc : (Sts.cons s r).calls = s.calls + r.calls := rfl
    rw [hm, hc, Nat.add_mul]
    omega
theorem stepF_ok {P : List Wk} {W : List (List Str)} {N steps : Nat} (gp : Good P steps) (hs : steps ≤ 70) (hW : ∀ (i : Nat) (w : Wk), P[i]? = some w → ∃ ws, W[i]? = some ws ∧ ws.length = w.params) (hN : 30 ≤ N) :
    ∀ {n i e d : Nat} {f : Fr} {S : LS} {st : St}, i < P.length → d ≤ i → AtOk S.at_ → f.okv S.at_.length ((shapes P).getD i (0, 0)).1 ((shapes P).getD i (0, 0)).2 d → St.ok (shapes P) i e st → e + 1 + 4 * (P.length - 1 - i) ≤ n →
      ∃ S', stepF P W N n f S st = some S' ∧ SOk S S' (st.many + st.calls * (6 + grow (P.length - 1 - i)))
  | 0, i, e, d, f, S, st, _, _, _, _, _, h => by omega
  | n + 1, i, e, d, f, S, .say t, hi, hd, ga, hf, ht, h => by
    have ht' : t.ok ((shapes P).getD i (0, 0)).1 ((shapes P).getD i (0, 0)).2 4 := by cases e <;> (unfold St.ok at ht; exact ht)
    have := gp.few
    obtain ⟨k, ek, lk⟩ := numF_ok ga hf ht' (Nat.le_refl _) (by omega : 6 * d + 4 + 1 ≤ N)
    refine ⟨{ S.mix (mixN S.at_ S.lent N f t) with said := S.said ++ [k] }, by unfold stepF; rw [ek]; rfl, ga, Nat.le_refl _, ?_⟩
    show S.at_.length + (S.said ++ [k]).length + S.many ≤ S.at_.length + S.said.length + S.many + _
    have hm : (St.say t).many = 1 := rfl
    rw [List.length_append, List.length_singleton, hm]
    omega
  | n + 1, i, e, d, f, S, .set q t, hi, hd, ga, hf, ht, h => by
    have ht' : q.isPlace = true ∧ q.ok ((shapes P).getD i (0, 0)).1 ((shapes P).getD i (0, 0)).2 4 ∧ t.ok ((shapes P).getD i (0, 0)).1 ((shapes P).getD i (0, 0)).2 4 := by cases e <;> (unfold St.ok at ht; exact ht)
    have := gp.few
    obtain ⟨k, ek, lk⟩ := numF_ok ga hf ht'.2.2 (Nat.le_refl _) (by omega : 6 * d + 4 + 1 ≤ N)
    obtain ⟨r, er, hr⟩ := roadF_ok ga hf ht'.2.1 (Nat.le_refl _) (by omega : 6 * d + 4 + 1 ≤ N)
    cases r with
    | none => exact ⟨(S.mix (mixN S.at_ S.lent N f t)).mix (mixR S.at_ S.lent N f q), by unfold stepF; rw [ek, er]; rfl, ga, Nat.le_refl _, Nat.le_add_right _ _⟩
    | some pw =>
      obtain ⟨x, ws⟩ := pw
      have hx := hr x ws rfl
      refine ⟨{ ((S.mix (mixN S.at_ S.lent N f t)).mix (mixR S.at_ S.lent N f q)).mix (meet S.lent x ws) with at_ := S.at_.set x k }, ?_, ga.set lk, ?_, ?_⟩
      · unfold stepF
        rw [ek, er]
        show (if x < S.at_.length then _ else _) = _
        rw [if_pos hx]
      · show _ ≤ (S.at_.set x k).length
        rw [List.length_set]
        exact Nat.le_refl _
      · show (S.at_.set x k).length + S.said.length + S.many ≤ S.at_.length + S.said.length + S.many + _
        rw [List.length_set]
        omega
  | n + 1, i, 0, d, f, S, .ite t a b, hi, hd, ga, hf, ht, h => by unfold St.ok at ht; exact ht.elim
  | n + 1, i, e + 1, d, f, S, .ite t a b, hi, hd, ga, hf, ht, h => by
    unfold St.ok at ht
    have := gp.few
    obtain ⟨k, ek, lk⟩ := numF_ok ga hf ht.1 (Nat.le_refl _) (by omega : 6 * d + 4 + 1 ≤ N)
    have hb : Sts.ok (shapes P) i e (if k = 0 then b else a) := by
      by_cases c : k = 0
      · rw [if_pos c]; exact ht.2.2
      · rw [if_neg c]; exact ht.2.1
    obtain ⟨S', e1, o1⟩ := iter_ok (sh := shapes P) (i := i) (e := e) (c := 6 + grow (P.length - 1 - i)) (g := stepF P W N n f) (f := f) (fun S st ga' hf' hst => stepF_ok gp hs hW hN hi hd ga' hf' hst (by omega)) (b := if k = 0 then b else a) (S := S.mix (mixN S.at_ S.lent N f t)) ga hf hb
    refine ⟨S', by unfold stepF; rw [ek]; exact e1, o1.a, o1.l, Nat.le_trans o1.z ?_⟩
    show S.size + _ ≤ S.size + _
    have hm : (St.ite t a b).many = 1 + a.many + b.many := rfl
    have hc : (St.ite t a b).calls = a.calls + b.calls := rfl
    rw [hm, hc, Nat.add_mul]
    by_cases c : k = 0
    · rw [if_pos c]; omega
    · rw [if_neg c]; omega
  | n + 1, i, e, d, f, S, .call w ts, hi, hd, ga, hf, ht, h => by
    have ht' : i < w ∧ w < (shapes P).length ∧ ts.length = ((shapes P).getD w (0, 0)).1 ∧ ∀ t ∈ ts, t.ok ((shapes P).getD i (0, 0)).1 ((shapes P).getD i (0, 0)).2 4 := by cases e <;> (unfold St.ok at ht; exact ht)
    obtain ⟨h1, h2, h3, h4⟩ := ht'
    have few := gp.few
    have hl : (shapes P).length = P.length := List.length_map _
    have hw : w < P.length := by omega
    have ew : P[w]? = some P[w] := List.getElem?_eq_getElem hw
    have esh : (shapes P).getD w (0, 0) = (P[w].params, P[w].owns) := by
      rw [List.getD_eq_getElem?_getD]
      unfold shapes
      rw [List.getElem?_map, ew]
      rfl
    obtain ⟨ws, eW, lW⟩ := hW w _ ew
    have lts : ts.length = P[w].params := by rw [h3, esh]
    have p3 := gp.params _ (List.getElem_mem hw)
    have o10 := gp.owns _ (List.getElem_mem hw)
    obtain ⟨hs', S1, e1, a1, l1, z1, o1, b1⟩ := handsF_ok (N := N) (d := d) (f := f) (by omega) (ts := ts) (ws := ws) ga hf h4 (by omega)
    have aE : AtOk (S1.enter P[w].owns).at_ := ⟨by show 3 ≤ (S1.at_ ++ _).length; rw [List.length_append]; have := a1.l; omega, fun x hx => by
      rcases List.mem_append.mp hx with hx | hx
      · exact a1.v x hx
      · have := (List.mem_replicate.mp hx).2
        omega⟩
    have lE : (S1.enter P[w].owns).at_.length = S1.at_.length + P[w].owns := by
      show (S1.at_ ++ List.replicate _ 0).length = _
      rw [List.length_append, List.length_replicate]
    have fE : (Fr.mk (ownsOf S1 P[w].owns) (Hds.of hs')).okv (S1.enter P[w].owns).at_.length ((shapes P).getD w (0, 0)).1 ((shapes P).getD w (0, 0)).2 (d + 1) := by
      unfold Fr.okv
      rw [esh, lE]
      refine ⟨by unfold ownsOf; rw [List.length_range'], fun x hx => ?_, ?_⟩
      · unfold ownsOf at hx
        have := (List.mem_range'_1.mp hx).2
        omega
      · rw [← lts]
        exact o1.mono (by omega) (Nat.le_refl _)
    have bok := gp.body w _ ew
    obtain ⟨S2, e2, o2⟩ := iter_ok (sh := shapes P) (i := w) (e := 2) (c := 6 + grow (P.length - 1 - w)) (g := stepF P W N n (.mk (ownsOf S1 P[w].owns) (Hds.of hs'))) (fun S st ga' hf' hst => stepF_ok gp hs hW hN hw (by omega) ga' hf' hst (by omega)) (b := P[w].body) aE fE bok
    obtain ⟨a', e3, a3, l3⟩ := backsF_ok (hs := hs') (a := S2.at_) o2.a fun h' p' hm => by
      obtain ⟨q1, q, ws', q2, q3⟩ := b1 h' p' hm
      have := o2.l
      rw [lE] at this
      exact ⟨by omega, q, ws', q2, by omega⟩
    refine ⟨{ S2 with at_ := a', lent := S2.lent.take S.lent.length }, ?_, a3, ?_, ?_⟩
    · unfold stepF
      rw [eW]
      show (if ws.length = ts.length then _ else _) = _
      rw [if_pos (by omega), e1]
      show (P[w]?.bind _) = _
      rw [ew]
      show ((iter (stepF P W N n (.mk (ownsOf S1 P[w].owns) (Hds.of hs'))) P[w].body (S1.enter P[w].owns)).bind _) = _
      rw [e2]
      show ((backsF S2.at_ hs').map _) = _
      rw [e3]
      rfl
    · show _ ≤ a'.length
      have := o2.l
      rw [lE] at this
      omega
    · show a'.length + S2.said.length + S2.many ≤ S.size + _
      have z2 := o2.z
      have hsz : S2.size = S2.at_.length + S2.said.length + S2.many := rfl
      have hse : (S1.enter P[w].owns).size = S1.size + P[w].owns := by
        show (S1.enter P[w].owns).at_.length + S1.said.length + S1.many = S1.at_.length + S1.said.length + S1.many + _
        rw [lE]
        omega
      have hm : (St.call w ts).many = 1 := rfl
      have hc : (St.call w ts).calls = 1 := rfl
      have mb := gp.many _ (List.getElem_mem hw)
      have cb := gp.calls _ (List.getElem_mem hw)
      have hcb : P[w].body.calls * (6 + grow (P.length - 1 - w)) ≤ 4 * (6 + grow (P.length - 1 - w)) := Nat.mul_le_mul_right _ cb
      have hg : grow (P.length - 1 - w + 1) ≤ grow (P.length - 1 - i) := grow_mono (by omega)
      have hgd : grow (P.length - 1 - w + 1) = 80 + 4 * (6 + grow (P.length - 1 - w)) := rfl
      rw [hm, hc]
      omega
theorem ranF_ok {P : List Wk} {W : List (List Str)} {steps : Nat} (gp : Good P steps) (hs : steps ≤ 70) (hW : ∀ (i : Nat) (w : Wk), P[i]? = some w → ∃ ws, W[i]? = some ws ∧ ws.length = w.params) {cells : List Nat} (hc : cells.length = 3) (hv : ∀ x ∈ cells, x < 3) :
    ∃ S, ranF P W 30 15 cells = some S ∧ S.at_.length ≤ 90000 ∧ S.said.length ≤ 90000 ∧ S.many ≤ 90000 ∧ AtOk S.at_ := by
  have one := gp.one
  have few := gp.few
  have e0 : P[0]? = some P[0] := List.getElem?_eq_getElem (by omega)
  have f0 := gp.first _ e0
  have o10 := gp.owns _ (List.getElem_mem (by omega : 0 < P.length))
  have esh : (shapes P).getD 0 (0, 0) = (P[0].params, P[0].owns) := by
    rw [List.getD_eq_getElem?_getD]
    unfold shapes
    rw [List.getElem?_map, e0]
    rfl
  have lE : ((⟨cells, [], [], 0, false⟩ : LS).enter P[0].owns).at_.length = 3 + P[0].owns := by
    show (cells ++ List.replicate _ 0).length = _
    rw [List.length_append, List.length_replicate, hc]
  have aE : AtOk ((⟨cells, [], [], 0, false⟩ : LS).enter P[0].owns).at_ := ⟨by omega, fun x hx => by
    rcases List.mem_append.mp hx with hx | hx
    · exact hv x hx
    · have := (List.mem_replicate.mp hx).2
      omega⟩
  have fE : (Fr.mk (ownsOf ⟨cells, [], [], 0, false⟩ P[0].owns) .nil).okv ((⟨cells, [], [], 0, false⟩ : LS).enter P[0].owns).at_.length ((shapes P).getD 0 (0, 0)).1 ((shapes P).getD 0 (0, 0)).2 0 := by
    unfold Fr.okv
    rw [esh, lE]
    refine ⟨by unfold ownsOf; rw [List.length_range'], fun x hx => ?_, by unfold Hds.okv; exact f0⟩
    unfold ownsOf at hx
    have := (List.mem_range'_1.mp hx).2
    have e : (⟨cells, [], [], 0, false⟩ : LS).at_.length = 3 := hc
    omega
  obtain ⟨S2, e2, o2⟩ := iter_ok (sh := shapes P) (i := 0) (e := 2) (c := 6 + grow (P.length - 1 - 0)) (g := stepF P W 30 15 (.mk (ownsOf ⟨cells, [], [], 0, false⟩ P[0].owns) .nil)) (fun S st ga' hf' hst => stepF_ok gp hs hW (Nat.le_refl _) (by omega) (Nat.le_refl _) ga' hf' hst (by omega)) (b := P[0].body) aE fE (gp.body 0 _ e0)
  have mb := gp.many _ (List.getElem_mem (by omega : 0 < P.length))
  have cb := gp.calls _ (List.getElem_mem (by omega : 0 < P.length))
  have hcb : P[0].body.calls * (6 + grow (P.length - 1 - 0)) ≤ 4 * (6 + grow (P.length - 1 - 0)) := Nat.mul_le_mul_right _ cb
  have hg : grow (P.length - 1 - 0) ≤ grow 3 := grow_mono (by omega)
  have h3 : grow 3 = 2184 := by decide
  have z2 := o2.z
  have hse : ((⟨cells, [], [], 0, false⟩ : LS).enter P[0].owns).size = 3 + P[0].owns := by
    show ((⟨cells, [], [], 0, false⟩ : LS).enter P[0].owns).at_.length + 0 + 0 = _
    rw [lE]
    rfl
  have hsz : S2.size = S2.at_.length + S2.said.length + S2.many := rfl
  exact ⟨S2, by unfold ranF doesF; rw [e0]; exact e2, by omega, by omega, by omega, o2.a⟩
end Hw
/-! The runs, in Lean, more: roads and numbers, what is lent, numbers below 3. -/
namespace Hw
open PySem PySem.Spec PyProof.Rows L2
/-- what a place is lent by -/
def lentOf (lent : List (Nat × Nat)) (p : Nat) : List Nat := lent.filterMap fun q => if q.1 = p then some q.2 else none
theorem lentOf_app {a b : List (Nat × Nat)} {p : Nat} : lentOf (a ++ b) p = lentOf a p ++ lentOf b p := List.filterMap_append
theorem meet_lentOf {lent : List (Nat × Nat)} {p : Nat} {ws : List Nat} : meet lent p ws = (lentOf lent p).any fun q => !decide (q ∈ ws) := by
  induction lent with
  | nil => rfl
  | cons q r ih =>
    have e : meet (q :: r) p ws = ((decide (q.1 = p) && !decide (q.2 ∈ ws)) || meet r p ws) := rfl
    rw [e, ih]
    unfold lentOf
    rw [List.filterMap_cons]
    by_cases c : q.1 = p
    · rw [if_pos c, decide_eq_true c, Bool.true_and]
      rfl
    · rw [if_neg c, decide_eq_false c, Bool.false_and, Bool.false_or]
/-- the number of a place that was found -/
theorem numF_road {at_ : List Nat} : ∀ {n : Nat} {f : Fr} {t : Th} {p : Nat} {ws : List Nat}, roadF at_ n f t = some (some (p, ws)) → numF at_ n f t = at_[p]?
  | 0, f, t, p, ws, e => by unfold roadF at e; cases e
  | n + 1, f, .num _, p, ws, e => by unfold roadF at e; cases e
  | n + 1, f, .sum _ _, p, ws, e => by unfold roadF at e; cases e
  | n + 1, f, .cell u, p, ws, e => by
    unfold roadF at e
    unfold numF
    cases q : numF at_ n f u with
    | none => rw [q] at e; cases e
    | some x => rw [q] at e; cases e; rfl
  | n + 1, .mk os hs, .own k, p, ws, e => by
    unfold roadF at e
    unfold numF
    cases q : os[k]? with
    | none => rw [q] at e; cases e
    | some x => rw [q] at e; cases e; rfl
  | n + 1, .mk os hs, .par k, p, ws, e => by
    unfold roadF at e
    unfold numF
    cases q : hs.get k with
    | none => rw [q] at e; cases e
    | some d =>
      rw [q] at e
      cases d with
      | road p2 ws2 => cases e; rfl
      | want u f2 => exact numF_road e
/-- what is met where the number of a place is asked -/
theorem mixN_road {at_ : List Nat} {lent : List (Nat × Nat)} : ∀ {n : Nat} {f : Fr} {t : Th} {p : Nat} {ws : List Nat}, roadF at_ n f t = some (some (p, ws)) → mixN at_ lent n f t = (mixR at_ lent n f t || meet lent p ws)
  | 0, f, t, p, ws, e => by unfold roadF at e; cases e
  | n + 1, f, .num _, p, ws, e => by unfold roadF at e; cases e
  | n + 1, f, .sum _ _, p, ws, e => by unfold roadF at e; cases e
  | n + 1, f, .cell u, p, ws, e => by
    unfold roadF at e
    unfold mixN mixR
    cases q : numF at_ n f u with
    | none => rw [q] at e; cases e
    | some x => rw [q] at e; cases e; rfl
  | n + 1, .mk os hs, .own k, p, ws, e => by
    unfold roadF at e
    unfold mixN mixR
    cases q : os[k]? with
    | none => rw [q] at e; cases e
    | some x =>
      rw [q] at e
      cases e
      rw [List.getD_eq_getElem?_getD, q, Bool.false_or]
      rfl
  | n + 1, .mk os hs, .par k, p, ws, e => by
    unfold roadF at e
    unfold mixN mixR
    cases q : hs.get k with
    | none => rw [q] at e; cases e
    | some d =>
      rw [q] at e
      cases d with
      | road p2 ws2 => cases e; rfl
      | want u f2 => exact mixN_road e
/-! numbers below 3 -/
def Th.lit : Th → Prop
  | .num k => k < 3
  | .sum a b => a.lit ∧ b.lit
  | .cell t => t.lit
  | .own _ => True
  | .par _ => True
mutual
def Fr.lit : Fr → Prop
  | .mk _ hs => hs.lit
def Hd.lit : Hd → Prop
  | .road _ _ => True
  | .want t f => t.lit ∧ f.lit
def Hds.lit : Hds → Prop
  | .nil => True
  | .cons h r => h.lit ∧ r.lit
end
theorem Hds.lit.get : ∀ {hs : Hds} {i : Nat} {d : Hd}, hs.lit → hs.get i = some d → d.lit
  | .nil, _, _, _, e => by unfold Hds.get at e; cases e
  | .cons d r, 0, d', h, e => by
    unfold Hds.lit at h
    unfold Hds.get at e
    cases e
    exact h.1
  | .cons d r, i + 1, d', h, e => by
    unfold Hds.lit at h
    unfold Hds.get at e
    exact Hds.lit.get h.2 e
def Low (a : List Nat) : Prop := ∀ x ∈ a, x < 3
theorem Low.get {a : List Nat} {i x : Nat} (l : Low a) (e : a[i]? = some x) : x < 3 := l x (List.mem_of_getElem? e)
theorem Low.app {a b : List Nat} (l : Low a) (k : Low b) : Low (a ++ b) := fun x hx => (List.mem_append.mp hx).elim (l x) (k x)
theorem Low.one {v : Nat} (h : v < 3) : Low [v] := fun x hx => by cases List.mem_singleton.mp hx; exact h
theorem Low.set {a : List Nat} {i v : Nat} (l : Low a) (h : v < 3) : Low (a.set i v) := fun x hx => by
  rcases List.mem_or_eq_of_mem_set hx with hx | hx
  · exact l x hx
  · rw [hx]; exact h
theorem numF_low {at_ : List Nat} (la : Low at_) : ∀ {n : Nat} {f : Fr} {t : Th} {x : Nat}, f.lit → t.lit → numF at_ n f t = some x → x < 3
  | 0, f, t, x, _, _, e => by unfold numF at e; cases e
  | n + 1, f, .num k, x, _, ht, e => by
    unfold numF at e
    cases e
    unfold Th.lit at ht
    exact ht
  | n + 1, f, .sum a b, x, hf, ht, e => by
    unfold numF at e
    cases q : numF at_ n f a with
    | none => rw [q] at e; cases e
    | some u =>
      rw [q] at e
      have e2 : ((numF at_ n f b).bind fun y => some ((u + y) % 3)) = some x := e
      cases q2 : numF at_ n f b with
      | none => rw [q2] at e2; cases e2
      | some v =>
        rw [q2] at e2
        cases e2
        omega
  | n + 1, f, .cell u, x, hf, ht, e => by
    unfold numF at e
    cases q : numF at_ n f u with
    | none => rw [q] at e; cases e
    | some y => rw [q] at e; exact la.get (show at_[y]? = some x from e)
  | n + 1, .mk os hs, .own k, x, hf, ht, e => by
    unfold numF at e
    cases q : os[k]? with
    | none => rw [q] at e; cases e
    | some y => rw [q] at e; exact la.get (show at_[y]? = some x from e)
  | n + 1, .mk os hs, .par k, x, hf, ht, e => by
    unfold numF at e
    unfold Fr.lit at hf
    cases q : hs.get k with
    | none => rw [q] at e; cases e
    | some d =>
      have hd := hf.get q
      rw [q] at e
      cases d with
      | road p2 ws2 => exact la.get (show at_[p2]? = some x from e)
      | want u f2 =>
        unfold Hd.lit at hd
        exact numF_low la hd.2 hd.1 e
theorem handF_low {N : Nat} {S : LS} {f : Fr} {t : Th} {way : Str} {h : Hd} {b : Option Nat} {S' : LS} (la : Low S.at_) (hf : f.lit) (ht : t.lit) (e : handF N S f t way = some (h, b, S')) : Low S'.at_ ∧ h.lit := by
  have new : ∀ (T : LS) (h : Hd) (b : Option Nat) (S' : LS), T.at_ = S.at_ → newF N T f t = some (h, b, S') → Low S'.at_ ∧ h.lit := fun T h b S' eT e => by
    unfold newF at e
    rw [eT] at e
    cases q : numF S.at_ N f t with
    | none => rw [q] at e; cases e
    | some v =>
      rw [q] at e
      cases e
      refine ⟨?_, by unfold Hd.lit; trivial⟩
      exact Low.app la (Low.one (numF_low la hf ht q))
  unfold handF at e
  by_cases c1 : way = "want"
  · rw [if_pos c1] at e
    cases e
    exact ⟨la, by unfold Hd.lit; exact ⟨ht, hf⟩⟩
  rw [if_neg c1] at e
  by_cases c2 : way = "place" ∨ way = "back"
  · rw [if_pos c2] at e
    cases q : roadF S.at_ N f t with
    | none => rw [q] at e; cases e
    | some r =>
      rw [q] at e
      cases r with
      | none => exact new (S.mix (mixR S.at_ S.lent N f t)) h b S' rfl e
      | some pw =>
        obtain ⟨p, ws⟩ := pw
        have e' : (if way = "place" then some (Hd.road p (ws ++ [S.many + 1]), (none : Option Nat), (S.mix (mixR S.at_ S.lent N f t)).lend p ws) else (S.at_[p]?.map fun v => (Hd.road S.at_.length [], some p, { (S.mix (mixR S.at_ S.lent N f t)).lend p ws with at_ := S.at_ ++ [v] }))) = some (h, b, S') := e
        by_cases c3 : way = "place"
        · rw [if_pos c3] at e'
          cases e'
          exact ⟨la, by unfold Hd.lit; trivial⟩
        · rw [if_neg c3] at e'
          cases q2 : S.at_[p]? with
          | none => rw [q2] at e'; cases e'
          | some v =>
            rw [q2] at e'
            cases e'
            exact ⟨Low.app la (Low.one (la.get q2)), by unfold Hd.lit; trivial⟩
  · rw [if_neg c2] at e
    exact new S h b S' rfl e
/-! what is lent at the end is what was lent at first -/
theorem iter_lent {g : LS → St → Option LS} (hg : ∀ S s S', g S s = some S' → S'.lent = S.lent) : ∀ {b : Sts} {S S' : LS}, iter g b S = some S' → S'.lent = S.lent
  | .nil, S, S', e => by unfold iter at e; cases e; rfl
  | .cons s r, S, S', e => by
    unfold iter at e
    cases q : g S s with
    | none => rw [q] at e; cases e
    | some S1 =>
      rw [q] at e
      exact (iter_lent hg (show iter g r S1 = some S' from e)).trans (hg S s S1 q)
/-- the place that is lent where a thing is handed -/
def lentP (N : Nat) (S : LS) (f : Fr) (t : Th) (way : Str) : Option Nat :=
  if way = "want" then none else if way = "place" ∨ way = "back" then (match roadF S.at_ N f t with | some (some (p, _)) => some p | _ => none) else none
def lentB (m : Nat) : Option Nat → List (Nat × Nat)
  | none => []
  | some p => [(p, m + 1)]
def lentM (m : Nat) : Option Nat → Nat
  | none => m
  | some _ => m + 1
theorem handF_lent {N : Nat} {S : LS} {f : Fr} {t : Th} {way : Str} {h : Hd} {b : Option Nat} {S' : LS} (e : handF N S f t way = some (h, b, S')) : S'.lent = S.lent ++ lentB S.many (lentP N S f t way) ∧ S'.many = lentM S.many (lentP N S f t way) ∧ (b = if way = "back" then lentP N S f t way else none) := by
  have new : ∀ (T : LS) (h : Hd) (b : Option Nat) (S' : LS), T.lent = S.lent → T.many = S.many → newF N T f t = some (h, b, S') → S'.lent = S.lent ∧ S'.many = S.many ∧ b = none := fun T h b S' e1 e2 e => by
    unfold newF at e
    cases q : numF T.at_ N f t with
    | none => rw [q] at e; cases e
    | some v => rw [q] at e; cases e; exact ⟨e1, e2, rfl⟩
  unfold handF at e
  unfold lentP
  by_cases c1 : way = "want"
  · rw [if_pos c1] at e
    rw [if_pos c1]
    cases e
    rw [if_neg (by rw [c1]; decide +kernel)]
    exact ⟨(List.append_nil _).symm, rfl, rfl⟩
  rw [if_neg c1] at e
  rw [if_neg c1]
  by_cases c2 : way = "place" ∨ way = "back"
  · rw [if_pos c2] at e
    rw [if_pos c2]
    cases q : roadF S.at_ N f t with
    | none => rw [q] at e; cases e
    | some r =>
      rw [q] at e
      cases r with
      | none =>
        obtain ⟨h1, h2, h3⟩ := new (S.mix (mixR S.at_ S.lent N f t)) h b S' rfl rfl e
        refine ⟨by rw [h1]; exact (List.append_nil _).symm, h2, ?_⟩
        rw [h3]
        split <;> rfl
      | some pw =>
        obtain ⟨p, ws⟩ := pw
        have e' : (if way = "place" then some (Hd.road p (ws ++ [S.many + 1]), (none : Option Nat), (S.mix (mixR S.at_ S.lent N f t)).lend p ws) else (S.at_[p]?.map fun v => (Hd.road S.at_.length [], some p, { (S.mix (mixR S.at_ S.lent N f t)).lend p ws with at_ := S.at_ ++ [v] }))) = some (h, b, S') := e
        by_cases c3 : way = "place"
        · rw [if_pos c3] at e'
          cases e'
          rw [if_neg (by rw [c3]; decide +kernel)]
          exact ⟨rfl, rfl, rfl⟩
        · rw [if_neg c3] at e'
          have c4 : way = "back" := c2.resolve_left c3
          cases q2 : S.at_[p]? with
          | none => rw [q2] at e'; cases e'
          | some v =>
            rw [q2] at e'
            cases e'
            rw [if_pos c4]
            exact ⟨rfl, rfl, rfl⟩
  · rw [if_neg c2] at e
    rw [if_neg c2]
    obtain ⟨h1, h2, h3⟩ := new S h b S' rfl rfl e
    refine ⟨by rw [h1]; exact (List.append_nil _).symm, h2, ?_⟩
    rw [h3]
    split <;> rfl
theorem handsF_lent {N : Nat} {f : Fr} : ∀ {ts : List Th} {S : LS} {ws : List Str} {hs : List (Hd × Option Nat)} {S' : LS}, handsF N f S ts ws = some (hs, S') → ∃ L, S'.lent = S.lent ++ L
  | [], S, ws, hs, S', e => by
    unfold handsF at e
    cases e
    exact ⟨[], (List.append_nil _).symm⟩
  | t :: ts, S, [], hs, S', e => by unfold handsF at e; cases e
  | t :: ts, S, w :: ws, hs, S', e => by
    unfold handsF at e
    cases q : handF N S f t w with
    | none => rw [q] at e; cases e
    | some r =>
      obtain ⟨d, b, S1⟩ := r
      rw [q] at e
      have e2 : ((handsF N f S1 ts ws).map fun (r, S2) => ((d, b) :: r, S2)) = some (hs, S') := e
      cases q2 : handsF N f S1 ts ws with
      | none => rw [q2] at e2; cases e2
      | some r2 =>
        obtain ⟨hs2, S2⟩ := r2
        rw [q2] at e2
        cases e2
        obtain ⟨L, h⟩ := handsF_lent q2
        exact ⟨_, by rw [h, (handF_lent q).1, List.append_assoc]⟩
theorem stepF_lent {P : List Wk} {W : List (List Str)} {N : Nat} : ∀ {n : Nat} {f : Fr} {S : LS} {st : St} {S' : LS}, stepF P W N n f S st = some S' → S'.lent = S.lent
  | 0, f, S, st, S', e => by unfold stepF at e; cases e
  | n + 1, f, S, .say t, S', e => by
    unfold stepF at e
    cases q : numF S.at_ N f t with
    | none => rw [q] at e; cases e
    | some v => rw [q] at e; cases e; rfl
  | n + 1, f, S, .ite t a b, S', e => by
    unfold stepF at e
    cases q : numF S.at_ N f t with
    | none => rw [q] at e; cases e
    | some v =>
      rw [q] at e
      have e' : iter (stepF P W N n f) (if v = 0 then b else a) (S.mix (mixN S.at_ S.lent N f t)) = some S' := e
      have e2 := iter_lent (g := stepF P W N n f) (fun S s S' h => stepF_lent h) e'
      exact e2
  | n + 1, f, S, .set p t, S', e => by
    unfold stepF at e
    cases q : numF S.at_ N f t with
    | none => rw [q] at e; cases e
    | some v =>
      rw [q] at e
      cases q2 : roadF S.at_ N f p with
      | none => rw [q2] at e; cases e
      | some r =>
        rw [q2] at e
        cases r with
        | none => cases e; rfl
        | some pw =>
          obtain ⟨x, ws⟩ := pw
          have e' : (if x < S.at_.length then some { ((S.mix (mixN S.at_ S.lent N f t)).mix (mixR S.at_ S.lent N f p)).mix (meet S.lent x ws) with at_ := S.at_.set x v } else none) = some S' := e
          by_cases c : x < S.at_.length
          · rw [if_pos c] at e'; cases e'; rfl
          · rw [if_neg c] at e'; cases e'
  | n + 1, f, S, .call w ts, S', e => by
    unfold stepF at e
    cases q : W[w]? with
    | none => rw [q] at e; cases e
    | some ws =>
    rw [q] at e
    have e1 : (if ws.length = ts.length then (handsF N f S ts ws).bind fun (hs, S1) => P[w]?.bind fun wk =>
      (iter (stepF P W N n (.mk (ownsOf S1 wk.owns) (Hds.of hs))) wk.body (S1.enter wk.owns)).bind fun S2 => (backsF S2.at_ hs).map fun a => { S2 with at_ := a, lent := S2.lent.take S.lent.length } else none) = some S' := e
    by_cases c : ws.length = ts.length
    · rw [if_pos c] at e1
      cases q2 : handsF N f S ts ws with
      | none => rw [q2] at e1; cases e1
      | some r =>
      obtain ⟨hs, S1⟩ := r
      rw [q2] at e1
      cases q3 : P[w]? with
      | none => rw [q3] at e1; cases e1
      | some wk =>
      rw [q3] at e1
      have e2 : ((iter (stepF P W N n (.mk (ownsOf S1 wk.owns) (Hds.of hs))) wk.body (S1.enter wk.owns)).bind fun S2 => (backsF S2.at_ hs).map fun a => { S2 with at_ := a, lent := S2.lent.take S.lent.length }) = some S' := e1
      cases q4 : iter (stepF P W N n (.mk (ownsOf S1 wk.owns) (Hds.of hs))) wk.body (S1.enter wk.owns) with
      | none => rw [q4] at e2; cases e2
      | some S2 =>
      rw [q4] at e2
      have e3 : ((backsF S2.at_ hs).map fun a => { S2 with at_ := a, lent := S2.lent.take S.lent.length }) = some S' := e2
      cases q5 : backsF S2.at_ hs with
      | none => rw [q5] at e3; cases e3
      | some a =>
      rw [q5] at e3
      cases e3
      obtain ⟨L, hL⟩ := handsF_lent q2
      have h2 : S2.lent = (S1.enter wk.owns).lent := iter_lent (g := stepF P W N n (.mk (ownsOf S1 wk.owns) (Hds.of hs))) (fun S s S' h => stepF_lent h) q4
      have h3 : (S1.enter wk.owns).lent = S1.lent := rfl
      show S2.lent.take S.lent.length = S.lent
      rw [h2, h3, hL, List.take_left']
      rfl
    · rw [if_neg c] at e1
      cases e1
end Hw
/-! Numbers stay below 3. -/
namespace Hw
open PySem PySem.Spec PyProof.Rows L2
mutual
def St.lit : St → Prop
  | .set p t => p.lit ∧ t.lit
  | .say t => t.lit
  | .ite t a b => t.lit ∧ a.lit ∧ b.lit
  | .call _ ts => ∀ t ∈ ts, t.lit
def Sts.lit : Sts → Prop
  | .nil => True
  | .cons s r => s.lit ∧ r.lit
end
theorem Th.ok_lit {p o : Nat} : ∀ {t : Th} {d : Nat}, t.ok p o d → t.lit
  | .num k, d, h => by
    unfold Th.lit
    cases d <;> exact h
  | .own k, d, h => by unfold Th.lit; trivial
  | .par k, d, h => by unfold Th.lit; trivial
  | .cell t, 0, h => h.elim
  | .cell t, d + 1, h => by
    unfold Th.lit
    exact Th.ok_lit (t := t) (d := d) h
  | .sum a b, 0, h => h.elim
  | .sum a b, d + 1, h => by
    unfold Th.lit
    exact ⟨Th.ok_lit (t := a) (d := d) h.1, Th.ok_lit (t := b) (d := d) h.2⟩
mutual
theorem St.ok_lit {sh : List (Nat × Nat)} {i : Nat} : ∀ {s : St} {d : Nat}, St.ok sh i d s → s.lit
  | .set p t, d, h => by
    unfold St.lit
    have h' : p.isPlace = true ∧ Th.ok (sh.getD i (0, 0)).1 (sh.getD i (0, 0)).2 4 p ∧ Th.ok (sh.getD i (0, 0)).1 (sh.getD i (0, 0)).2 4 t := by cases d <;> (unfold St.ok at h; exact h)
    exact ⟨Th.ok_lit h'.2.1, Th.ok_lit h'.2.2⟩
  | .say t, d, h => by
    unfold St.lit
    have h' : Th.ok (sh.getD i (0, 0)).1 (sh.getD i (0, 0)).2 4 t := by cases d <;> (unfold St.ok at h; exact h)
    exact Th.ok_lit h'
  | .ite t a b, 0, h => by
    unfold St.ok at h
    exact h.elim
  | .ite t a b, d + 1, h => by
    unfold St.ok at h
    unfold St.lit
    exact ⟨Th.ok_lit h.1, Sts.ok_lit h.2.1, Sts.ok_lit h.2.2⟩
  | .call k ts, d, h => by
    unfold St.lit
    intro t ht
    have h' : i < k ∧ k < sh.length ∧ ts.length = (sh.getD k (0, 0)).1 ∧ ∀ t ∈ ts, Th.ok (sh.getD i (0, 0)).1 (sh.getD i (0, 0)).2 4 t := by cases d <;> (unfold St.ok at h; exact h)
    exact Th.ok_lit (h'.2.2.2 t ht)
theorem Sts.ok_lit {sh : List (Nat × Nat)} {i : Nat} : ∀ {s : Sts} {d : Nat}, Sts.ok sh i d s → s.lit
  | .nil, d, h => by unfold Sts.lit; trivial
  | .cons s r, d, h => by
    unfold Sts.ok at h
    unfold Sts.lit
    exact ⟨St.ok_lit h.1, Sts.ok_lit h.2⟩
end
theorem handsF_low {N : Nat} {f : Fr} (hf : f.lit) : ∀ {ts : List Th} {S : LS} {ws : List Str} {hs : List (Hd × Option Nat)} {S' : LS}, Low S.at_ → (∀ t ∈ ts, t.lit) → handsF N f S ts ws = some (hs, S') → Low S'.at_ ∧ (Hds.of hs).lit
  | [], S, ws, hs, S', la, _, e => by
    unfold handsF at e
    cases e
    exact ⟨la, by unfold Hds.of Hds.lit; trivial⟩
  | t :: ts, S, [], hs, S', _, _, e => by unfold handsF at e; cases e
  | t :: ts, S, w :: ws, hs, S', la, lt, e => by
    unfold handsF at e
    cases q : handF N S f t w with
    | none => rw [q] at e; cases e
    | some r =>
      obtain ⟨d, b, S1⟩ := r
      rw [q] at e
      have e2 : ((handsF N f S1 ts ws).map fun (r, S2) => ((d, b) :: r, S2)) = some (hs, S') := e
      cases q2 : handsF N f S1 ts ws with
      | none => rw [q2] at e2; cases e2
      | some r2 =>
        obtain ⟨hs2, S2⟩ := r2
        rw [q2] at e2
        cases e2
        obtain ⟨l1, ld⟩ := handF_low la hf (lt t List.mem_cons_self) q
        obtain ⟨l2, lr⟩ := handsF_low hf l1 (fun u hu => lt u (List.mem_cons_of_mem _ hu)) q2
        exact ⟨l2, by unfold Hds.of Hds.lit; exact ⟨ld, lr⟩⟩
theorem backsF_low : ∀ {hs : List (Hd × Option Nat)} {a a' : List Nat}, Low a → backsF a hs = some a' → Low a'
  | [], a, a', l, e => by unfold backsF at e; cases e; exact l
  | (d, none) :: r, a, a', l, e => by unfold backsF at e; exact backsF_low l e
  | (.road q _, some p) :: r, a, a', l, e => by
    unfold backsF at e
    by_cases c : p < a.length
    · rw [if_pos c] at e
      cases g : a[q]? with
      | none => rw [g] at e; cases e
      | some v =>
        rw [g] at e
        exact backsF_low (l.set (l.get g)) (show backsF (a.set p v) r = some a' from e)
    · rw [if_neg c] at e
      cases e
  | (.want _ _, some _) :: r, a, a', l, e => by unfold backsF at e; cases e
theorem iter_low {g : LS → St → Option LS} (hg : ∀ S s S', s.lit → Low S.at_ → g S s = some S' → Low S'.at_) : ∀ {b : Sts} {S S' : LS}, b.lit → Low S.at_ → iter g b S = some S' → Low S'.at_
  | .nil, S, S', _, l, e => by unfold iter at e; cases e; exact l
  | .cons s r, S, S', lb, l, e => by
    unfold iter at e
    unfold Sts.lit at lb
    cases q : g S s with
    | none => rw [q] at e; cases e
    | some S1 =>
      rw [q] at e
      exact iter_low hg lb.2 (hg S s S1 lb.1 l q) (show iter g r S1 = some S' from e)
theorem low_rep {n : Nat} : Low (List.replicate n 0) := fun x hx => by
  have := (List.mem_replicate.mp hx).2
  omega
theorem stepF_low {P : List Wk} {W : List (List Str)} {N : Nat} (hP : ∀ wk ∈ P, wk.body.lit) : ∀ {n : Nat} {f : Fr} {S : LS} {st : St} {S' : LS}, f.lit → st.lit → Low S.at_ → stepF P W N n f S st = some S' → Low S'.at_
  | 0, f, S, st, S', _, _, _, e => by unfold stepF at e; cases e
  | n + 1, f, S, .say t, S', hf, hs, la, e => by
    unfold stepF at e
    cases q : numF S.at_ N f t with
    | none => rw [q] at e; cases e
    | some v => rw [q] at e; cases e; exact la
  | n + 1, f, S, .ite t a b, S', hf, hs, la, e => by
    unfold stepF at e
    unfold St.lit at hs
    cases q : numF S.at_ N f t with
    | none => rw [q] at e; cases e
    | some v =>
      rw [q] at e
      have e' : iter (stepF P W N n f) (if v = 0 then b else a) (S.mix (mixN S.at_ S.lent N f t)) = some S' := e
      refine iter_low (g := stepF P W N n f) (S := S.mix (mixN S.at_ S.lent N f t)) (fun S s S' hs la h => stepF_low hP hf hs la h) ?_ la e'
      split
      · exact hs.2.2
      · exact hs.2.1
  | n + 1, f, S, .set p t, S', hf, hs, la, e => by
    unfold stepF at e
    unfold St.lit at hs
    cases q : numF S.at_ N f t with
    | none => rw [q] at e; cases e
    | some v =>
      rw [q] at e
      cases q2 : roadF S.at_ N f p with
      | none => rw [q2] at e; cases e
      | some r =>
        rw [q2] at e
        cases r with
        | none => cases e; exact la
        | some pw =>
          obtain ⟨x, ws⟩ := pw
          have e' : (if x < S.at_.length then some { ((S.mix (mixN S.at_ S.lent N f t)).mix (mixR S.at_ S.lent N f p)).mix (meet S.lent x ws) with at_ := S.at_.set x v } else none) = some S' := e
          by_cases c : x < S.at_.length
          · rw [if_pos c] at e'; cases e'; exact la.set (numF_low la hf hs.2 q)
          · rw [if_neg c] at e'; cases e'
  | n + 1, f, S, .call w ts, S', hf, hs, la, e => by
    unfold stepF at e
    unfold St.lit at hs
    cases q : W[w]? with
    | none => rw [q] at e; cases e
    | some ws =>
    rw [q] at e
    have e1 : (if ws.length = ts.length then (handsF N f S ts ws).bind fun (hs, S1) => P[w]?.bind fun wk =>
      (iter (stepF P W N n (.mk (ownsOf S1 wk.owns) (Hds.of hs))) wk.body (S1.enter wk.owns)).bind fun S2 => (backsF S2.at_ hs).map fun a => { S2 with at_ := a, lent := S2.lent.take S.lent.length } else none) = some S' := e
    by_cases c : ws.length = ts.length
    · rw [if_pos c] at e1
      cases q2 : handsF N f S ts ws with
      | none => rw [q2] at e1; cases e1
      | some r =>
      obtain ⟨hs', S1⟩ := r
      rw [q2] at e1
      cases q3 : P[w]? with
      | none => rw [q3] at e1; cases e1
      | some wk =>
      rw [q3] at e1
      have e2 : ((iter (stepF P W N n (.mk (ownsOf S1 wk.owns) (Hds.of hs'))) wk.body (S1.enter wk.owns)).bind fun S2 => (backsF S2.at_ hs').map fun a => { S2 with at_ := a, lent := S2.lent.take S.lent.length }) = some S' := e1
      cases q4 : iter (stepF P W N n (.mk (ownsOf S1 wk.owns) (Hds.of hs'))) wk.body (S1.enter wk.owns) with
      | none => rw [q4] at e2; cases e2
      | some S2 =>
      rw [q4] at e2
      have e3 : ((backsF S2.at_ hs').map fun a => { S2 with at_ := a, lent := S2.lent.take S.lent.length }) = some S' := e2
      cases q5 : backsF S2.at_ hs' with
      | none => rw [q5] at e3; cases e3
      | some a =>
      rw [q5] at e3
      cases e3
      obtain ⟨l1, lh⟩ := handsF_low hf la hs q2
      have l2 : Low S2.at_ := iter_low (g := stepF P W N n (.mk (ownsOf S1 wk.owns) (Hds.of hs'))) (fun S s S' hs la h => stepF_low hP (by unfold Fr.lit; exact lh) hs la h) (hP wk (List.mem_of_getElem? q3)) (show Low (S1.at_ ++ List.replicate wk.owns 0) from l1.app low_rep) q4
      exact backsF_low l2 q5
    · rw [if_neg c] at e1
      cases e1
end Hw
/-! Who may set what, in Lean: as the program tells it, as the law tells it; they are the same. -/
namespace Hw
open PySem PySem.Spec PyProof.Rows L2

def markT : Th → List Bool → List Bool
  | .par k, ms => ms.set k true
  | .num _, ms => ms
  | .sum _ _, ms => ms
  | .cell _, ms => ms
  | .own _, ms => ms
def markH : List Th → List Str → List Bool → List Bool → List Bool
  | t :: ts, w :: ws, b :: bs, ms => markH ts ws bs (if b = true ∧ w ≠ "copy" then markT t ms else ms)
  | _, _, _, ms => ms
mutual
def markS (W : List (List Str)) (told : List (List Bool)) : St → List Bool → List Bool
  | .set p _, ms => markT p ms
  | .say _, ms => ms
  | .ite _ a b, ms => markB W told b (markB W told a ms)
  | .call w ts, ms => markH ts (W.getD w []) (told.getD w []) ms
def markB (W : List (List Str)) (told : List (List Bool)) : Sts → List Bool → List Bool
  | .nil, ms => ms
  | .cons s r, ms => markB W told r (markS W told s ms)
end
theorem markT_len : ∀ {t : Th} {ms : List Bool}, (markT t ms).length = ms.length
  | .par k, ms => List.length_set ..
  | .num _, _ => rfl
  | .sum _ _, _ => rfl
  | .cell _, _ => rfl
  | .own _, _ => rfl
theorem markH_len : ∀ {ts : List Th} {ws : List Str} {bs ms : List Bool}, (markH ts ws bs ms).length = ms.length
  | [], _, _, _ => by unfold markH; rfl
  | _ :: _, [], _, _ => by unfold markH; rfl
  | _ :: _, _ :: _, [], _ => by unfold markH; rfl
  | t :: ts, w :: ws, b :: bs, ms => by
    unfold markH
    rw [markH_len]
    split
    · exact markT_len
    · rfl
mutual
theorem markS_len {W : List (List Str)} {told : List (List Bool)} : ∀ {s : St} {ms : List Bool}, (markS W told s ms).length = ms.length
  | .set p _, ms => by unfold markS; exact markT_len
  | .say _, ms => by unfold markS; rfl
  | .ite _ a b, ms => by unfold markS; rw [markB_len, markB_len]
  | .call w ts, ms => by unfold markS; exact markH_len
theorem markB_len {W : List (List Str)} {told : List (List Bool)} : ∀ {b : Sts} {ms : List Bool}, (markB W told b ms).length = ms.length
  | .nil, ms => by unfold markB; rfl
  | .cons s r, ms => by unfold markB; rw [markB_len, markS_len]
end
/-- how a body hands its params on, and sets them -/
abbrev Hn := Nat × Option (Nat × Nat)
def hndT (w k : Nat) : List Th → List Hn
  | [] => []
  | .par q :: r => (q, some (w, k)) :: hndT w (k + 1) r
  | .num _ :: r => hndT w (k + 1) r
  | .sum _ _ :: r => hndT w (k + 1) r
  | .cell _ :: r => hndT w (k + 1) r
  | .own _ :: r => hndT w (k + 1) r
theorem hndT_par {w k q : Nat} {r : List Th} : hndT w k (.par q :: r) = (q, some (w, k)) :: hndT w (k + 1) r := rfl
theorem hndT_num {w k n : Nat} {r : List Th} : hndT w k (.num n :: r) = hndT w (k + 1) r := rfl
theorem hndT_sum {w k : Nat} {a b : Th} {r : List Th} : hndT w k (.sum a b :: r) = hndT w (k + 1) r := rfl
theorem hndT_cell {w k : Nat} {a : Th} {r : List Th} : hndT w k (.cell a :: r) = hndT w (k + 1) r := rfl
theorem hndT_own {w k n : Nat} {r : List Th} : hndT w k (.own n :: r) = hndT w (k + 1) r := rfl
mutual
def hndS : St → List Hn
  | .set (.par k) _ => [(k, none)]
  | .set (.num _) _ => []
  | .set (.sum _ _) _ => []
  | .set (.cell _) _ => []
  | .set (.own _) _ => []
  | .say _ => []
  | .ite _ a b => hndB a ++ hndB b
  | .call w ts => hndT w 0 ts
def hndB : Sts → List Hn
  | .nil => []
  | .cons s r => hndS s ++ hndB r
end
/-- a handing does so, by what is told of others -/
def Hits (W : List (List Str)) (g : Nat → Nat → Prop) (p : Nat) (h : Hn) : Prop := h.1 = p ∧ (h.2 = none ∨ ∃ w k way, h.2 = some (w, k) ∧ (W.getD w [])[k]? = some way ∧ way ≠ "copy" ∧ g w k)
theorem set_true {ms : List Bool} {k p : Nat} : (ms.set k true)[p]? = some true ↔ ms[p]? = some true ∨ (p < ms.length ∧ k = p) := by
  rw [List.getElem?_set]
  by_cases c : k = p
  · subst c
    by_cases d : k < ms.length
    · rw [if_pos rfl, if_pos d]
      exact ⟨fun _ => .inr ⟨d, rfl⟩, fun _ => rfl⟩
    · rw [if_pos rfl, if_neg d]
      constructor
      · intro h; cases h
      · rintro (h | h)
        · have := (List.getElem?_eq_some_iff.mp h).1; omega
        · exact absurd h.1 d
  · rw [if_neg c]
    exact ⟨.inl, fun h => h.elim id fun h => absurd h.2 c⟩
theorem markH_iff {W : List (List Str)} {told : List (List Bool)} {w p : Nat} : ∀ {ts : List Th} {k : Nat} {ms : List Bool}, (markH ts ((W.getD w []).drop k) ((told.getD w []).drop k) ms)[p]? = some true ↔
    ms[p]? = some true ∨ (p < ms.length ∧ ∃ h ∈ hndT w k ts, Hits W (fun w k => (told.getD w [])[k]? = some true) p h)
  | [], k, ms => by
    unfold markH hndT
    exact ⟨.inl, fun h => h.elim id fun ⟨_, h, q, _⟩ => nomatch q⟩
  | t :: ts, k, ms => by
    have none_of : ((W.getD w []).length ≤ k ∨ (told.getD w []).length ≤ k) → ∀ (ts : List Th) (j : Nat), k ≤ j → ¬ ∃ h ∈ hndT w j ts, Hits W (fun w k => (told.getD w [])[k]? = some true) p h := fun hl ts => by
      induction ts with
      | nil => intro j _ ⟨h, q, _⟩; unfold hndT at q; cases q
      | cons t ts ih =>
        intro j hj ⟨h, q, hh⟩
        cases t with
        | par x =>
          rw [hndT_par] at q
          rcases List.mem_cons.mp q with rfl | q
          · obtain ⟨_, hh | ⟨w', k', way, e, h1, h2, h3⟩⟩ := hh
            · cases hh
            · cases e
              have a1 := (List.getElem?_eq_some_iff.mp h1).1
              have a2 := (List.getElem?_eq_some_iff.mp h3).1
              omega
          · exact ih (j + 1) (by omega) ⟨h, q, hh⟩
        | num _ => rw [hndT_num] at q; exact ih (j + 1) (by omega) ⟨h, q, hh⟩
        | sum _ _ => rw [hndT_sum] at q; exact ih (j + 1) (by omega) ⟨h, q, hh⟩
        | cell _ => rw [hndT_cell] at q; exact ih (j + 1) (by omega) ⟨h, q, hh⟩
        | own _ => rw [hndT_own] at q; exact ih (j + 1) (by omega) ⟨h, q, hh⟩
    by_cases c1 : k < (W.getD w []).length
    · by_cases c2 : k < (told.getD w []).length
      · rw [List.drop_eq_getElem_cons c1, List.drop_eq_getElem_cons c2]
        unfold markH
        rw [markH_iff (ts := ts) (k := k + 1)]
        have e1 : (W.getD w [])[k]? = some (W.getD w [])[k] := List.getElem?_eq_getElem c1
        have e2 : (told.getD w [])[k]? = some (told.getD w [])[k] := List.getElem?_eq_getElem c2
        have same : ∀ ms' : List Bool, ms'.length = ms.length → (t.isPlace = true → True) → ((∀ q, t ≠ .par q) → ms' = ms) → (∀ q, t = .par q → (ms'[p]? = some true ↔ ms[p]? = some true ∨ (p < ms.length ∧ Hits W (fun w k => (told.getD w [])[k]? = some true) p (q, some (w, k))))) →
            ((ms'[p]? = some true ∨ (p < ms'.length ∧ ∃ h ∈ hndT w (k + 1) ts, Hits W (fun w k => (told.getD w [])[k]? = some true) p h)) ↔ (ms[p]? = some true ∨ (p < ms.length ∧ ∃ h ∈ hndT w k (t :: ts), Hits W (fun w k => (told.getD w [])[k]? = some true) p h))) := fun ms' hl _ hn hp => by
          rw [hl]
          cases t with
          | par q =>
            rw [hp q rfl, hndT_par]
            constructor
            · rintro ((h | ⟨l, h⟩) | ⟨l, h, m, hh⟩)
              · exact .inl h
              · exact .inr ⟨l, _, List.mem_cons_self, h⟩
              · exact .inr ⟨l, h, List.mem_cons_of_mem _ m, hh⟩
            · rintro (h | ⟨l, h, m, hh⟩)
              · exact .inl (.inl h)
              · rcases List.mem_cons.mp m with rfl | m
                · exact .inl (.inr ⟨l, hh⟩)
                · exact .inr ⟨l, h, m, hh⟩
          | num _ => rw [hn fun _ z => (by cases z), hndT_num]
          | sum _ _ => rw [hn fun _ z => (by cases z), hndT_sum]
          | cell _ => rw [hn fun _ z => (by cases z), hndT_cell]
          | own _ => rw [hn fun _ z => (by cases z), hndT_own]
        refine same _ (by split; exact markT_len; rfl) (fun _ => trivial) (fun hn => ?_) fun q hq => ?_
        · split
          · cases t with
            | par q => exact absurd rfl (hn q)
            | _ => rfl
          · rfl
        · subst hq
          by_cases c : (told.getD w [])[k] = true ∧ (W.getD w [])[k] ≠ "copy"
          · rw [if_pos c]
            show (ms.set q true)[p]? = some true ↔ _
            rw [set_true]
            constructor
            · rintro (h | ⟨h, rfl⟩)
              · exact .inl h
              · exact .inr ⟨h, rfl, .inr ⟨w, k, _, rfl, e1, c.2, by show (told.getD w [])[k]? = some true; rw [e2, c.1]⟩⟩
            · rintro (h | ⟨h, e, _⟩)
              · exact .inl h
              · exact .inr ⟨h, e⟩
          · rw [if_neg c]
            constructor
            · exact .inl
            · rintro (h | ⟨h, e, z | ⟨w', k', way, ez, h1, h2, h3⟩⟩)
              · exact h
              · cases z
              · cases ez
                refine absurd ⟨?_, ?_⟩ c
                · rw [e2] at h3; exact Option.some.inj h3
                · rw [e1] at h1; rw [Option.some.inj h1]; exact h2
      · rw [List.drop_eq_getElem_cons c1, List.drop_of_length_le (Nat.not_lt.mp c2)]
        unfold markH
        exact ⟨.inl, fun h => h.elim id fun ⟨_, h⟩ => absurd h (none_of (.inr (Nat.not_lt.mp c2)) _ k (Nat.le_refl _))⟩
    · rw [List.drop_of_length_le (Nat.not_lt.mp c1)]
      unfold markH
      exact ⟨.inl, fun h => h.elim id fun ⟨_, h⟩ => absurd h (none_of (.inl (Nat.not_lt.mp c1)) _ k (Nat.le_refl _))⟩
mutual
theorem markS_iff {W : List (List Str)} {told : List (List Bool)} {p : Nat} : ∀ {s : St} {ms : List Bool}, (markS W told s ms)[p]? = some true ↔ ms[p]? = some true ∨ (p < ms.length ∧ ∃ h ∈ hndS s, Hits W (fun w k => (told.getD w [])[k]? = some true) p h)
  | .set (.par q) t, ms => by
    unfold markS markT hndS
    rw [set_true]
    constructor
    · rintro (h | ⟨h, rfl⟩)
      · exact .inl h
      · exact .inr ⟨h, _, List.mem_singleton.mpr rfl, rfl, .inl rfl⟩
    · rintro (h | ⟨h, x, m, e, _⟩)
      · exact .inl h
      · cases List.mem_singleton.mp m
        exact .inr ⟨h, e⟩
  | .set (.num _) t, ms => by unfold markS markT hndS; exact ⟨.inl, fun h => h.elim id fun ⟨_, h, q, _⟩ => nomatch q⟩
  | .set (.sum _ _) t, ms => by unfold markS markT hndS; exact ⟨.inl, fun h => h.elim id fun ⟨_, h, q, _⟩ => nomatch q⟩
  | .set (.cell _) t, ms => by unfold markS markT hndS; exact ⟨.inl, fun h => h.elim id fun ⟨_, h, q, _⟩ => nomatch q⟩
  | .set (.own _) t, ms => by unfold markS markT hndS; exact ⟨.inl, fun h => h.elim id fun ⟨_, h, q, _⟩ => nomatch q⟩
  | .say _, ms => by unfold markS hndS; exact ⟨.inl, fun h => h.elim id fun ⟨_, h, q, _⟩ => nomatch q⟩
  | .ite _ a b, ms => by
    unfold markS hndS
    rw [markB_iff, markB_iff, markB_len]
    constructor
    · rintro ((h | ⟨l, h, m, q⟩) | ⟨l, h, m, q⟩)
      · exact .inl h
      · exact .inr ⟨l, h, List.mem_append_left _ m, q⟩
      · exact .inr ⟨l, h, List.mem_append_right _ m, q⟩
    · rintro (h | ⟨l, h, m, q⟩)
      · exact .inl (.inl h)
      · rcases List.mem_append.mp m with m | m
        · exact .inl (.inr ⟨l, h, m, q⟩)
        · exact .inr ⟨l, h, m, q⟩
  | .call w ts, ms => by
    unfold markS hndS
    exact markH_iff (k := 0)
theorem markB_iff {W : List (List Str)} {told : List (List Bool)} {p : Nat} : ∀ {b : Sts} {ms : List Bool}, (markB W told b ms)[p]? = some true ↔ ms[p]? = some true ∨ (p < ms.length ∧ ∃ h ∈ hndB b, Hits W (fun w k => (told.getD w [])[k]? = some true) p h)
  | .nil, ms => by unfold markB hndB; exact ⟨.inl, fun h => h.elim id fun ⟨_, h, q, _⟩ => nomatch q⟩
  | .cons s r, ms => by
    unfold markB hndB
    rw [markB_iff, markS_iff, markS_len]
    constructor
    · rintro ((h | ⟨l, h, m, q⟩) | ⟨l, h, m, q⟩)
      · exact .inl h
      · exact .inr ⟨l, h, List.mem_append_left _ m, q⟩
      · exact .inr ⟨l, h, List.mem_append_right _ m, q⟩
    · rintro (h | ⟨l, h, m, q⟩)
      · exact .inl (.inl h)
      · rcases List.mem_append.mp m with m | m
        · exact .inl (.inr ⟨l, h, m, q⟩)
        · exact .inr ⟨l, h, m, q⟩
end
/-- what may be set -/
inductive MS (P : List Wk) (W : List (List Str)) : Nat → Nat → Prop
  | set {i p : Nat} {wk : Wk} : P[i]? = some wk → (p, none) ∈ hndB wk.body → MS P W i p
  | call {i p w k : Nat} {wk : Wk} {way : Str} : P[i]? = some wk → (p, some (w, k)) ∈ hndB wk.body → (W.getD w [])[k]? = some way → way ≠ "copy" → MS P W w k → MS P W i p
theorem MS.of {P : List Wk} {W : List (List Str)} {g : Nat → Nat → Prop} {i p : Nat} {wk : Wk} {h : Hn} (e : P[i]? = some wk) (m : h ∈ hndB wk.body) (hg : ∀ w k, g w k → MS P W w k) (q : Hits W g p h) : MS P W i p := by
  obtain ⟨a, b⟩ := h
  obtain ⟨rfl, rfl | ⟨w, k, way, rfl, h1, h2, h3⟩⟩ := q
  · exact .set e m
  · exact .call e m h1 h2 (hg w k h3)
/-- as the program goes: so many works, from the last -/
def toldF (P : List Wk) (W : List (List Str)) : Nat → List (List Bool)
  | 0 => List.replicate P.length []
  | j + 1 => match P[P.length - 1 - j]? with
    | some wk => (toldF P W j).set (P.length - 1 - j) (markB W (toldF P W j) wk.body (List.replicate wk.params false))
    | none => toldF P W j
def maySet (P : List Wk) (W : List (List Str)) : List (List Bool) := toldF P W P.length
theorem toldF_len {P : List Wk} {W : List (List Str)} : ∀ j, (toldF P W j).length = P.length
  | 0 => List.length_replicate
  | j + 1 => by
    unfold toldF
    cases P[P.length - 1 - j]? with
    | none => exact toldF_len j
    | some wk => exact (List.length_set ..).trans (toldF_len j)
/-- calls go to later works alone -/
def Later (P : List Wk) : Prop := ∀ (i : Nat) (wk : Wk) (h : Hn), P[i]? = some wk → h ∈ hndB wk.body → h.1 < wk.params ∧ ∀ w k, h.2 = some (w, k) → i < w ∧ w < P.length
theorem MS.lt {P : List Wk} {W : List (List Str)} (L : Later P) {i p : Nat} (m : MS P W i p) : ∃ wk, P[i]? = some wk ∧ p < wk.params := by
  cases m with
  | set e m => exact ⟨_, e, (L _ _ _ e m).1⟩
  | call e m _ _ _ => exact ⟨_, e, (L _ _ _ e m).1⟩
theorem toldF_iff {P : List Wk} {W : List (List Str)} (L : Later P) : ∀ j, j ≤ P.length → ∀ i, P.length - j ≤ i → ∀ p, ((toldF P W j).getD i [])[p]? = some true ↔ MS P W i p
  | 0, _, i, hi, p => by
    unfold toldF
    have e : (List.replicate P.length ([] : List Bool)).getD i [] = [] := by
      rw [List.getD_eq_getElem?_getD]
      cases q : (List.replicate P.length ([] : List Bool))[i]? with
      | none => rfl
      | some x => exact (List.mem_replicate.mp (List.mem_of_getElem? q)).2
    rw [e]
    constructor
    · intro h; simp at h
    · intro h
      obtain ⟨wk, e, _⟩ := h.lt L
      have := (List.getElem?_eq_some_iff.mp e).1
      omega
  | j + 1, hj, i, hi, p => by
    have ih := toldF_iff (W := W) L j (by omega)
    have hl := toldF_len (P := P) (W := W) j
    have hw : P.length - 1 - j < P.length := by omega
    have ew : P[P.length - 1 - j]? = some P[P.length - 1 - j] := List.getElem?_eq_getElem hw
    unfold toldF
    rw [ew]
    show (((toldF P W j).set (P.length - 1 - j) (markB W (toldF P W j) P[P.length - 1 - j].body (List.replicate P[P.length - 1 - j].params false))).getD i [])[p]? = some true ↔ _
    by_cases c : P.length - 1 - j = i
    · subst c
      rw [List.getD_eq_getElem?_getD, List.getElem?_set, if_pos rfl, if_pos (by rw [hl]; exact hw)]
      show (markB W (toldF P W j) P[P.length - 1 - j].body (List.replicate P[P.length - 1 - j].params false))[p]? = some true ↔ _
      rw [markB_iff]
      constructor
      · rintro (h | ⟨l, h, m, q⟩)
        · exact absurd (List.mem_replicate.mp (List.mem_of_getElem? h)).2 (by decide)
        · obtain ⟨a, b⟩ := h
          obtain ⟨rfl, rfl | ⟨w, k, way, rfl, h1, h2, h3⟩⟩ := q
          · exact .set ew m
          · exact .call ew m h1 h2 ((ih w (by have := ((L _ _ _ ew m).2 w k rfl).1; omega) k).mp h3)
      · intro h
        right
        have lt := h.lt L
        obtain ⟨wk, e, lp⟩ := lt
        rw [ew] at e
        cases e
        refine ⟨by rw [List.length_replicate]; exact lp, ?_⟩
        cases h with
        | set e m =>
          rw [ew] at e
          cases e
          exact ⟨_, m, rfl, .inl rfl⟩
        | call e m h1 h2 h3 =>
          rw [ew] at e
          cases e
          exact ⟨_, m, rfl, .inr ⟨_, _, _, rfl, h1, h2, (ih _ (by have := ((L _ _ _ ew m).2 _ _ rfl).1; omega) _).mpr h3⟩⟩
    · rw [List.getD_eq_getElem?_getD, List.getElem?_set, if_neg c, ← List.getD_eq_getElem?_getD]
      exact ih i (by omega) p
/-- as the law goes -/
def hitB (W : List (List Str)) (good : List (Nat × Nat)) (h : Hn) : Bool := match h.2 with
  | none => true
  | some (w, k) => decide ((w, k) ∈ good) && !decide ((W.getD w []).getD k "" = "copy")
def goH (W : List (List Str)) (i : Nat) : List Hn → List (Nat × Nat) → List (Nat × Nat)
  | [], g => g
  | h :: r, g => goH W i r (if hitB W g h = true then g ++ [(i, h.1)] else g)
def goW (W : List (List Str)) : Nat → List Wk → List (Nat × Nat) → List (Nat × Nat)
  | _, [], g => g
  | i, wk :: r, g => goW W (i + 1) r (goH W i (hndB wk.body) g)
def goT (P : List Wk) (W : List (List Str)) : Nat → List (Nat × Nat)
  | 0 => []
  | t + 1 => goW W 0 P (goT P W t)
theorem hitB_sound {P : List Wk} {W : List (List Str)} (hW : ∀ (i : Nat) (wk : Wk) (h : Hn) (w k : Nat), P[i]? = some wk → h ∈ hndB wk.body → h.2 = some (w, k) → k < (W.getD w []).length) {i : Nat} {wk : Wk} {h : Hn} {g : List (Nat × Nat)} (e : P[i]? = some wk) (m : h ∈ hndB wk.body) :
    hitB W g h = true ↔ Hits W (fun w k => (w, k) ∈ g) h.1 h := by
  obtain ⟨a, b⟩ := h
  unfold hitB Hits
  cases b with
  | none => exact ⟨fun _ => ⟨rfl, .inl rfl⟩, fun _ => rfl⟩
  | some wk2 =>
    obtain ⟨w, k⟩ := wk2
    have hk := hW i wk _ w k e m rfl
    have e1 : (W.getD w [])[k]? = some (W.getD w [])[k] := List.getElem?_eq_getElem hk
    show (decide ((w, k) ∈ g) && !decide ((W.getD w []).getD k "" = "copy")) = true ↔ _
    rw [Bool.and_eq_true, decide_eq_true_eq, Bool.not_eq_true', decide_eq_false_iff_not]
    have e2 : (W.getD w []).getD k "" = (W.getD w [])[k] := by rw [List.getD_eq_getElem?_getD, e1]; rfl
    rw [e2]
    constructor
    · rintro ⟨h1, h2⟩
      exact ⟨rfl, .inr ⟨w, k, _, rfl, e1, h2, h1⟩⟩
    · rintro ⟨_, z | ⟨w', k', way, z, h1, h2, h3⟩⟩
      · cases z
      · cases z
        rw [e1] at h1
        exact ⟨h3, by rw [Option.some.inj h1]; exact h2⟩
theorem goH_sub {W : List (List Str)} {i : Nat} : ∀ {hs : List Hn} {g : List (Nat × Nat)} {x : Nat × Nat}, x ∈ g → x ∈ goH W i hs g
  | [], g, x, h => by unfold goH; exact h
  | y :: r, g, x, h => by
    unfold goH
    refine goH_sub ?_
    split
    · exact List.mem_append_left _ h
    · exact h
theorem goH_mem {W : List (List Str)} {i : Nat} : ∀ {hs : List Hn} {g : List (Nat × Nat)} {h : Hn}, h ∈ hs → hitB W g h = true → (i, h.1) ∈ goH W i hs g
  | [], g, h, m, _ => nomatch m
  | y :: r, g, h, m, q => by
    unfold goH
    rcases List.mem_cons.mp m with rfl | m
    · rw [if_pos q]
      exact goH_sub (List.mem_append_right _ (List.mem_singleton.mpr rfl))
    · refine goH_mem m ?_
      split
      · unfold hitB at q ⊢
        cases e : h.2 with
        | none => rfl
        | some wk =>
          rw [e] at q
          have q' : (decide (wk ∈ g) && !decide ((W.getD wk.1 []).getD wk.2 "" = "copy")) = true := q
          show (decide (wk ∈ g ++ [(i, y.1)]) && !decide ((W.getD wk.1 []).getD wk.2 "" = "copy")) = true
          rw [Bool.and_eq_true] at q' ⊢
          exact ⟨decide_eq_true (List.mem_append_left _ (of_decide_eq_true q'.1)), q'.2⟩
      · exact q
theorem goH_inv {P : List Wk} {W : List (List Str)} (hW : ∀ (i : Nat) (wk : Wk) (h : Hn) (w k : Nat), P[i]? = some wk → h ∈ hndB wk.body → h.2 = some (w, k) → k < (W.getD w []).length) {i : Nat} {wk : Wk} (e : P[i]? = some wk) :
    ∀ {hs : List Hn} {g : List (Nat × Nat)}, (∀ h ∈ hs, h ∈ hndB wk.body) → (∀ x ∈ g, MS P W x.1 x.2) → ∀ x ∈ goH W i hs g, MS P W x.1 x.2
  | [], g, _, hg, x, hx => by unfold goH at hx; exact hg x hx
  | y :: r, g, hs, hg, x, hx => by
    unfold goH at hx
    refine goH_inv hW e (fun h hh => hs h (List.mem_cons_of_mem _ hh)) (fun z hz => ?_) x hx
    split at hz
    · next c =>
      rcases List.mem_append.mp hz with hz | hz
      · exact hg z hz
      · cases List.mem_singleton.mp hz
        have m := hs y List.mem_cons_self
        exact MS.of e m (fun w k q => hg (w, k) q) ((hitB_sound hW e m).mp c)
    · exact hg z hz
theorem goW_sub {W : List (List Str)} : ∀ {ps : List Wk} {i : Nat} {g : List (Nat × Nat)} {x : Nat × Nat}, x ∈ g → x ∈ goW W i ps g
  | [], i, g, x, h => by unfold goW; exact h
  | y :: r, i, g, x, h => by unfold goW; exact goW_sub (goH_sub h)
theorem goW_inv {P : List Wk} {W : List (List Str)} (hW : ∀ (i : Nat) (wk : Wk) (h : Hn) (w k : Nat), P[i]? = some wk → h ∈ hndB wk.body → h.2 = some (w, k) → k < (W.getD w []).length) :
    ∀ {ps : List Wk} {i : Nat} {g : List (Nat × Nat)}, P.drop i = ps → (∀ x ∈ g, MS P W x.1 x.2) → ∀ x ∈ goW W i ps g, MS P W x.1 x.2
  | [], i, g, _, hg, x, hx => by unfold goW at hx; exact hg x hx
  | y :: r, i, g, e, hg, x, hx => by
    unfold goW at hx
    have hy : P[i]? = some y := by have h := List.getElem?_drop (xs := P) (i := i) (j := 0); rw [e, Nat.add_zero] at h; exact h.symm
    have hr : P.drop (i + 1) = r := by rw [← List.drop_drop, e]; rfl
    exact goW_inv hW hr (goH_inv hW hy (fun h hh => hh) hg) x hx
theorem goW_mem {P : List Wk} {W : List (List Str)} (hW : ∀ (i : Nat) (wk : Wk) (h : Hn) (w k : Nat), P[i]? = some wk → h ∈ hndB wk.body → h.2 = some (w, k) → k < (W.getD w []).length) :
    ∀ {ps : List Wk} {i : Nat} {g : List (Nat × Nat)} {j : Nat} {wk : Wk} {h : Hn}, P.drop i = ps → i ≤ j → P[j]? = some wk → h ∈ hndB wk.body → hitB W g h = true → (j, h.1) ∈ goW W i ps g
  | [], i, g, j, wk, h, e, l, ej, m, q => by
    have := (List.getElem?_eq_some_iff.mp ej).1
    have := congrArg List.length e
    rw [List.length_drop] at this
    simp at this
    omega
  | y :: r, i, g, j, wk, h, e, l, ej, m, q => by
    unfold goW
    have hy : P[i]? = some y := by have h := List.getElem?_drop (xs := P) (i := i) (j := 0); rw [e, Nat.add_zero] at h; exact h.symm
    have hr : P.drop (i + 1) = r := by rw [← List.drop_drop, e]; rfl
    by_cases c : i = j
    · subst c
      rw [hy] at ej
      cases ej
      exact goW_sub (goH_mem m q)
    · refine goW_mem hW hr (by omega) ej m ?_
      unfold hitB at q ⊢
      cases e2 : h.2 with
      | none => rfl
      | some wk2 =>
        rw [e2] at q
        have q' : (decide (wk2 ∈ g) && !decide ((W.getD wk2.1 []).getD wk2.2 "" = "copy")) = true := q
        show (decide (wk2 ∈ goH W i (hndB y.body) g) && !decide ((W.getD wk2.1 []).getD wk2.2 "" = "copy")) = true
        rw [Bool.and_eq_true] at q' ⊢
        exact ⟨decide_eq_true (goH_sub (of_decide_eq_true q'.1)), q'.2⟩
theorem goT_inv {P : List Wk} {W : List (List Str)} (hW : ∀ (i : Nat) (wk : Wk) (h : Hn) (w k : Nat), P[i]? = some wk → h ∈ hndB wk.body → h.2 = some (w, k) → k < (W.getD w []).length) : ∀ t, ∀ x ∈ goT P W t, MS P W x.1 x.2
  | 0, x, hx => by unfold goT at hx; cases hx
  | t + 1, x, hx => by
    unfold goT at hx
    exact goW_inv hW (i := 0) rfl (goT_inv hW t) x hx
theorem goT_mem {P : List Wk} {W : List (List Str)} (L : Later P) (hW : ∀ (i : Nat) (wk : Wk) (h : Hn) (w k : Nat), P[i]? = some wk → h ∈ hndB wk.body → h.2 = some (w, k) → k < (W.getD w []).length) :
    ∀ t i p, P.length - t ≤ i → MS P W i p → (i, p) ∈ goT P W t
  | 0, i, p, hi, m => by
    obtain ⟨wk, e, _⟩ := m.lt L
    have := (List.getElem?_eq_some_iff.mp e).1
    omega
  | t + 1, i, p, hi, m => by
    unfold goT
    cases m with
    | set e m => exact goW_mem hW (i := 0) (h := (p, none)) rfl (Nat.zero_le _) e m rfl
    | call e m h1 h2 h3 =>
      refine goW_mem hW (i := 0) (h := (p, some _)) rfl (Nat.zero_le _) e m ?_
      have l := ((L _ _ _ e m).2 _ _ rfl)
      exact (hitB_sound hW e m).mpr ⟨rfl, .inr ⟨_, _, _, rfl, h1, h2, goT_mem L hW t _ _ (by omega) h3⟩⟩
/-- the law's answer: of each work and param -/
def lawSet (P : List Wk) (W : List (List Str)) (t : Nat) : List (List Bool) := (List.range P.length).map fun i => (List.range (P.getD i ⟨0, 0, .nil⟩).params).map fun p => decide ((i, p) ∈ goT P W t)
theorem toldF_row {P : List Wk} {W : List (List Str)} : ∀ j i, j ≤ P.length → P.length - j ≤ i → i < P.length → ((toldF P W j).getD i []).length = (P.getD i ⟨0, 0, .nil⟩).params
  | 0, i, _, h1, h2 => by omega
  | j + 1, i, hj, h1, h2 => by
    have hl := toldF_len (P := P) (W := W) j
    have hw : P.length - 1 - j < P.length := by omega
    have ew : P[P.length - 1 - j]? = some P[P.length - 1 - j] := List.getElem?_eq_getElem hw
    unfold toldF
    rw [ew]
    show (((toldF P W j).set (P.length - 1 - j) (markB W (toldF P W j) P[P.length - 1 - j].body (List.replicate P[P.length - 1 - j].params false))).getD i []).length = _
    by_cases c : P.length - 1 - j = i
    · subst c
      rw [List.getD_eq_getElem?_getD, List.getElem?_set, if_pos rfl, if_pos (by rw [hl]; exact hw), List.getD_eq_getElem?_getD, ew]
      show (markB W (toldF P W j) P[P.length - 1 - j].body (List.replicate P[P.length - 1 - j].params false)).length = P[P.length - 1 - j].params
      rw [markB_len, List.length_replicate]
    · rw [List.getD_eq_getElem?_getD, List.getElem?_set, if_neg c, ← List.getD_eq_getElem?_getD]
      exact toldF_row j i (by omega) (by omega) h2
theorem bool_ext {a b : List Bool} (l : a.length = b.length) (h : ∀ p : Nat, a[p]? = some true ↔ b[p]? = some true) : a = b := by
  refine List.ext_getElem l fun i h1 h2 => ?_
  have := h i
  rw [List.getElem?_eq_getElem h1, List.getElem?_eq_getElem h2] at this
  have h3 : a[i] = true ↔ b[i] = true := ⟨fun e => Option.some.inj (this.mp (congrArg some e)), fun e => Option.some.inj (this.mpr (congrArg some e))⟩
  exact Bool.eq_iff_iff.mpr h3
theorem lawSet_eq {P : List Wk} {W : List (List Str)} (L : Later P) (hW : ∀ (i : Nat) (wk : Wk) (h : Hn) (w k : Nat), P[i]? = some wk → h ∈ hndB wk.body → h.2 = some (w, k) → k < (W.getD w []).length) {t : Nat} (ht : P.length ≤ t) : lawSet P W t = maySet P W := by
  refine List.ext_getElem? fun i => ?_
  have hl2 := toldF_len (P := P) (W := W) P.length
  by_cases hi : i < P.length
  case neg =>
    rw [List.getElem?_eq_none (l := maySet P W) (by unfold maySet; omega)]
    unfold lawSet
    rw [List.getElem?_map, List.getElem?_eq_none (by rw [List.length_range]; omega)]
    rfl
  have e1 : (lawSet P W t)[i]? = some ((List.range (P.getD i ⟨0, 0, .nil⟩).params).map fun p => decide ((i, p) ∈ goT P W t)) := by
    unfold lawSet
    rw [List.getElem?_map, List.getElem?_range hi]
    rfl
  have e2 : (maySet P W)[i]? = some ((toldF P W P.length).getD i []) := by
    unfold maySet
    rw [List.getD_eq_getElem?_getD, List.getElem?_eq_getElem (by omega)]
    rfl
  rw [e1, e2]
  refine congrArg some ?_
  have e3 := toldF_row (P := P) (W := W) P.length i (Nat.le_refl _) (by omega) hi
  refine bool_ext (by rw [List.length_map, List.length_range, e3]) fun p => ?_
  rw [toldF_iff L P.length (Nat.le_refl _) i (by omega) p, List.getElem?_map]
  constructor
  · intro h
    obtain ⟨q, hq, e⟩ := Option.map_eq_some_iff.mp h
    have := (List.getElem?_eq_some_iff.mp hq)
    obtain ⟨l, eq⟩ := this
    rw [List.getElem_range] at eq
    subst eq
    exact goT_inv hW t _ (of_decide_eq_true e)
  · intro m
    obtain ⟨wk, e, lp⟩ := m.lt L
    have : (P.getD i ⟨0, 0, .nil⟩).params = wk.params := by rw [List.getD_eq_getElem?_getD, e]; rfl
    rw [this, List.getElem?_range lp]
    exact congrArg some (decide_eq_true (goT_mem L hW t i p (by omega) m))
end Hw
/-! enumerate over a tuple. -/
namespace Hw
open PySem PySem.Spec PyProof.Rows L2
theorem meets_enum1 {v : Value} {o : Obj} {H : Heap → Prop} (B : Begins v o H) :
    Meets (Builtin.«enumerate.__new__» ⟨[.type "enumerate", v], []⟩) (fun _ R s => H s.heap ∧
      R (.ok (.ret (.ref (s.heap.push o).objs.size))) { s with heap := (s.heap.push o).push { cls := .type "enumerate", data := .fields #[.none, .bool false, .ref s.heap.objs.size, rawInt 0, .none, .none] } }) :=
  .of_wp fun prog w A R s h => by
    obtain ⟨hp, g, d, tk, os⟩ := s; obtain ⟨h1, h⟩ := h
    have hsub := sub_enumerate
    have q1 : ∀ {A' : Around} {E : Value → Shared → Prop} {Q : Value → Shared → Prop}, Q (.ref hp.objs.size) ⟨hp.push o, g, d, tk, os⟩ → wpAny (model prog w) A' (pyIter v) Q E ⟨hp, g, d, tk, os⟩ :=
      fun q => B.iter prog w _ _ ⟨hp, g, d, tk, os⟩ _ h1 q
    wp_walk using q1
    refine wpAny_stack_any fun st => wpAny_pure ?_
    split
    · rename_i c _ _ _ _ _
      cases (c == Value.type "enumerate")
      · wp_walk using q1
        exact ⟨_, rfl, h⟩
      · wp_walk using q1
        exact ⟨_, rfl, h⟩
    · wp_walk using q1
      exact ⟨_, rfl, h⟩
section
variable {prog : Program} {w : World} {A : Around} {E : Value → Shared → Prop} {s : Shared}
theorem enum_tuple {t : Addr} {items : Array Value} {Q : Value → Shared → Prop} (h1 : s.heap.IsTuple t items)
    (h : ∀ h', IsEnum h' (s.heap.objs.size + 1) s.heap.objs.size 0 .none → h'.IsTupleIter s.heap.objs.size t 0 → h'.objs.size = s.heap.objs.size + 2 →
      (∀ b o, s.heap.get? b = some o → h'.get? b = some o) → Q (.ref (s.heap.objs.size + 1)) { s with heap := h' }) :
    wpAny (model prog w) A (call (.type "enumerate") [.ref t]) Q E s := by
  have B := begins_tuple t items
  refine callType_new F.called_enumerate (by decide) (F.typeCall_enumerate_1 _) (F.newCall_enumerate_1 _) (fun obj => F.args_object_init_2 obj _) F.entry_enumerate_new (meets_enum1 B) ⟨h1, ?_⟩
  have hz : (s.heap.push { cls := .type "tuple_iterator", data := .fields #[.ref t, .int 0 0] }).objs.size = s.heap.objs.size + 1 := Heap.size_push ..
  show _ ∧ _
  rw [hz]
  have he : IsEnum ((s.heap.push { cls := .type "tuple_iterator", data := .fields #[.ref t, .int 0 0] }).push { cls := .type "enumerate", data := .fields #[.none, .bool false, .ref s.heap.objs.size, rawInt 0, .none, .none] }) (s.heap.objs.size + 1) s.heap.objs.size 0 .none := by
    have := Heap.get?_push_size (s.heap.push { cls := .type "tuple_iterator", data := .fields #[.ref t, .int 0 0] }) (o := { cls := .type "enumerate", data := .fields #[.none, .bool false, .ref s.heap.objs.size, rawInt 0, .none, .none] }) rfl
    rw [hz] at this; exact this
  refine ⟨⟨_, he, rfl⟩, h _ he ⟨_, Heap.get?_push_of_some _ (Heap.get?_push_size _ rfl), rfl, rfl⟩ (by rw [Heap.size_push, hz]) fun b o x => Heap.get?_push_of_some _ (Heap.get?_push_of_some _ x)⟩
end
/-- the tuple at a as it stands at each turn, each item in a new pair -/
def IteT (K : PySem.W.Frag) (a : Addr) : It :=
  ⟨fun i H => ∃ (xs : List V) (x : V), SqT K H a xs ∧ xs[i]? = some x, fun i H v H' => ∃ T x, v = .ref T ∧ H T = none ∧ H' = upd H T (.tup [.int (i : Nat), x]) ∧ ∀ xs, SqT K H a xs → xs[i]? = some x, fun i H => ∃ xs : List V, SqT K H a xs ∧ xs.length = i⟩
theorem turn_enumT {P : Program} {w : World} {K : PySem.W.Frag} {elts : List Expr} {kk : Nat} {tpos : Pos} (a e it : Addr) :
    Turn P w K (.Tuple elts kk tpos) (IteT K a) [e, it] e (fun i h => (∃ old, IsEnum h e it ((i : Nat) : Int) old) ∧ h.IsTupleIter it a i ∧ e ≠ it ∧ e ≠ a ∧ a ≠ it) where
  mem := by simp
  obj := fun i h st b hb => by
    obtain ⟨⟨old, he⟩, ⟨o, ho, hc, hd⟩, _⟩ := st
    have e' : b = e ∨ b = it := by simpa using hb
    rcases e' with z | z
    · rw [z]; exact ⟨_, he, fun v q => nomatch q⟩
    · rw [z]; exact ⟨o, ho, fun v q => by rw [hd] at q; cases q⟩
  keep := fun i h h' st k => let ⟨⟨old, he⟩, hi, hne⟩ := st; ⟨⟨old, k e (by simp) _ he⟩, hi.at fun o q => k it (by simp) o q, hne⟩
  item := by
    intro X hP hw hK hc i pins s σ H E I hf st hg
    subst hP hw hK
    obtain ⟨⟨old, he⟩, hit, hne, hea, hai⟩ := st
    obtain ⟨xs, x, hq, hx⟩ := hg
    obtain ⟨its, rv, p, hz⟩ := I.tuple hq
    obtain ⟨u, hu, ru⟩ := rv.get hx
    have hel : e < s.heap.objs.size := Heap.lt_size he
    have hil : it < s.heap.objs.size := by obtain ⟨_, q, _⟩ := hit; exact Heap.lt_size q
    have hlt : i < its.length := (List.getElem?_eq_some_iff.mp hu).1
    have D := Draws.tuple (prog := X.prog) (w := X.w) (A := X.A.in1) (show X.A.in1.handled = none from I.ok.hd hc) it a hai its.toArray
    refine wpAny_pyNext_enum_itemD D he ⟨hit, p⟩ (by simpa using hlt) hne (by simp [hne, hea]) fun u' h' tk hu' ho hst hT hsz hk => ?_
    have eu : u' = u := by
      have q : its[i]? = some u' := by simpa using hu'
      rw [hu] at q
      exact (Option.some.inj q).symm
    subst eu
    refine ⟨_, rfl, wpAny_letOwnedTupleGo_enum (s := { s with heap := h', toks := tk + 1 }) ho fun h'' he' sb => ?_⟩
    have hT2 : h''.get? s.heap.objs.size = some { cls := .type "tuple", data := .seq #[.int i tk, u'] } := (sb.2 _ (Nat.ne_of_gt hel)).trans hT
    have new : ObjOk X.prog X.w (upd H s.heap.objs.size (.tup [.int (i : Nat), x])) h'' s.heap.objs.size (.tup [.int (i : Nat), x]) :=
      ⟨by show 2 ≤ sizeLine; decide, [.int i tk, u'], .cons ⟨_, rfl⟩ (.cons ru .nil), ⟨_, hT2, rfl, _, rfl⟩⟩
    have I1 : Inv X pins σ (upd H s.heap.objs.size (.tup [.int (i : Nat), x])) { s with heap := h'', toks := tk + 1 } :=
      I.turnedNew (ch := [e, it]) (fun b ob hb q => (sb.2 b (fun z => hb (by simp [z]))).trans (hk b ob (fun z => hb (by simp [z])) (fun z => hb (by simp [z])) q)) hf (Nat.le_refl _) new
    refine ⟨.ref s.heap.objs.size, _, I1, rfl, ⟨_, x, rfl, I.hok.fresh (Nat.le_refl _), rfl, fun ys hy => by rw [I.tuple_inj hy hq]; exact hx⟩, ⟨⟨u', ?_⟩, hst.1.at fun o q => (sb.2 it (Ne.symm hne)).trans q, hne, hea, hai⟩, fun b hb => ?_⟩
    · have e1 : ((i + 1 : Nat) : Int) = (i : Int) + 1 := by omega
      rw [e1]; exact he'
    · have hb' : b < s.heap.objs.size := by
        have e' : b = e ∨ b = it := by simpa using hb
        rcases e' with z | z
        · rw [z]; exact hel
        · rw [z]; exact hil
      rw [upd_ne (Nat.ne_of_lt hb')]
      exact (hf b hb).1
  done := by
    intro X hP hw hK hc i pins s σ H E I hf st hg
    subst hP hw hK
    obtain ⟨⟨old, he⟩, hit, hne, hea, hai⟩ := st
    obtain ⟨xs, hq, hx⟩ := hg
    obtain ⟨its, rv, p, hz⟩ := I.tuple hq
    obtain ⟨f0, f1, f2, f3, f4, f5⟩ := hf it (by simp)
    have hl := rv.length
    have D := Draws.tuple (prog := X.prog) (w := X.w) (A := X.A.in1) (show X.A.in1.handled = none from I.ok.hd hc) it a hai its.toArray
    have ei : i = its.toArray.size := by simp; omega
    exact wpAny_pyNext_enum_endD D he ⟨by rw [← ei]; exact hit, p⟩ fun h' eb => ⟨rfl, I.turned (t' := s.toks) (fun b o hb q => eb b o hb q) f0 f1 f3 f4 f5⟩
  self := fun A i s Q E st h => let ⟨⟨_, he⟩, _⟩ := st; wpAny_pyIter_enum he h
def iEnumT (K : PySem.W.Frag) (ta : TA) : TI := fun σ H R => ta σ H fun vs H1 => ∃ a xs, vs = [.ref a] ∧ SqT K H1 a xs ∧ R (IteT K a) H1
theorem pi_enumT0 {X : Cx} {e : Expr} {ta : TA} {p pos tpos : Pos} {elts : List Expr} {kk : Nat} (hg : Gl X "enumerate") (hm : X.mg "enumerate" = none) (ha : PA X [e] ta) (hs : starEach [e] X.env = [(false, eval e X.env)] := by rfl) :
    PI X (.Tuple elts kk tpos) (.Call (.Name "enumerate" p) [e] [] pos) (iEnumT X.K ta) := by
  refine ⟨fun pins s σ H R I h => ?_⟩
  refine Call_ (ld_blt I hg hm boot_enumerate (PyProof.Rows.callWith_type1 (thn (ha.run pos pins s σ H _ I h) fun us s1 ⟨vs, H1, I1, r1, q1⟩ => ?_) hs rfl))
  obtain ⟨a, xs, ex, hq, q⟩ := q1
  subst ex
  cases r1 with
  | cons r rr =>
    cases rr
    cases r
    obtain ⟨its, rv, p', hz⟩ := I1.tuple hq
    refine enum_tuple p' fun h' he hit hsz hk => wpAny_pyIter_enum he ?_
    have I2 : Inv X pins σ H1 { s1 with heap := h' } := I1.kept (t' := s1.toks) hk
    have hal : a < s1.heap.objs.size := by obtain ⟨o, ho, _⟩ := p'; exact Heap.lt_size ho
    refine ⟨s1.heap.objs.size + 1, [s1.heap.objs.size + 1, s1.heap.objs.size], _, _, H1, rfl, I2, turn_enumT a (s1.heap.objs.size + 1) s1.heap.objs.size, ⟨⟨.none, he⟩, hit, Nat.succ_ne_self _, Nat.ne_of_gt (Nat.lt_succ_of_lt hal), Nat.ne_of_lt hal⟩, fun b hb => ?_, q⟩
    have e' : b = s1.heap.objs.size + 1 ∨ b = s1.heap.objs.size := by simpa using hb
    have hle : s1.heap.objs.size ≤ b := by
      rcases e' with z | z
      · rw [z]; exact Nat.le_add_right _ _
      · rw [z]; exact Nat.le_refl _
    exact I1.fpOk hle (I1.hok.fresh hle)
theorem pi_enumT {X : Cx} {K : PySem.W.Frag} {e : Expr} {ta : TA} {p pos tpos : Pos} {elts : List Expr} {kk : Nat} (hg : Gl X "enumerate") (hm : X.mg "enumerate" = none) (ha : PA X [e] ta) (h : X.K = K := by rfl) (hs : starEach [e] X.env = [(false, eval e X.env)] := by rfl) :
    PI X (.Tuple elts kk tpos) (.Call (.Name "enumerate" p) [e] [] pos) (iEnumT K ta) := h ▸ pi_enumT0 hg hm ha hs
end Hw
/-! zip over a list, a tuple and a list. -/
namespace Hw
open PySem PySem.Spec PyProof.Rows L2
/-- the list at a, the tuple at b, the list at c as they stand at each turn, the items in new triples -/
def Itz3 (K : PySem.W.Frag) (a b c : Addr) : It :=
  ⟨fun i H => ∃ (xs ys zs : List V) (x y z : V), SqL K H a xs ∧ SqT K H b ys ∧ SqL K H c zs ∧ xs[i]? = some x ∧ ys[i]? = some y ∧ zs[i]? = some z,
    fun i H v H' => ∃ T x y z, v = .ref T ∧ H T = none ∧ H' = upd H T (.tup [x, y, z]) ∧ (∀ xs, SqL K H a xs → xs[i]? = some x) ∧ (∀ ys, SqT K H b ys → ys[i]? = some y) ∧ ∀ zs, SqL K H c zs → zs[i]? = some z,
    fun i H => ∃ xs ys zs : List V, SqL K H a xs ∧ SqT K H b ys ∧ SqL K H c zs ∧ xs.length = i ∧ ys.length = i ∧ zs.length = i⟩
theorem turn_zip3 {P : Program} {w : World} {K : PySem.W.Frag} {elts : List Expr} {kk : Nat} {tpos : Pos} {a b c z TI TO i1 i2 i3 : Addr} (S : ZipSep3 z TI TO i1 i2 i3 [i1, a] [i2, b] [i3, c]) (n1 : a ≠ i1) (n2 : b ≠ i2) (n3 : c ≠ i3) :
    Turn P w K (.Tuple elts kk tpos) (Itz3 K a b c) [z, TI, TO, i1, i2, i3] z (fun i h => IsZip h z TI TO .none ∧ IsTupOf3 h TI (.ref i1) (.ref i2) (.ref i3) ∧ (∃ x y u, IsTupOf3 h TO x y u) ∧ h.IsListIter i1 a i ∧ h.IsTupleIter i2 b i ∧ h.IsListIter i3 c i) where
  mem := by simp
  obj := fun i h st d hd => by
    obtain ⟨hz, hTI, ⟨x, y, u, hTO⟩, ⟨o1, e1, _, d1⟩, ⟨o2, e2, _, d2⟩, ⟨o3, e3, _, d3⟩⟩ := st
    have e' : d = z ∨ d = TI ∨ d = TO ∨ d = i1 ∨ d = i2 ∨ d = i3 := by simpa using hd
    rcases e' with q | q | q | q | q | q
    · rw [q]; exact ⟨_, hz, fun v q => nomatch q⟩
    · rw [q]; exact ⟨_, hTI, fun v q => nomatch q⟩
    · rw [q]; exact ⟨_, hTO, fun v q => nomatch q⟩
    · rw [q]; exact ⟨o1, e1, fun v q => by rw [d1] at q; cases q⟩
    · rw [q]; exact ⟨o2, e2, fun v q => by rw [d2] at q; cases q⟩
    · rw [q]; exact ⟨o3, e3, fun v q => by rw [d3] at q; cases q⟩
  keep := fun i h h' st k => by
    obtain ⟨hz, hTI, ⟨x, y, u, hTO⟩, h1, h2, h3⟩ := st
    exact ⟨k z (by simp) _ hz, k TI (by simp) _ hTI, ⟨x, y, u, k TO (by simp) _ hTO⟩, h1.at fun o q => k i1 (by simp) o q, h2.at fun o q => k i2 (by simp) o q, h3.at fun o q => k i3 (by simp) o q⟩
  item := by
    intro X hP hw hK hc i pins s σ H E I hf st hg
    subst hP hw hK
    obtain ⟨hz, hTI, ⟨x0, y0, u0, hTO⟩, h1, h2, h3⟩ := st
    obtain ⟨xs, ys, zs, x, y, zz, hqx, hqy, hqz, hx, hy, hzz⟩ := hg
    obtain ⟨its, rv, p, _⟩ := I.list hqx
    obtain ⟨its2, rv2, p2, _⟩ := I.tuple hqy
    obtain ⟨its3, rv3, p3, _⟩ := I.list hqz
    obtain ⟨u, hu, ru⟩ := rv.get hx
    obtain ⟨u2, hu2, ru2⟩ := rv2.get hy
    obtain ⟨u3, hu3, ru3⟩ := rv3.get hzz
    have hzl : z < s.heap.objs.size := Heap.lt_size hz
    have hh : X.A.in1.handled = none := I.ok.hd hc
    have D1 := Draws.list (prog := X.prog) (w := X.w) (A := X.A.in1) hh i1 a n1 its.toArray
    have D2 := Draws.tuple (prog := X.prog) (w := X.w) (A := X.A.in1) hh i2 b n2 its2.toArray
    have D3 := Draws.list (prog := X.prog) (w := X.w) (A := X.A.in1) hh i3 c n3 its3.toArray
    have l1 : i < its.toArray.size := by simpa using (List.getElem?_eq_some_iff.mp hu).1
    have l2 : i < its2.toArray.size := by simpa using (List.getElem?_eq_some_iff.mp hu2).1
    have l3 : i < its3.toArray.size := by simpa using (List.getElem?_eq_some_iff.mp hu3).1
    refine wpAny_pyNext_zipD3_item S D1 D2 D3 hz hTI hTO ⟨h1, p.isList⟩ ⟨h2, p2⟩ ⟨h3, p3.isList⟩ l1 l2 l3 fun v1 v2 v3 h' tk q1 q2 q3 z' TO' st1 st2 st3 hT hsz hk => ?_
    have e1 : v1 = u := by
      have q : its[i]? = some v1 := by simpa using q1
      rw [hu] at q
      exact (Option.some.inj q).symm
    have e2 : v2 = u2 := by
      have q : its2[i]? = some v2 := by simpa using q2
      rw [hu2] at q
      exact (Option.some.inj q).symm
    have e3 : v3 = u3 := by
      have q : its3[i]? = some v3 := by simpa using q3
      rw [hu3] at q
      exact (Option.some.inj q).symm
    subst e1 e2 e3
    refine ⟨_, rfl, wpAny_letOwnedTupleGo_zip (s := { s with heap := h', toks := tk }) z' fun h'' z'' sb => ?_⟩
    have hT2 : h''.get? s.heap.objs.size = some { cls := .type "tuple", data := .seq #[v1, v2, v3] } := (sb.2 _ (Nat.ne_of_gt hzl)).trans hT
    have new : ObjOk X.prog X.w (upd H s.heap.objs.size (.tup [x, y, zz])) h'' s.heap.objs.size (.tup [x, y, zz]) :=
      ⟨by show 3 ≤ sizeLine; decide, [v1, v2, v3], .cons ru (.cons ru2 (.cons ru3 .nil)), ⟨_, hT2, rfl, _, rfl⟩⟩
    have I1 : Inv X pins σ (upd H s.heap.objs.size (.tup [x, y, zz])) { s with heap := h'', toks := tk } :=
      I.turnedNew (t' := tk) (ch := [z, TI, TO, i1, i2, i3]) (fun d o hb q => (sb.2 d (fun q' => hb (by simp [q']))).trans (hk d o (fun q' => hb (by simp [q'])) (fun q' => hb (by simp [q'])) (fun q' => hb (by simp [q'])) (fun q' => hb (by simp [q'])) (fun q' => hb (by simp [q'])) q)) hf (Nat.le_refl _) new
    refine ⟨.ref s.heap.objs.size, _, I1, rfl, ⟨_, x, y, zz, rfl, I.hok.fresh (Nat.le_refl _), rfl, fun l hl => by rw [I.list_inj hl hqx]; exact hx, fun l hl => by rw [I.tuple_inj hl hqy]; exact hy, fun l hl => by rw [I.list_inj hl hqz]; exact hzz⟩, ⟨z'', ?_, ⟨v1, v2, v3, ?_⟩, ?_, ?_, ?_⟩, fun d hdm => ?_⟩
    · exact (sb.2 _ S.TIz).trans (hk _ _ S.TIz S.TITO S.TIi1 S.TIi2 S.TIi3 hTI)
    · exact (sb.2 _ S.TOz).trans TO'
    · exact st1.1.at fun o q => (sb.2 _ S.zi1.symm).trans q
    · exact st2.1.at fun o q => (sb.2 _ S.zi2.symm).trans q
    · exact st3.1.at fun o q => (sb.2 _ S.zi3.symm).trans q
    · have hlt : d < s.heap.objs.size := by
        have e' : d = z ∨ d = TI ∨ d = TO ∨ d = i1 ∨ d = i2 ∨ d = i3 := by simpa using hdm
        rcases e' with q | q | q | q | q | q
        · rw [q]; exact hzl
        · rw [q]; exact Heap.lt_size hTI
        · rw [q]; exact Heap.lt_size hTO
        · rw [q]; obtain ⟨_, e1, _⟩ := h1; exact Heap.lt_size e1
        · rw [q]; obtain ⟨_, e2, _⟩ := h2; exact Heap.lt_size e2
        · rw [q]; obtain ⟨_, e3, _⟩ := h3; exact Heap.lt_size e3
      rw [upd_ne (Nat.ne_of_lt hlt)]
      exact (hf d hdm).1
  done := by
    intro X hP hw hK hc i pins s σ H E I hf st hg
    subst hP hw hK
    obtain ⟨hz, hTI, ⟨x0, y0, u0, hTO⟩, h1, h2, h3⟩ := st
    obtain ⟨xs, ys, zs, hqx, hqy, hqz, l1, l2, l3⟩ := hg
    obtain ⟨its, rv, p, _⟩ := I.list hqx
    obtain ⟨its2, rv2, p2, _⟩ := I.tuple hqy
    obtain ⟨its3, rv3, p3, _⟩ := I.list hqz
    have hh : X.A.in1.handled = none := I.ok.hd hc
    have D1 := Draws.list (prog := X.prog) (w := X.w) (A := X.A.in1) hh i1 a n1 its.toArray
    have D2 := Draws.tuple (prog := X.prog) (w := X.w) (A := X.A.in1) hh i2 b n2 its2.toArray
    have D3 := Draws.list (prog := X.prog) (w := X.w) (A := X.A.in1) hh i3 c n3 its3.toArray
    have m1 := rv.length
    have m2 := rv2.length
    have m3 := rv3.length
    exact wpAny_pyNext_zipD3_end S D1 D2 D3 hz hTI hTO ⟨h1, p.isList⟩ ⟨h2, p2⟩ ⟨h3, p3.isList⟩ (by simp; omega) (by simp; omega) (by simp; omega) (.inl (by simp; omega)) fun h' tk hk => ⟨rfl, I.turnedL (t' := tk) (ch := [z, TI, TO, i1, i2, i3]) (fun d o hb q =>
      hk d o (fun q' => hb (by simp [q'])) (fun q' => hb (by simp [q'])) (fun q' => hb (by simp [q'])) (fun q' => hb (by simp [q'])) (fun q' => hb (by simp [q'])) q) hf⟩
  self := fun A i s Q E st h => wpAny_pyIter_zip st.1 h
def iZip3 (K : PySem.W.Frag) (ta : TA) : TI := fun σ H R => ta σ H fun vs H1 => ∃ a b c xs ys zs, vs = [.ref a, .ref b, .ref c] ∧ SqL K H1 a xs ∧ SqT K H1 b ys ∧ SqL K H1 c zs ∧ R (Itz3 K a b c) H1
theorem pi_zip30 {X : Cx} {e e2 e3 : Expr} {ta : TA} {p pos tpos : Pos} {elts : List Expr} {kk : Nat} (hg : Gl X "zip") (hm : X.mg "zip" = none) (ha : PA X [e, e2, e3] ta)
    (hs : starEach [e, e2, e3] X.env = (false, eval e X.env) :: starEach [e2, e3] X.env := by rfl) (hpl : (backTo pos (starEach [e2, e3] X.env)).any (·.1) = false := by rfl) :
    PI X (.Tuple elts kk tpos) (.Call (.Name "zip" p) [e, e2, e3] [] pos) (iZip3 X.K ta) := by
  refine ⟨fun pins s σ H R I h => ?_⟩
  refine Call_ (ld_blt I hg hm PyProof.Rows.boot_zip (PyProof.Rows.callWith_type1 (thn (ha.run pos pins s σ H _ I h) fun us s1 ⟨vs, H1, I1, r1, q1⟩ => ?_) hs hpl))
  obtain ⟨a, b, c, xs, ys, zs, ex, hqx, hqy, hqz, q⟩ := q1
  subst ex
  cases r1 with
  | cons r rr =>
    cases rr with
    | cons r' rr =>
      cases rr with
      | cons r'' rr =>
        cases rr
        cases r
        cases r'
        cases r''
        have fresh6 : ∀ d, d ∈ [s1.heap.objs.size + 5, s1.heap.objs.size + 3, s1.heap.objs.size + 4, s1.heap.objs.size, s1.heap.objs.size + 1, s1.heap.objs.size + 2] → FpOk X pins H1 d := fun d hdm => by
          have e' : d = s1.heap.objs.size + 5 ∨ d = s1.heap.objs.size + 3 ∨ d = s1.heap.objs.size + 4 ∨ d = s1.heap.objs.size ∨ d = s1.heap.objs.size + 1 ∨ d = s1.heap.objs.size + 2 := by simpa using hdm
          have hle : s1.heap.objs.size ≤ d := by
            rcases e' with z | z | z | z | z | z
            · rw [z]; exact Nat.le_add_right _ _
            · rw [z]; exact Nat.le_add_right _ _
            · rw [z]; exact Nat.le_add_right _ _
            · rw [z]; exact Nat.le_refl _
            · rw [z]; exact Nat.le_add_right _ _
            · rw [z]; exact Nat.le_add_right _ _
          exact I1.fpOk hle (I1.hok.fresh hle)
        obtain ⟨its, rv, p1, _⟩ := I1.list hqx
        obtain ⟨its2, rv2, p2, _⟩ := I1.tuple hqy
        obtain ⟨its3, rv3, p3, _⟩ := I1.list hqz
        have la : a < s1.heap.objs.size := p1.lt
        have lb : b < s1.heap.objs.size := by obtain ⟨o2, ho2, _⟩ := id p2; exact Heap.lt_size ho2
        have lc : c < s1.heap.objs.size := p3.lt
        refine zip_begins3 (begins_list a its.toArray) (begins_tuple b its2.toArray) (begins_list c its3.toArray) p1.isList p2 p3.isList fun h' hz hTI hTO h1 h2 h3 hsz hk => wpAny_pyIter_zip hz ?_
        have I2 : Inv X pins σ H1 { s1 with heap := h' } := I1.kept (t' := s1.toks) hk
        have S := zip_sep3 (N := s1.heap.objs.size) (fp1 := [a]) (fp2 := [b]) (fp3 := [c]) (fun d hd => by cases List.mem_singleton.mp hd; exact la) (fun d hd => by cases List.mem_singleton.mp hd; exact lb) (fun d hd => by cases List.mem_singleton.mp hd; exact lc)
        exact ⟨s1.heap.objs.size + 5, [s1.heap.objs.size + 5, s1.heap.objs.size + 3, s1.heap.objs.size + 4, s1.heap.objs.size, s1.heap.objs.size + 1, s1.heap.objs.size + 2], _, _, H1, rfl, I2, turn_zip3 S (Nat.ne_of_lt la) (Nat.ne_of_lt (Nat.lt_succ_of_lt lb)) (Nat.ne_of_lt (Nat.lt_succ_of_lt (Nat.lt_succ_of_lt lc))), ⟨hz, hTI, ⟨_, _, _, hTO⟩, ⟨_, h1, rfl, rfl⟩, ⟨_, h2, rfl, rfl⟩, ⟨_, h3, rfl, rfl⟩⟩, fresh6, q⟩
theorem pi_zip3 {X : Cx} {K : PySem.W.Frag} {e e2 e3 : Expr} {ta : TA} {p pos tpos : Pos} {elts : List Expr} {kk : Nat} (hg : Gl X "zip") (hm : X.mg "zip" = none) (ha : PA X [e, e2, e3] ta) (h : X.K = K := by rfl)
    (hs : starEach [e, e2, e3] X.env = (false, eval e X.env) :: starEach [e2, e3] X.env := by rfl) (hpl : (backTo pos (starEach [e2, e3] X.env)).any (·.1) = false := by rfl) :
    PI X (.Tuple elts kk tpos) (.Call (.Name "zip" p) [e, e2, e3] [] pos) (iZip3 K ta) := h ▸ pi_zip30 hg hm ha hs hpl
end Hw
/-! More readings: pairs in loops, instances that are made, own classes, pop, truth of a list. -/
namespace Hw
open PySem PySem.Spec PyProof.Rows L2
section
variable {K : PySem.W.Frag} {σ : L2.St} {H : Hp} {Q : VK} {QT : Bool → Hp → Prop} {ta tb tc te : TE} {t u : TT} {x y z v : V} {D : Ends} {ts tu : TS} {tl : TA}
/-! loops over pairs -/
def OverE (K : PySem.W.Frag) (vs : List V) (H : Hp) (R : Addr → Prop) : Prop := ∃ a xs, vs = [.ref a] ∧ SqT K H a xs ∧ R a
theorem r_enumT {R : It → Hp → Prop} (h : tl σ H fun vs H1 => OverE K vs H1 fun a => R (IteT K a) H1) : iEnumT K tl σ H R := h
theorem r_overE {a : Addr} {xs : List V} {R : Addr → Prop} (h : SqT K H a xs) (q : R a) : OverE K [.ref a] H R := ⟨a, xs, rfl, h, q⟩
def ZipA (K : PySem.W.Frag) (R : It → Hp → Prop) (vs : List V) (H1 : Hp) : Prop := ∃ a b xs ys, vs = [.ref a, .ref b] ∧ ((SqL K H1 a xs ∧ SqL K H1 b ys ∧ R (Itz K a b) H1) ∨ (SqT K H1 a xs ∧ SqT K H1 b ys ∧ R (RZ.ItzT K a b) H1))
theorem r_zipA {R : It → Hp → Prop} (h : tl σ H fun vs H1 => ZipA K R vs H1) : RZ.iZipA K tl σ H R := h
theorem r_zipT {R : It → Hp → Prop} {a b : Addr} {xs ys : List V} (h : SqT K H a xs) (h2 : SqT K H b ys) (q : R (RZ.ItzT K a b) H) : ZipA K R [.ref a, .ref b] H := ⟨a, b, xs, ys, rfl, .inr ⟨h, h2, q⟩⟩
def OverZ3 (K : PySem.W.Frag) (vs : List V) (H : Hp) (R : Addr → Addr → Addr → Prop) : Prop := ∃ a b c xs ys zs, vs = [.ref a, .ref b, .ref c] ∧ SqL K H a xs ∧ SqT K H b ys ∧ SqL K H c zs ∧ R a b c
theorem r_zip3 {R : It → Hp → Prop} (h : tl σ H fun vs H1 => OverZ3 K vs H1 fun a b c => R (Itz3 K a b c) H1) : iZip3 K tl σ H R := h
theorem r_overZ3 {a b c : Addr} {xs ys zs : List V} {R : Addr → Addr → Addr → Prop} (h : SqL K H a xs) (h2 : SqT K H b ys) (h3 : SqL K H c zs) (q : R a b c) : OverZ3 K [.ref a, .ref b, .ref c] H R := ⟨a, b, c, xs, ys, zs, rfl, h, h2, h3, q⟩
theorem forE {a : Addr} {xs : List V} {g : TG} (Pv : Nat → L2.St → Hp → Prop) (h0 : Pv 0 σ H) (hG : ∀ i σ H, i ≤ xs.length → Pv i σ H → SqT K H a xs)
    (hs : ∀ i x T σ H H1, xs[i]? = some x → Pv i σ H → H T = none → H1 T = some (.tup [.int (i : Int), x]) → Keep [] H H1 → g (.ref T) σ H1 fun σ2 H2 => ts { D with nx := Pv (i + 1), ct := Pv (i + 1), bk := D.nx } σ2 H2)
    (hd : ∀ σ H, Pv xs.length σ H → D.nx σ H) : ForIt (IteT K a) g ts D σ H := by
  refine ⟨fun i m σ H => m = xs.length - i ∧ i ≤ xs.length ∧ Pv i σ H, ⟨xs.length, rfl, Nat.zero_le _, h0⟩, ?_⟩
  rintro i m σ H ⟨rfl, hi, p⟩
  have qx := hG i σ H hi p
  by_cases hlt : i < xs.length
  · have hx : xs[i]? = some xs[i] := List.getElem?_eq_getElem hlt
    refine .inr ⟨⟨xs, _, qx, hx⟩, Pv (i + 1), fun σ' H' p' => ⟨xs.length - (i + 1), by omega, rfl, hlt, p'⟩, fun v H' y => ?_⟩
    obtain ⟨T, x', rfl, hT, rfl, f1⟩ := y
    exact hs i x' T σ H _ (f1 xs qx) p hT upd_same (Keep.new hT)
  · have e : i = xs.length := by omega
    subst e
    exact .inl ⟨⟨xs, qx, rfl⟩, hd σ H p⟩
theorem forZT {a b : Addr} {xs ys : List V} {g : TG} (hl : xs.length = ys.length) (Pv : Nat → L2.St → Hp → Prop) (h0 : Pv 0 σ H) (hG : ∀ i σ H, Pv i σ H → SqT K H a xs ∧ SqT K H b ys)
    (hs : ∀ i x y T σ H H1, xs[i]? = some x → ys[i]? = some y → Pv i σ H → H T = none → H1 T = some (.tup [x, y]) → Keep [] H H1 → g (.ref T) σ H1 fun σ2 H2 => ts { D with nx := Pv (i + 1), ct := Pv (i + 1), bk := D.nx } σ2 H2)
    (hd : ∀ σ H, Pv xs.length σ H → D.nx σ H) : ForIt (RZ.ItzT K a b) g ts D σ H :=
  RZ.for_zipT hl Pv h0 hG (fun i x y T σ H hx hy p hT => hs i x y T σ H _ hx hy p hT upd_same (Keep.new hT)) hd
theorem forZ3 {a b c : Addr} {xs ys zs : List V} {g : TG} (hl : xs.length = ys.length) (hl2 : xs.length = zs.length) (Pv : Nat → L2.St → Hp → Prop) (h0 : Pv 0 σ H) (hG : ∀ i σ H, Pv i σ H → SqL K H a xs ∧ SqT K H b ys ∧ SqL K H c zs)
    (hs : ∀ i x y z T σ H H1, xs[i]? = some x → ys[i]? = some y → zs[i]? = some z → Pv i σ H → H T = none → H1 T = some (.tup [x, y, z]) → Keep [] H H1 → g (.ref T) σ H1 fun σ2 H2 => ts { D with nx := Pv (i + 1), ct := Pv (i + 1), bk := D.nx } σ2 H2)
    (hd : ∀ σ H, Pv xs.length σ H → D.nx σ H) : ForIt (Itz3 K a b c) g ts D σ H := by
  refine ⟨fun i m σ H => m = xs.length - i ∧ i ≤ xs.length ∧ Pv i σ H, ⟨xs.length, rfl, Nat.zero_le _, h0⟩, ?_⟩
  rintro i m σ H ⟨rfl, hi, p⟩
  obtain ⟨qx, qy, qz⟩ := hG i σ H p
  by_cases hlt : i < xs.length
  · have hx : xs[i]? = some xs[i] := List.getElem?_eq_getElem hlt
    have hlt2 : i < ys.length := by omega
    have hlt3 : i < zs.length := by omega
    refine .inr ⟨⟨xs, ys, zs, _, _, _, qx, qy, qz, hx, List.getElem?_eq_getElem hlt2, List.getElem?_eq_getElem hlt3⟩, Pv (i + 1), fun σ' H' p' => ⟨xs.length - (i + 1), by omega, rfl, hlt, p'⟩, fun v H' y => ?_⟩
    obtain ⟨T, x', y', z', rfl, hT, rfl, f1, f2, f3⟩ := y
    exact hs i x' y' z' T σ H _ (f1 xs qx) (f2 ys qy) (f3 zs qz) p hT upd_same (Keep.new hT)
  · have e : i = xs.length := by omega
    subst e
    exact .inl ⟨⟨xs, ys, zs, qx, qy, qz, rfl, hl.symm, hl2.symm⟩, hd σ H p⟩
/-! instances -/
/-- an own class that is made: what its __init__ promises of the new object -/
structure Maker (P : Program) (w : World) (K : PySem.W.Frag) (mg : Str → Option Value) (base : Heap) (x : Str) (C : Addr) (k : Nat) (ps : List Str) (sp : Sp) : Prop where
  ex : ∃ (f : Addr) (fd : FuncData), Mk K C f ∧ FnOk P w K mg base CX0 k f fd ps sp ∧ mg x = some (.ref C) ∧ Binds K fd ps []
/-- a class, as it stands -/
structure ClassAt (K : PySem.W.Frag) (mg : Str → Option Value) (x qual : Str) (C : Addr) (st : Stmt) (ps : List Str) : Prop where
  ex : ∃ (f : Addr) (fd : FuncData), Mk K C f ∧ Fun K "__init__" qual st f fd ∧ mg x = some (.ref C) ∧ Binds K fd ps []
theorem ClassAt.ok {P : Program} {w : World} {mg : Str → Option Value} {base : Heap} {x qual : Str} {C : Addr} {st : Stmt} {N ps : List Str} {k : Nat} {sp : Sp} (D : ClassAt K mg x qual C st ps) (S : FnScope N ps (defScope st)) (len : ∀ vs H Q E, sp vs H Q E → vs.length = ps.length)
    (hbody : ∀ (f : Addr) (cdv : Value) (A : Around) (outer : List Env) (s : Shared) (H : Hp) (vs : List V) (Q : VK) (E : XK), Room k (A.deeper (envOfC qual (defScope st) s.heap.objs.size f cdv)) → sp vs H Q E →
      ∃ t, PSs (cxOf CX0 P w K mg base N qual (defScope st) f cdv A outer s H E).nox (defBody st) t ∧ t { nx := fun _ H' => Q .non H', rt := Q } (start N vs) H) : Maker P w K mg base x C (k + 1) ps sp := by
  obtain ⟨f, fd, M, F, m, b⟩ := D.ex
  exact ⟨f, fd, M, F.ok S len fun cdv A outer s H vs Q E hr h => hbody f cdv A outer s H vs Q E hr h, m, b⟩
theorem pmake {X : Cx} {k : Nat} {ps : List Str} {sp : Sp} {x : Str} {C : Addr} {p pos : Pos} {e : Expr} {es : List Expr} {t : TA} (M : Maker X.prog X.w X.K X.mg X.base x C k ps sp) (hr : Room (k + 1) X.A) (hg : Gl X x) (ha : PA X (e :: es) t)
    (hd : (x == ("__debug__" : Str)) = false := by decide) (h1 : starEach (e :: es) X.env = (false, eval e X.env) :: starEach es X.env := by rfl)
    (h2 : ((backTo pos (starEach es X.env)).any fun x => x.1) = false := by rfl) : PE X (.Call (.Name x p) (e :: es) [] pos) (tMake C sp [] E0 t) := by
  obtain ⟨f, fd, M, F, m, b⟩ := M.ex
  exact pe_make M F hr hg m b .nil pass0 ha hd h1 h2
/-- the new object is handed to its __init__ -/
def Made (C : Addr) (sp : Sp) (vs : List V) (H : Hp) (Q : VK) : Prop := ∀ x dx, H x = none → H dx = none → dx ≠ x → sp (.ref x :: (vs ++ [])) (upd (upd H dx (.own x)) x (.ins C dx [])) (fun v H2 => v = .non ∧ Q (.ref x) H2) E0
theorem r_make {C : Addr} {sp : Sp} (h : tl σ H fun vs H1 => Made C sp vs H1 Q) : tMake C sp [] E0 tl σ H Q := h
theorem made {C : Addr} {sp : Sp} {vs : List V} (h : ∀ x dx H1, H x = none → H dx = none → dx ≠ x → H1 x = some (.ins C dx []) → (∃ o, H1 dx = some (.own o)) → Keep [] H H1 → sp (.ref x :: vs) H1 (fun v H2 => v = .non ∧ Q (.ref x) H2) E0) : Made C sp vs H Q := fun x dx hx hd n => by
  rw [List.append_nil]
  refine h x dx _ hx hd n upd_same ⟨x, by rw [upd_ne n]; exact upd_same⟩ fun a o e _ => ?_
  rw [upd_ne (ne_of_none e hx), upd_ne (ne_of_none e hd)]
  exact e
/-- what isinstance asks of the class of the instance -/
structure TyC (K : PySem.W.Frag) (C : Addr) : Prop where
  cl : Cls K C
  ha : PySem.W.findIn K (.ref C) "__class__" = some (some (.builtin "object.__class__"))
  hn : PySem.W.specialIn K (.builtin "object.__class__") "__get__" = some (some (.builtin "getset_descriptor.__get__"))
  htk : PySem.W.takesIn K (.builtin "object.__class__") = some true
  hm : PySem.W.mroIn K C (.type "object") = some true
theorem r_isiC {a C dx C2 : Addr} {fs : List (Str × V)} {b : Bool} (h : H a = some (.ins C dx fs)) (c : TyC K C) (e : PySem.W.kitOne K (.ref C) (.ref C2) = some b) (q : Q (.bl b) H) : rIsi K [.ref a, .ref C2] H Q :=
  ⟨.ref a, .ref C2, .ref C, .ref C2, b, rfl, .own C2, .base (.ins h c.cl c.ha c.hn c.htk c.hm), e, q⟩
/-! pop -/
theorem pePop {X : Cx} {o : Expr} {to : TE} {apos cpos : Pos} (ho : PE X o to) (h : X.K = K := by rfl)
    (h1 : attributeBase o "pop" X.env (eval o X.env) = eval o X.env := by rfl) (h3 : (apos.endLine == cpos.line) = true := by rfl) :
    PE X (.Call (.Attribute o "pop" apos) [] [] cpos) (tBM0 K "list" rPop to) := h ▸ pe_bm0 PySem.F.plainAttrs_list PySem.F.slot_list_pop PySem.F.type_list_pop mt_pop ho h1 h3
theorem r_popM {r : V → List V → Hp → VK → Prop} (h : ta σ H fun x H1 => IsL K x H1 (r x [] H1 Q)) : tBM0 K "list" r ta σ H Q := h
theorem r_pop {l : Addr} {xs : List V} (h : H l = some (.lst (xs ++ [y]))) (q : ∀ H1, H1 l = some (.lst xs) → Keep [l] H H1 → Q y H1) : rPop (.ref l) [] H Q :=
  ⟨l, xs ++ [y], y, rfl, rfl, h, by simp, by rw [List.dropLast_concat]; exact q _ upd_same (Keep.put (List.mem_singleton.mpr rfl))⟩
/-! truth of a list -/
def TruL (K : PySem.W.Frag) (x : V) (H : Hp) (R : Bool → Prop) : Prop := ∃ k, TruV K x H k ∧ R k
theorem ptTru {X : Cx} {a : Expr} {ta : TE} (ha : PE X a ta) (h : X.K = K := by rfl) (he : ∀ whole, isTrue a X.env whole = (do let v ← whole; standAt a.pos; holding [v] (truthy v)) := by exact fun _ => rfl) :
    PT X a (fun σ H Q => ta σ H fun x H' => ∃ k, TruV K x H' k ∧ Q k H') := h ▸ pt_truth ha he
def tTru (K : PySem.W.Frag) (ta : TE) : TT := fun σ H QT => ta σ H fun x H' => TruL K x H' fun k => QT k H'
theorem ptTruL {X : Cx} {a : Expr} {ta : TE} (ha : PE X a ta) (h : X.K = K := by rfl) (he : ∀ whole, isTrue a X.env whole = (do let v ← whole; standAt a.pos; holding [v] (truthy v)) := by exact fun _ => rfl) :
    PT X a (tTru K ta) := ptTru ha h he
theorem r_tru (h : ta σ H fun x H' => TruL K x H' fun k => QT k H') : tTru K ta σ H QT := h
theorem r_truL {a : Addr} {xs : List V} {R : Bool → Prop} (h : SqL K H a xs) (q : R (!xs.isEmpty)) : TruL K (.ref a) H R := ⟨_, .inl ⟨xs, h, rfl⟩, q⟩
/-! a field, made greater -/
theorem psAug {X : Cx} {o value : Expr} {f : Str} {pos tpos : Pos} {ta tv : TE} (ha : PE X o ta) (hv : PE X value tv) (h : X.K = K := by rfl) : PS X (.AugAssign (.Attribute o f tpos) .Add value pos) (sFldAug K ta tv rAdd f) := h ▸ ps_fldaug ha hv in_add
theorem r_aug {f : Str} {a C dx : Addr} {fs : List (Str × V)} {i j : Int} {tv : TE} (hx : ∀ R : V → Hp → Prop, R (.ref a) H → ta σ H R) (hv : ∀ R : V → Hp → Prop, R (.int j) H → tv σ H R) (h : H a = some (.ins C dx fs)) (c : Cls K C) (n : NoAttr K C f) (e : fs.lookup f = some (.int i)) (z : fs.length < 1000)
    (q : ∀ H1, H1 a = some (.ins C dx (putF f (.int (i + j)) fs)) → Keep [a] H H1 → D.nx σ H1) : sFldAug K ta tv rAdd f D σ H :=
  hx _ ⟨a, C, dx, fs, .int i, rfl, h, c, n, e, hv _ ⟨i, j, rfl, rfl, dx, fs, h, z, q _ upd_same (Keep.put (List.mem_singleton.mpr rfl))⟩⟩
end
end Hw
/-! zip over three tuples. -/
namespace Hw
open PySem PySem.Spec PyProof.Rows L2
/-- the tuples at a, b, c as they stand at each turn, the items in new triples -/
def ItzT3 (K : PySem.W.Frag) (a b c : Addr) : It :=
  ⟨fun i H => ∃ (xs ys zs : List V) (x y z : V), SqT K H a xs ∧ SqT K H b ys ∧ SqT K H c zs ∧ xs[i]? = some x ∧ ys[i]? = some y ∧ zs[i]? = some z,
    fun i H v H' => ∃ T x y z, v = .ref T ∧ H T = none ∧ H' = upd H T (.tup [x, y, z]) ∧ (∀ xs, SqT K H a xs → xs[i]? = some x) ∧ (∀ ys, SqT K H b ys → ys[i]? = some y) ∧ ∀ zs, SqT K H c zs → zs[i]? = some z,
    fun i H => ∃ xs ys zs : List V, SqT K H a xs ∧ SqT K H b ys ∧ SqT K H c zs ∧ xs.length = i ∧ ys.length = i ∧ zs.length = i⟩
theorem turn_zipT3 {P : Program} {w : World} {K : PySem.W.Frag} {elts : List Expr} {kk : Nat} {tpos : Pos} {a b c z TI TO i1 i2 i3 : Addr} (S : ZipSep3 z TI TO i1 i2 i3 [i1, a] [i2, b] [i3, c]) (n1 : a ≠ i1) (n2 : b ≠ i2) (n3 : c ≠ i3) :
    Turn P w K (.Tuple elts kk tpos) (ItzT3 K a b c) [z, TI, TO, i1, i2, i3] z (fun i h => IsZip h z TI TO .none ∧ IsTupOf3 h TI (.ref i1) (.ref i2) (.ref i3) ∧ (∃ x y u, IsTupOf3 h TO x y u) ∧ h.IsTupleIter i1 a i ∧ h.IsTupleIter i2 b i ∧ h.IsTupleIter i3 c i) where
  mem := by simp
  obj := fun i h st d hd => by
    obtain ⟨hz, hTI, ⟨x, y, u, hTO⟩, ⟨o1, e1, _, d1⟩, ⟨o2, e2, _, d2⟩, ⟨o3, e3, _, d3⟩⟩ := st
    have e' : d = z ∨ d = TI ∨ d = TO ∨ d = i1 ∨ d = i2 ∨ d = i3 := by simpa using hd
    rcases e' with q | q | q | q | q | q
    · rw [q]; exact ⟨_, hz, fun v q => nomatch q⟩
    · rw [q]; exact ⟨_, hTI, fun v q => nomatch q⟩
    · rw [q]; exact ⟨_, hTO, fun v q => nomatch q⟩
    · rw [q]; exact ⟨o1, e1, fun v q => by rw [d1] at q; cases q⟩
    · rw [q]; exact ⟨o2, e2, fun v q => by rw [d2] at q; cases q⟩
    · rw [q]; exact ⟨o3, e3, fun v q => by rw [d3] at q; cases q⟩
  keep := fun i h h' st k => by
    obtain ⟨hz, hTI, ⟨x, y, u, hTO⟩, h1, h2, h3⟩ := st
    exact ⟨k z (by simp) _ hz, k TI (by simp) _ hTI, ⟨x, y, u, k TO (by simp) _ hTO⟩, h1.at fun o q => k i1 (by simp) o q, h2.at fun o q => k i2 (by simp) o q, h3.at fun o q => k i3 (by simp) o q⟩
  item := by
    intro X hP hw hK hc i pins s σ H E I hf st hg
    subst hP hw hK
    obtain ⟨hz, hTI, ⟨x0, y0, u0, hTO⟩, h1, h2, h3⟩ := st
    obtain ⟨xs, ys, zs, x, y, zz, hqx, hqy, hqz, hx, hy, hzz⟩ := hg
    obtain ⟨its, rv, p, _⟩ := I.tuple hqx
    obtain ⟨its2, rv2, p2, _⟩ := I.tuple hqy
    obtain ⟨its3, rv3, p3, _⟩ := I.tuple hqz
    obtain ⟨u, hu, ru⟩ := rv.get hx
    obtain ⟨u2, hu2, ru2⟩ := rv2.get hy
    obtain ⟨u3, hu3, ru3⟩ := rv3.get hzz
    have hzl : z < s.heap.objs.size := Heap.lt_size hz
    have hh : X.A.in1.handled = none := I.ok.hd hc
    have D1 := Draws.tuple (prog := X.prog) (w := X.w) (A := X.A.in1) hh i1 a n1 its.toArray
    have D2 := Draws.tuple (prog := X.prog) (w := X.w) (A := X.A.in1) hh i2 b n2 its2.toArray
    have D3 := Draws.tuple (prog := X.prog) (w := X.w) (A := X.A.in1) hh i3 c n3 its3.toArray
    have l1 : i < its.toArray.size := by simpa using (List.getElem?_eq_some_iff.mp hu).1
    have l2 : i < its2.toArray.size := by simpa using (List.getElem?_eq_some_iff.mp hu2).1
    have l3 : i < its3.toArray.size := by simpa using (List.getElem?_eq_some_iff.mp hu3).1
    refine wpAny_pyNext_zipD3_item S D1 D2 D3 hz hTI hTO ⟨h1, p⟩ ⟨h2, p2⟩ ⟨h3, p3⟩ l1 l2 l3 fun v1 v2 v3 h' tk q1 q2 q3 z' TO' st1 st2 st3 hT hsz hk => ?_
    have e1 : v1 = u := by
      have q : its[i]? = some v1 := by simpa using q1
      rw [hu] at q
      exact (Option.some.inj q).symm
    have e2 : v2 = u2 := by
      have q : its2[i]? = some v2 := by simpa using q2
      rw [hu2] at q
      exact (Option.some.inj q).symm
    have e3 : v3 = u3 := by
      have q : its3[i]? = some v3 := by simpa using q3
      rw [hu3] at q
      exact (Option.some.inj q).symm
    subst e1 e2 e3
    refine ⟨_, rfl, wpAny_letOwnedTupleGo_zip (s := { s with heap := h', toks := tk }) z' fun h'' z'' sb => ?_⟩
    have hT2 : h''.get? s.heap.objs.size = some { cls := .type "tuple", data := .seq #[v1, v2, v3] } := (sb.2 _ (Nat.ne_of_gt hzl)).trans hT
    have new : ObjOk X.prog X.w (upd H s.heap.objs.size (.tup [x, y, zz])) h'' s.heap.objs.size (.tup [x, y, zz]) :=
      ⟨by show 3 ≤ sizeLine; decide, [v1, v2, v3], .cons ru (.cons ru2 (.cons ru3 .nil)), ⟨_, hT2, rfl, _, rfl⟩⟩
    have I1 : Inv X pins σ (upd H s.heap.objs.size (.tup [x, y, zz])) { s with heap := h'', toks := tk } :=
      I.turnedNew (t' := tk) (ch := [z, TI, TO, i1, i2, i3]) (fun d o hb q => (sb.2 d (fun q' => hb (by simp [q']))).trans (hk d o (fun q' => hb (by simp [q'])) (fun q' => hb (by simp [q'])) (fun q' => hb (by simp [q'])) (fun q' => hb (by simp [q'])) (fun q' => hb (by simp [q'])) q)) hf (Nat.le_refl _) new
    refine ⟨.ref s.heap.objs.size, _, I1, rfl, ⟨_, x, y, zz, rfl, I.hok.fresh (Nat.le_refl _), rfl, fun l hl => by rw [I.tuple_inj hl hqx]; exact hx, fun l hl => by rw [I.tuple_inj hl hqy]; exact hy, fun l hl => by rw [I.tuple_inj hl hqz]; exact hzz⟩, ⟨z'', ?_, ⟨v1, v2, v3, ?_⟩, ?_, ?_, ?_⟩, fun d hdm => ?_⟩
    · exact (sb.2 _ S.TIz).trans (hk _ _ S.TIz S.TITO S.TIi1 S.TIi2 S.TIi3 hTI)
    · exact (sb.2 _ S.TOz).trans TO'
    · exact st1.1.at fun o q => (sb.2 _ S.zi1.symm).trans q
    · exact st2.1.at fun o q => (sb.2 _ S.zi2.symm).trans q
    · exact st3.1.at fun o q => (sb.2 _ S.zi3.symm).trans q
    · have hlt : d < s.heap.objs.size := by
        have e' : d = z ∨ d = TI ∨ d = TO ∨ d = i1 ∨ d = i2 ∨ d = i3 := by simpa using hdm
        rcases e' with q | q | q | q | q | q
        · rw [q]; exact hzl
        · rw [q]; exact Heap.lt_size hTI
        · rw [q]; exact Heap.lt_size hTO
        · rw [q]; obtain ⟨_, e1, _⟩ := h1; exact Heap.lt_size e1
        · rw [q]; obtain ⟨_, e2, _⟩ := h2; exact Heap.lt_size e2
        · rw [q]; obtain ⟨_, e3, _⟩ := h3; exact Heap.lt_size e3
      rw [upd_ne (Nat.ne_of_lt hlt)]
      exact (hf d hdm).1
  done := by
    intro X hP hw hK hc i pins s σ H E I hf st hg
    subst hP hw hK
    obtain ⟨hz, hTI, ⟨x0, y0, u0, hTO⟩, h1, h2, h3⟩ := st
    obtain ⟨xs, ys, zs, hqx, hqy, hqz, l1, l2, l3⟩ := hg
    obtain ⟨its, rv, p, _⟩ := I.tuple hqx
    obtain ⟨its2, rv2, p2, _⟩ := I.tuple hqy
    obtain ⟨its3, rv3, p3, _⟩ := I.tuple hqz
    have hh : X.A.in1.handled = none := I.ok.hd hc
    have D1 := Draws.tuple (prog := X.prog) (w := X.w) (A := X.A.in1) hh i1 a n1 its.toArray
    have D2 := Draws.tuple (prog := X.prog) (w := X.w) (A := X.A.in1) hh i2 b n2 its2.toArray
    have D3 := Draws.tuple (prog := X.prog) (w := X.w) (A := X.A.in1) hh i3 c n3 its3.toArray
    have m1 := rv.length
    have m2 := rv2.length
    have m3 := rv3.length
    exact wpAny_pyNext_zipD3_end S D1 D2 D3 hz hTI hTO ⟨h1, p⟩ ⟨h2, p2⟩ ⟨h3, p3⟩ (by simp; omega) (by simp; omega) (by simp; omega) (.inl (by simp; omega)) fun h' tk hk => ⟨rfl, I.turnedL (t' := tk) (ch := [z, TI, TO, i1, i2, i3]) (fun d o hb q =>
      hk d o (fun q' => hb (by simp [q'])) (fun q' => hb (by simp [q'])) (fun q' => hb (by simp [q'])) (fun q' => hb (by simp [q'])) (fun q' => hb (by simp [q'])) q) hf⟩
  self := fun A i s Q E st h => wpAny_pyIter_zip st.1 h
def iZipT3 (K : PySem.W.Frag) (ta : TA) : TI := fun σ H R => ta σ H fun vs H1 => ∃ a b c xs ys zs, vs = [.ref a, .ref b, .ref c] ∧ SqT K H1 a xs ∧ SqT K H1 b ys ∧ SqT K H1 c zs ∧ R (ItzT3 K a b c) H1
theorem pi_zipT30 {X : Cx} {e e2 e3 : Expr} {ta : TA} {p pos tpos : Pos} {elts : List Expr} {kk : Nat} (hg : Gl X "zip") (hm : X.mg "zip" = none) (ha : PA X [e, e2, e3] ta)
    (hs : starEach [e, e2, e3] X.env = (false, eval e X.env) :: starEach [e2, e3] X.env := by rfl) (hpl : (backTo pos (starEach [e2, e3] X.env)).any (·.1) = false := by rfl) :
    PI X (.Tuple elts kk tpos) (.Call (.Name "zip" p) [e, e2, e3] [] pos) (iZipT3 X.K ta) := by
  refine ⟨fun pins s σ H R I h => ?_⟩
  refine Call_ (ld_blt I hg hm PyProof.Rows.boot_zip (PyProof.Rows.callWith_type1 (thn (ha.run pos pins s σ H _ I h) fun us s1 ⟨vs, H1, I1, r1, q1⟩ => ?_) hs hpl))
  obtain ⟨a, b, c, xs, ys, zs, ex, hqx, hqy, hqz, q⟩ := q1
  subst ex
  cases r1 with
  | cons r rr =>
    cases rr with
    | cons r' rr =>
      cases rr with
      | cons r'' rr =>
        cases rr
        cases r
        cases r'
        cases r''
        have fresh6 : ∀ d, d ∈ [s1.heap.objs.size + 5, s1.heap.objs.size + 3, s1.heap.objs.size + 4, s1.heap.objs.size, s1.heap.objs.size + 1, s1.heap.objs.size + 2] → FpOk X pins H1 d := fun d hdm => by
          have e' : d = s1.heap.objs.size + 5 ∨ d = s1.heap.objs.size + 3 ∨ d = s1.heap.objs.size + 4 ∨ d = s1.heap.objs.size ∨ d = s1.heap.objs.size + 1 ∨ d = s1.heap.objs.size + 2 := by simpa using hdm
          have hle : s1.heap.objs.size ≤ d := by
            rcases e' with z | z | z | z | z | z
            · rw [z]; exact Nat.le_add_right _ _
            · rw [z]; exact Nat.le_add_right _ _
            · rw [z]; exact Nat.le_add_right _ _
            · rw [z]; exact Nat.le_refl _
            · rw [z]; exact Nat.le_add_right _ _
            · rw [z]; exact Nat.le_add_right _ _
          exact I1.fpOk hle (I1.hok.fresh hle)
        obtain ⟨its, rv, p1, _⟩ := I1.tuple hqx
        obtain ⟨its2, rv2, p2, _⟩ := I1.tuple hqy
        obtain ⟨its3, rv3, p3, _⟩ := I1.tuple hqz
        have la : a < s1.heap.objs.size := by obtain ⟨o2, ho2, _⟩ := id p1; exact Heap.lt_size ho2
        have lb : b < s1.heap.objs.size := by obtain ⟨o2, ho2, _⟩ := id p2; exact Heap.lt_size ho2
        have lc : c < s1.heap.objs.size := by obtain ⟨o2, ho2, _⟩ := id p3; exact Heap.lt_size ho2
        refine zip_begins3 (begins_tuple a its.toArray) (begins_tuple b its2.toArray) (begins_tuple c its3.toArray) p1 p2 p3 fun h' hz hTI hTO h1 h2 h3 hsz hk => wpAny_pyIter_zip hz ?_
        have I2 : Inv X pins σ H1 { s1 with heap := h' } := I1.kept (t' := s1.toks) hk
        have S := zip_sep3 (N := s1.heap.objs.size) (fp1 := [a]) (fp2 := [b]) (fp3 := [c]) (fun d hd => by cases List.mem_singleton.mp hd; exact la) (fun d hd => by cases List.mem_singleton.mp hd; exact lb) (fun d hd => by cases List.mem_singleton.mp hd; exact lc)
        exact ⟨s1.heap.objs.size + 5, [s1.heap.objs.size + 5, s1.heap.objs.size + 3, s1.heap.objs.size + 4, s1.heap.objs.size, s1.heap.objs.size + 1, s1.heap.objs.size + 2], _, _, H1, rfl, I2, turn_zipT3 S (Nat.ne_of_lt la) (Nat.ne_of_lt (Nat.lt_succ_of_lt lb)) (Nat.ne_of_lt (Nat.lt_succ_of_lt (Nat.lt_succ_of_lt lc))), ⟨hz, hTI, ⟨_, _, _, hTO⟩, ⟨_, h1, rfl, rfl⟩, ⟨_, h2, rfl, rfl⟩, ⟨_, h3, rfl, rfl⟩⟩, fresh6, q⟩
theorem pi_zipT3 {X : Cx} {K : PySem.W.Frag} {e e2 e3 : Expr} {ta : TA} {p pos tpos : Pos} {elts : List Expr} {kk : Nat} (hg : Gl X "zip") (hm : X.mg "zip" = none) (ha : PA X [e, e2, e3] ta) (h : X.K = K := by rfl)
    (hs : starEach [e, e2, e3] X.env = (false, eval e X.env) :: starEach [e2, e3] X.env := by rfl) (hpl : (backTo pos (starEach [e2, e3] X.env)).any (·.1) = false := by rfl) :
    PI X (.Tuple elts kk tpos) (.Call (.Name "zip" p) [e, e2, e3] [] pos) (iZipT3 K ta) := h ▸ pi_zipT30 hg hm ha hs hpl
end Hw
/-! More readings: in lists of data, lists repeated, ranges from the end, zip of three tuples. -/
namespace Hw
open PySem PySem.Spec PyProof.Rows L2
/-- more of the built-in names -/
structure Blt2 (mg : Str → Option Value) : Prop where
  reversed : mg "reversed" = none
theorem units65 {k : Nat} {A : Around} (r : Room k A) : A.units + 65 < cLine := by have := r.un; omega
theorem opInD {X : Cx} {K : PySem.W.Frag} (hu : X.A.units + 65 < cLine) (h : X.K = K := by rfl) : OpR X (compareOp .In) (rInD K) := h ▸ op_inD hu
theorem opRepT2 {X : Cx} {K : PySem.W.Frag} (h : X.K = K := by rfl) : OpR X (binaryOp .Mult) (rRepT K) := h ▸ op_repT
section
variable {K : PySem.W.Frag} {σ : L2.St} {H : Hp} {Q : VK} {QT : Bool → Hp → Prop} {ta tb tc te : TE} {t u : TT} {x y z v : V} {D : Ends} {ts tu : TS} {tl : TA}
theorem r_inD {d : PyData} {ds : List PyData} (h1 : Dp K H x d) (h2 : Dp K H y (.list ds)) (s1 : SeqAt.shaped d = true) (s2 : SeqAt.shaped (.list ds) = true) (q : Q (.bl (ds.any fun z => PyData.eqv z d)) H) : rInD K x y H Q := ⟨d, ds, h1, h2, s1, s2, q⟩
theorem flat_one {n : Nat} {v : V} : (List.replicate n [v]).flatten = List.replicate n v := by
  induction n with
  | zero => rfl
  | succ n ih => rw [List.replicate_succ, List.flatten_cons, ih]; rfl
/-- a list of one item, repeated -/
theorem r_rep1 {l : Addr} {n : Nat} {v : V} (h : H l = some (.lst [v])) (z : n ≤ 100000) (q : New (.lst (List.replicate n v)) 0 H Q) : rRep (.ref l) (.int (n : Int)) H Q := by
  refine ⟨l, n, [v], rfl, rfl, h, by omega, by omega, by rw [Int.toNat_natCast]; exact small (by show 1 * n ≤ _; omega), fun p hp => ?_⟩
  rw [Int.toNat_natCast, flat_one]
  exact q.2 p hp
def RevOf (x : V) (S : Int → Prop) : Prop := ∃ n : Int, x = .int n ∧ (-(2 ^ 62) ≤ (0 : Int) ∧ (0 : Int) < 2 ^ 62 ∧ -(2 ^ 62) ≤ n ∧ n < 2 ^ 62 ∧ S n)
theorem r_revR {R : It → Hp → Prop} (h : ta σ H fun x H1 => RevOf x fun n => R (Itc (0 + (((n - 0).toNat : Nat) : Int) - 1) (-1) (n - 0).toNat) H1) : iRevR (tRg1 ta) σ H R := h
theorem r_revOf {m : Nat} {S : Int → Prop} (h : m ≤ 100000) (q : S m) : RevOf (.int (m : Int)) S := ⟨m, rfl, by omega, by omega, by omega, by omega, q⟩
theorem forRev {m : Nat} {g : TG} (Pv : Nat → L2.St → Hp → Prop) (h0 : Pv 0 σ H) (hs : ∀ i σ H, i < m → Pv i σ H → g (.int ((m - 1 - i : Nat) : Int)) σ H fun σ2 H2 => ts { D with nx := Pv (i + 1), ct := Pv (i + 1), bk := D.nx } σ2 H2)
    (hd : ∀ σ H, Pv m σ H → D.nx σ H) : ForIt (Itc (0 + ((((m : Int) - 0).toNat : Nat) : Int) - 1) (-1) ((m : Int) - 0).toNat) g ts D σ H := by
  have e2 : ((m : Int) - 0).toNat = m := by omega
  rw [e2]
  exact for_it (walk_rangeC (lo := 0 + ((m : Nat) : Int) - 1) (c := -1) (n := m)) Pv h0 (fun _ _ _ _ _ => trivial) (fun i x σ H H' hi p y => by
    obtain ⟨rfl, rfl⟩ := y
    have e : (0 + ((m : Nat) : Int) - 1 + (i : Nat) * (-1)) = ((m - 1 - i : Nat) : Int) := by omega
    show g (.int (0 + ((m : Nat) : Int) - 1 + (i : Nat) * (-1))) σ H' _
    rw [e]
    exact hs i σ H' hi p) hd
def OverZT3 (K : PySem.W.Frag) (vs : List V) (H : Hp) (R : Addr → Addr → Addr → Prop) : Prop := ∃ a b c xs ys zs, vs = [.ref a, .ref b, .ref c] ∧ SqT K H a xs ∧ SqT K H b ys ∧ SqT K H c zs ∧ R a b c
theorem r_zipT3 {R : It → Hp → Prop} (h : tl σ H fun vs H1 => OverZT3 K vs H1 fun a b c => R (ItzT3 K a b c) H1) : iZipT3 K tl σ H R := h
theorem r_overZT3 {a b c : Addr} {xs ys zs : List V} {R : Addr → Addr → Addr → Prop} (h : SqT K H a xs) (h2 : SqT K H b ys) (h3 : SqT K H c zs) (q : R a b c) : OverZT3 K [.ref a, .ref b, .ref c] H R := ⟨a, b, c, xs, ys, zs, rfl, h, h2, h3, q⟩
theorem forZT3 {a b c : Addr} {xs ys zs : List V} {g : TG} (hl : xs.length = ys.length) (hl2 : xs.length = zs.length) (Pv : Nat → L2.St → Hp → Prop) (h0 : Pv 0 σ H) (hG : ∀ i σ H, Pv i σ H → SqT K H a xs ∧ SqT K H b ys ∧ SqT K H c zs)
    (hs : ∀ i x y z T σ H H1, xs[i]? = some x → ys[i]? = some y → zs[i]? = some z → Pv i σ H → H T = none → H1 T = some (.tup [x, y, z]) → Keep [] H H1 → g (.ref T) σ H1 fun σ2 H2 => ts { D with nx := Pv (i + 1), ct := Pv (i + 1), bk := D.nx } σ2 H2)
    (hd : ∀ σ H, Pv xs.length σ H → D.nx σ H) : ForIt (ItzT3 K a b c) g ts D σ H := by
  refine ⟨fun i m σ H => m = xs.length - i ∧ i ≤ xs.length ∧ Pv i σ H, ⟨xs.length, rfl, Nat.zero_le _, h0⟩, ?_⟩
  rintro i m σ H ⟨rfl, hi, p⟩
  obtain ⟨qx, qy, qz⟩ := hG i σ H p
  by_cases hlt : i < xs.length
  · have hx : xs[i]? = some xs[i] := List.getElem?_eq_getElem hlt
    have hlt2 : i < ys.length := by omega
    have hlt3 : i < zs.length := by omega
    refine .inr ⟨⟨xs, ys, zs, _, _, _, qx, qy, qz, hx, List.getElem?_eq_getElem hlt2, List.getElem?_eq_getElem hlt3⟩, Pv (i + 1), fun σ' H' p' => ⟨xs.length - (i + 1), by omega, rfl, hlt, p'⟩, fun v H' y => ?_⟩
    obtain ⟨T, x', y', z', rfl, hT, rfl, f1, f2, f3⟩ := y
    exact hs i x' y' z' T σ H _ (f1 xs qx) (f2 ys qy) (f3 zs qz) p hT upd_same (Keep.new hT)
  · have e : i = xs.length := by omega
    subst e
    exact .inl ⟨⟨xs, ys, zs, qx, qy, qz, rfl, hl.symm, hl2.symm⟩, hd σ H p⟩
/-! words -/
theorem rps_strs {H : Hp} : ∀ {ws : List Str} {vs : List V}, Rps K H vs (ws.map PyData.str) → vs = ws.map V.str
  | [], _, h => by cases h; rfl
  | x :: ws, _, h => by
    cases h with
    | cons h1 h2 =>
      cases h1
      rw [rps_strs h2]
      rfl
end
end Hw
/-! Fields of instances. -/
namespace Hw
open PySem PySem.Spec PyProof.Rows L2
theorem putF_nil {f : Str} {v : V} : putF f v [] = [(f, v)] := rfl
theorem putF_hit {f : Str} {v x : V} {r : List (Str × V)} : putF f v ((f, x) :: r) = (f, v) :: r := by
  show (if f = f then (f, v) :: r else _) = _
  rw [if_pos rfl]
theorem putF_skip {f g : Str} {v x : V} {r : List (Str × V)} (h : ¬ g = f) : putF f v ((g, x) :: r) = (g, x) :: putF f v r := by
  show (if g = f then (g, v) :: r else (g, x) :: putF f v r) = _
  rw [if_neg h]
theorem lk_hit {f : Str} {v : V} {r : List (Str × V)} : ((f, v) :: r).lookup f = some v := by
  unfold List.lookup
  rw [show (f == f) = true from beq_self_eq_true f]
theorem lk_skip {f g : Str} {x : V} {r : List (Str × V)} (h : ¬ g = f) : ((f, x) :: r).lookup g = r.lookup g := by
  show (match g == f with | true => some x | false => r.lookup g) = _
  rw [show (g == f) = false from beq_eq_false_iff_ne.mpr h]
/-- a cell, a frame, a want, a run -/
def cellF (n : Int) (l : Addr) : List (Str × V) := [("number", .int n), ("loans", .ref l)]
def frameF (o h r : Addr) : List (Str × V) := [("owns", .ref o), ("handed", .ref h), ("roads", .ref r)]
def wantF (t f : V) : List (Str × V) := [("thing", t), ("frame", f)]
def runF (vp vw : V) (c s : Addr) (m : Int) (x : Bool) : List (Str × V) := [("program", vp), ("ways", vw), ("commons", .ref c), ("said", .ref s), ("lent", .int m), ("mixed", .bl x)]
section
variable {n m : Int} {l o h r c s : Addr} {t f vp vw : V} {x : Bool}
theorem cell_number : (cellF n l).lookup ("number" : Str) = some (.int n) := lk_hit
theorem cell_loans : (cellF n l).lookup ("loans" : Str) = some (.ref l) := (lk_skip (by decide +kernel)).trans lk_hit
theorem cell_put {k : Int} : putF "number" (.int k) (cellF n l) = cellF k l := putF_hit
theorem frame_owns : (frameF o h r).lookup ("owns" : Str) = some (.ref o) := lk_hit
theorem frame_handed : (frameF o h r).lookup ("handed" : Str) = some (.ref h) := (lk_skip (by decide +kernel)).trans lk_hit
theorem frame_roads : (frameF o h r).lookup ("roads" : Str) = some (.ref r) := (lk_skip (by decide +kernel)).trans ((lk_skip (by decide +kernel)).trans lk_hit)
theorem want_thing : (wantF t f).lookup ("thing" : Str) = some t := lk_hit
theorem want_frame : (wantF t f).lookup ("frame" : Str) = some f := (lk_skip (by decide +kernel)).trans lk_hit
theorem run_program : (runF vp vw c s m x).lookup ("program" : Str) = some vp := lk_hit
theorem run_ways : (runF vp vw c s m x).lookup ("ways" : Str) = some vw := (lk_skip (by decide +kernel)).trans lk_hit
theorem run_commons : (runF vp vw c s m x).lookup ("commons" : Str) = some (.ref c) := (lk_skip (by decide +kernel)).trans ((lk_skip (by decide +kernel)).trans lk_hit)
theorem run_said : (runF vp vw c s m x).lookup ("said" : Str) = some (.ref s) := (lk_skip (by decide +kernel)).trans ((lk_skip (by decide +kernel)).trans ((lk_skip (by decide +kernel)).trans lk_hit))
theorem run_lent : (runF vp vw c s m x).lookup ("lent" : Str) = some (.int m) := (lk_skip (by decide +kernel)).trans ((lk_skip (by decide +kernel)).trans ((lk_skip (by decide +kernel)).trans ((lk_skip (by decide +kernel)).trans lk_hit)))
theorem run_mixed : (runF vp vw c s m x).lookup ("mixed" : Str) = some (.bl x) := (lk_skip (by decide +kernel)).trans ((lk_skip (by decide +kernel)).trans ((lk_skip (by decide +kernel)).trans ((lk_skip (by decide +kernel)).trans ((lk_skip (by decide +kernel)).trans lk_hit))))
theorem run_put_lent {k : Int} : putF "lent" (.int k) (runF vp vw c s m x) = runF vp vw c s k x := by
  unfold runF
  rw [putF_skip (by decide +kernel), putF_skip (by decide +kernel), putF_skip (by decide +kernel), putF_skip (by decide +kernel), putF_hit]
theorem run_put_mixed {k : Bool} : putF "mixed" (.bl k) (runF vp vw c s m x) = runF vp vw c s m k := by
  unfold runF
  rw [putF_skip (by decide +kernel), putF_skip (by decide +kernel), putF_skip (by decide +kernel), putF_skip (by decide +kernel), putF_skip (by decide +kernel), putF_hit]
end
/-- the program's own classes -/
structure Own (K : PySem.W.Frag) (mg : Str → Option Value) (cC cF cW cR : Addr) : Prop where
  tC : TyC K cC
  tW : TyC K cW
  clF : Cls K cF
  clR : Cls K cR
  notW : PySem.W.kitOne K (.ref cC) (.ref cW) = some false
  isW : PySem.W.kitOne K (.ref cW) (.ref cW) = some true
  Want : mg "Want" = some (.ref cW)
  number : NoAttr K cC "number"
  loans : NoAttr K cC "loans"
  owns : NoAttr K cF "owns"
  handed : NoAttr K cF "handed"
  roads : NoAttr K cF "roads"
  thing : NoAttr K cW "thing"
  frame : NoAttr K cW "frame"
  program : NoAttr K cR "program"
  ways : NoAttr K cR "ways"
  commons : NoAttr K cR "commons"
  said : NoAttr K cR "said"
  lent : NoAttr K cR "lent"
  mixed : NoAttr K cR "mixed"
end Hw
/-! How the program's run lies in the heap. -/
namespace Hw
open PySem PySem.Spec PyProof.Rows L2
structure Kl where
  C : Addr
  F : Addr
  W : Addr
  R : Addr
structure Rn where
  r : Addr
  lc : Addr
  ls : Addr
  vp : V
  vw : V
def flat (cs : List (Addr × Addr)) : List Addr := cs.flatMap fun c => [c.1, c.2]
theorem flat_app {a b : List (Addr × Addr)} : flat (a ++ b) = flat a ++ flat b := List.flatMap_append
theorem mem_flat1 {cs : List (Addr × Addr)} {i : Nat} {c : Addr × Addr} (h : cs[i]? = some c) : c.1 ∈ flat cs := List.mem_flatMap.mpr ⟨c, List.mem_of_getElem? h, by simp⟩
theorem mem_flat2 {cs : List (Addr × Addr)} {i : Nat} {c : Addr × Addr} (h : cs[i]? = some c) : c.2 ∈ flat cs := List.mem_flatMap.mpr ⟨c, List.mem_of_getElem? h, by simp⟩
theorem mem_flat {cs : List (Addr × Addr)} {x : Addr} (h : x ∈ flat cs) : ∃ (i : Nat) (c : Addr × Addr), cs[i]? = some c ∧ (x = c.1 ∨ x = c.2) := by
  obtain ⟨c, hc, hx⟩ := List.mem_flatMap.mp h
  obtain ⟨i, hi⟩ := List.mem_iff_getElem?.mp hc
  exact ⟨i, c, hi, by simpa using hx⟩
/-- the addresses of different cells are different -/
theorem flat_ne : ∀ {cs : List (Addr × Addr)} {i j : Nat} {c d : Addr × Addr}, (flat cs).Nodup → cs[i]? = some c → cs[j]? = some d → i ≠ j → c.1 ≠ d.1 ∧ c.2 ≠ d.2 ∧ c.1 ≠ d.2 ∧ c.2 ≠ d.1
  | [], i, j, c, d, _, e, _, _ => by simp at e
  | x :: r, i, j, c, d, nd, e1, e2, n => by
    have nd' : (x.1 :: x.2 :: flat r).Nodup := nd
    obtain ⟨n1, nd2⟩ := List.nodup_cons.mp nd'
    obtain ⟨n2, nd3⟩ := List.nodup_cons.mp nd2
    cases i with
    | zero =>
      cases j with
      | zero => exact absurd rfl n
      | succ j =>
        have e1' : x = c := by simpa using e1
        have e2' : r[j]? = some d := by simpa using e2
        subst e1'
        have m1 := mem_flat1 e2'
        have m2 := mem_flat2 e2'
        exact ⟨fun z => n1 (by rw [z]; exact List.mem_cons_of_mem _ m1), fun z => n2 (by rw [z]; exact m2), fun z => n1 (by rw [z]; exact List.mem_cons_of_mem _ m2), fun z => n2 (by rw [z]; exact m1)⟩
    | succ i =>
      cases j with
      | zero =>
        have e2' : x = d := by simpa using e2
        have e1' : r[i]? = some c := by simpa using e1
        subst e2'
        have m1 := mem_flat1 e1'
        have m2 := mem_flat2 e1'
        exact ⟨fun z => n1 (by rw [← z]; exact List.mem_cons_of_mem _ m1), fun z => n2 (by rw [← z]; exact m2), fun z => n2 (by rw [← z]; exact m1), fun z => n1 (by rw [← z]; exact List.mem_cons_of_mem _ m2)⟩
      | succ j =>
        exact flat_ne nd3 (by simpa using e1) (by simpa using e2) fun z => n (by rw [z])
def trk (R : Rn) (cs : List (Addr × Addr)) : List Addr := R.r :: R.ls :: flat cs
/-- the run: its numbers by the cells cs, which are lent as lo tells -/
structure PSt (K : PySem.W.Frag) (H : Hp) (kl : Kl) (R : Rn) (cs : List (Addr × Addr)) (S : LS) (lo : Nat → List Nat) : Prop where
  run : ∃ dx, H R.r = some (.ins kl.R dx (runF R.vp R.vw R.lc R.ls (S.many : Int) S.mixed))
  com : H R.lc = some (.lst ((cs.take 3).map fun c => V.ref c.1))
  sd : H R.ls = some (.lst (nums S.said))
  len : cs.length = S.at_.length
  cell : ∀ (i : Nat) (c : Addr × Addr), cs[i]? = some c → ∃ (dx : Addr) (n : Nat) (L : List Nat), S.at_[i]? = some n ∧ H c.1 = some (.ins kl.C dx (cellF (n : Int) c.2)) ∧ H c.2 = some (.lst (nums L)) ∧ lo i = L.map (· + 1)
  nd : (R.lc :: trk R cs).Nodup
  out : ∀ i, cs.length ≤ i → lo i = []
/-- as the law's run has it -/
abbrev PS (K : PySem.W.Frag) (H : Hp) (kl : Kl) (R : Rn) (cs : List (Addr × Addr)) (S : LS) : Prop := PSt K H kl R cs S (lentOf S.lent)
section
variable {K : PySem.W.Frag} {H H1 : Hp} {kl : Kl} {R : Rn} {cs : List (Addr × Addr)} {S : LS} {lo : Nat → List Nat}
theorem PSt.lcM (g : PSt K H kl R cs S lo) : R.lc ∉ trk R cs := (List.nodup_cons.mp g.nd).1
theorem PSt.nd' (g : PSt K H kl R cs S lo) : (trk R cs).Nodup := (List.nodup_cons.mp g.nd).2
theorem PSt.ndf (g : PSt K H kl R cs S lo) : (flat cs).Nodup := (List.nodup_cons.mp (List.nodup_cons.mp g.nd').2).2
theorem PSt.rs (g : PSt K H kl R cs S lo) : R.r ≠ R.ls := fun z => (List.nodup_cons.mp g.nd').1 (by rw [z]; exact List.mem_cons_self)
theorem PSt.rf (g : PSt K H kl R cs S lo) : R.r ∉ flat cs := fun z => (List.nodup_cons.mp g.nd').1 (List.mem_cons_of_mem _ z)
theorem PSt.sf (g : PSt K H kl R cs S lo) : R.ls ∉ flat cs := (List.nodup_cons.mp (List.nodup_cons.mp g.nd').2).1
theorem PSt.lo_ (g : PSt K H kl R cs S lo) : Lo H (trk R cs) := fun x hx => by
  rcases List.mem_cons.mp hx with rfl | hx
  · obtain ⟨dx, e⟩ := g.run
    exact .inr (.inr ⟨_, _, _, e⟩)
  rcases List.mem_cons.mp hx with rfl | hx
  · exact .inl ⟨_, g.sd⟩
  obtain ⟨i, c, hc, hx⟩ := mem_flat hx
  obtain ⟨dx, n, L, _, h1, h2, _⟩ := g.cell i c hc
  rcases hx with rfl | rfl
  · exact .inr (.inr ⟨_, _, _, h1⟩)
  · exact .inl ⟨_, h2⟩
theorem PSt.al (g : PSt K H kl R cs S lo) : ∀ x ∈ trk R cs, H x ≠ none := fun x hx => by
  rcases g.lo_ x hx with ⟨_, h⟩ | ⟨_, h⟩ | ⟨_, _, _, h⟩ <;> (rw [h]; exact fun z => nomatch z)
theorem PSt.ts (g : PSt K H kl R cs S lo) (k : Keep (trk R cs) H H1) : Tst H H1 := k.ts g.lo_
theorem sub_r : ∀ x ∈ [R.r], x ∈ trk R cs := fun x hx => by cases List.mem_singleton.mp hx; exact List.mem_cons_self
theorem PSt.kr (k : Keep [R.r] H H1) : Keep (trk R cs) H H1 := k.mono sub_r
theorem k0 {M : List Addr} (k : Keep [] H H1) : Keep M H H1 := k.mono fun _ z => nomatch z
theorem PSt.keep0 (g : PSt K H kl R cs S lo) (k : Keep [] H H1) : PSt K H1 kl R cs S lo := by
  refine ⟨?_, k _ _ g.com (by simp), k _ _ g.sd (by simp), g.len, fun i c hc => ?_, g.nd, g.out⟩
  · obtain ⟨dx, e⟩ := g.run
    exact ⟨dx, k _ _ e (by simp)⟩
  · obtain ⟨dx, n, L, h1, h2, h3, h4⟩ := g.cell i c hc
    exact ⟨dx, n, L, h1, k _ _ h2 (by simp), k _ _ h3 (by simp), h4⟩
theorem PSt.keepN {M : List Addr} (g : PSt K H kl R cs S lo) (k : Keep M H H1) (n : ∀ a ∈ R.lc :: trk R cs, a ∉ M) : PSt K H1 kl R cs S lo := by
  have nf : ∀ x ∈ flat cs, x ∉ M := fun x hx => n x (List.mem_cons_of_mem _ (List.mem_cons_of_mem _ (List.mem_cons_of_mem _ hx)))
  refine ⟨?_, k _ _ g.com (n _ List.mem_cons_self), k _ _ g.sd (n _ (List.mem_cons_of_mem _ (List.mem_cons_of_mem _ List.mem_cons_self))), g.len, fun i c hc => ?_, g.nd, g.out⟩
  · obtain ⟨dx, e⟩ := g.run
    exact ⟨dx, k _ _ e (n _ (List.mem_cons_of_mem _ List.mem_cons_self))⟩
  · obtain ⟨dx, m, L, h1, h2, h3, h4⟩ := g.cell i c hc
    exact ⟨dx, m, L, h1, k _ _ h2 (nf _ (mem_flat1 hc)), k _ _ h3 (nf _ (mem_flat2 hc)), h4⟩
/-- what is lent stands in lo alone -/
theorem PSt.cast {S2 : LS} (g : PSt K H kl R cs S lo) (e1 : S2.at_ = S.at_) (e2 : S2.said = S.said) (e3 : S2.many = S.many) (e4 : S2.mixed = S.mixed) : PSt K H kl R cs S2 lo :=
  ⟨by rw [e3, e4]; exact g.run, g.com, by rw [e2]; exact g.sd, by rw [e1]; exact g.len, by rw [e1]; exact g.cell, g.nd, g.out⟩
theorem PSt.all (g : PSt K H kl R cs S lo) : ∀ x ∈ R.lc :: trk R cs, H x ≠ none := fun x hx => by
  rcases List.mem_cons.mp hx with rfl | hx
  · rw [g.com]; exact fun z => nomatch z
  · exact g.al x hx
/-- the run's own fields were changed -/
theorem PSt.fields {dx : Addr} {m : Nat} {b : Bool} (g : PSt K H kl R cs S lo) (k : Keep [R.r] H H1) (h : H1 R.r = some (.ins kl.R dx (runF R.vp R.vw R.lc R.ls (m : Int) b))) : PSt K H1 kl R cs { S with many := m, mixed := b } lo := by
  have nr : ∀ x, x ∈ flat cs → x ∉ [R.r] := fun x hx z => by
    cases List.mem_singleton.mp z
    exact g.rf hx
  refine ⟨⟨dx, h⟩, k _ _ g.com fun z => ?_, k _ _ g.sd fun z => ?_, g.len, fun i c hc => ?_, g.nd, g.out⟩
  · have := List.mem_singleton.mp z
    exact g.lcM (by rw [this]; exact List.mem_cons_self)
  · exact g.rs (List.mem_singleton.mp z).symm
  · obtain ⟨dx, n, L, h1, h2, h3, h4⟩ := g.cell i c hc
    exact ⟨dx, n, L, h1, k _ _ h2 (nr _ (mem_flat1 hc)), k _ _ h3 (nr _ (mem_flat2 hc)), h4⟩
/-- what was said -/
theorem PSt.say {l : List Nat} (g : PSt K H kl R cs S lo) (k : Keep [R.ls] H H1) (h : H1 R.ls = some (.lst (nums l))) : PSt K H1 kl R cs { S with said := l } lo := by
  have nr : ∀ x, x ∈ flat cs → x ∉ [R.ls] := fun x hx z => by
    cases List.mem_singleton.mp z
    exact g.sf hx
  obtain ⟨dx, e⟩ := g.run
  refine ⟨⟨dx, k _ _ e fun z => g.rs (List.mem_singleton.mp z)⟩, k _ _ g.com fun z => ?_, h, g.len, fun i c hc => ?_, g.nd, g.out⟩
  · have := List.mem_singleton.mp z
    exact g.lcM (by rw [this]; exact List.mem_cons_of_mem _ List.mem_cons_self)
  · obtain ⟨dx, n, L, h1, h2, h3, h4⟩ := g.cell i c hc
    exact ⟨dx, n, L, h1, k _ _ h2 (nr _ (mem_flat1 hc)), k _ _ h3 (nr _ (mem_flat2 hc)), h4⟩
/-- a cell has another number -/
theorem PSt.put {p v : Nat} {c : Addr × Addr} {dx : Addr} (g : PSt K H kl R cs S lo) (hc : cs[p]? = some c) (k : Keep [c.1] H H1) (h : H1 c.1 = some (.ins kl.C dx (cellF (v : Int) c.2))) : PSt K H1 kl R cs { S with at_ := S.at_.set p v } lo := by
  have m := mem_flat1 hc
  obtain ⟨dr, e⟩ := g.run
  have pl : p < S.at_.length := by
    rw [← g.len]
    exact (List.getElem?_eq_some_iff.mp hc).1
  have ne : ∀ x, x ≠ c.1 → x ∉ [c.1] := fun x hx z => hx (List.mem_singleton.mp z)
  refine ⟨⟨dr, k _ _ e (ne _ fun z => g.rf (z ▸ m))⟩, k _ _ g.com (ne _ fun z => g.lcM (by rw [z]; exact List.mem_cons_of_mem _ (List.mem_cons_of_mem _ m))), k _ _ g.sd (ne _ fun z => g.sf (z ▸ m)), by rw [g.len]; exact (List.length_set ..).symm, fun i d hd => ?_, g.nd, g.out⟩
  obtain ⟨dx', n, L, h1, h2, h3, h4⟩ := g.cell i d hd
  by_cases ci : i = p
  · subst ci
    rw [hc] at hd
    cases hd
    refine ⟨dx, v, L, ?_, h, k _ _ h3 (ne _ fun z => ?_), h4⟩
    · show (S.at_.set i v)[i]? = some v
      rw [List.getElem?_set, if_pos rfl, if_pos pl]
    · have : c.1 ≠ c.2 := fun z => by rw [z, h3] at h2; cases h2
      exact this z.symm
  · obtain ⟨n1, n2, n3, n4⟩ := flat_ne g.ndf hd hc ci
    refine ⟨dx', n, L, ?_, k _ _ h2 (ne _ n1), k _ _ h3 (ne _ n4), h4⟩
    show (S.at_.set p v)[i]? = some n
    rw [List.getElem?_set, if_neg (Ne.symm ci)]
    exact h1
/-- a cell has other loans -/
theorem PSt.loan {p : Nat} {c : Addr × Addr} {L' : List Nat} {lo' : Nat → List Nat} (g : PSt K H kl R cs S lo) (hc : cs[p]? = some c) (k : Keep [c.2] H H1) (h : H1 c.2 = some (.lst (nums L'))) (e1 : lo' p = L'.map (· + 1)) (e2 : ∀ i, i ≠ p → lo' i = lo i) : PSt K H1 kl R cs S lo' := by
  have m := mem_flat2 hc
  obtain ⟨dr, e⟩ := g.run
  have ne : ∀ x, x ≠ c.2 → x ∉ [c.2] := fun x hx z => hx (List.mem_singleton.mp z)
  refine ⟨⟨dr, k _ _ e (ne _ fun z => g.rf (z ▸ m))⟩, k _ _ g.com (ne _ fun z => g.lcM (by rw [z]; exact List.mem_cons_of_mem _ (List.mem_cons_of_mem _ m))), k _ _ g.sd (ne _ fun z => g.sf (z ▸ m)), g.len, fun i d hd => ?_, g.nd, fun i hi => (e2 i fun z => by rw [z] at hi; have := (List.getElem?_eq_some_iff.mp hc).1; omega).trans (g.out i hi)⟩
  obtain ⟨dx', n, L, h1, h2, h3, h4⟩ := g.cell i d hd
  by_cases ci : i = p
  · subst ci
    rw [hc] at hd
    cases hd
    refine ⟨dx', n, L', h1, k _ _ h2 (ne _ fun z => ?_), h, e1⟩
    rw [z, h3] at h2
    cases h2
  · obtain ⟨n1, n2, n3, n4⟩ := flat_ne g.ndf hd hc ci
    exact ⟨dx', n, L, h1, k _ _ h2 (ne _ n3), k _ _ h3 (ne _ n2), (e2 i ci).trans h4⟩
/-- new cells, which aren't lent -/
theorem PSt.more {ds : List (Addr × Addr)} {vs : List Nat} (g : PSt K H kl R cs S lo) (l3 : 3 ≤ cs.length) (hl : ds.length = vs.length) (hn : (flat ds).Nodup) (hd : ∀ x ∈ flat ds, x ≠ R.lc ∧ x ∉ trk R cs)
    (h : ∀ (i : Nat) (c : Addr × Addr), ds[i]? = some c → ∃ dx n, vs[i]? = some n ∧ H c.1 = some (.ins kl.C dx (cellF (n : Int) c.2)) ∧ H c.2 = some (.lst []))   : PSt K H kl R (cs ++ ds) { S with at_ := S.at_ ++ vs } lo := by
  refine ⟨g.run, by rw [List.take_append_of_le_length l3]; exact g.com, g.sd, by rw [List.length_append, g.len, hl]; exact (List.length_append ..).symm, fun i c hc => ?_, ?_, fun i hi => g.out i (by rw [List.length_append] at hi; omega)⟩
  · by_cases ci : i < cs.length
    · rw [List.getElem?_append_left ci] at hc
      obtain ⟨dx', n, L, h1, h2, h3, h4⟩ := g.cell i c hc
      exact ⟨dx', n, L, by show (S.at_ ++ vs)[i]? = _; rw [List.getElem?_append_left (by rw [← g.len]; exact ci)]; exact h1, h2, h3, h4⟩
    · rw [List.getElem?_append_right (by omega)] at hc
      obtain ⟨dx, n, h1, h2, h3⟩ := h _ c hc
      exact ⟨dx, n, [], by show (S.at_ ++ vs)[i]? = _; rw [List.getElem?_append_right (by rw [← g.len]; omega), ← g.len]; exact h1, h2, h3, by rw [g.out i (by omega)]; rfl⟩
  · have e : R.lc :: trk R (cs ++ ds) = (R.lc :: trk R cs) ++ flat ds := by
      unfold trk
      rw [flat_app]
      rfl
    rw [e]
    refine List.nodup_append.mpr ⟨g.nd, hn, fun a ha b hb z => ?_⟩
    obtain ⟨h1, h2⟩ := hd b hb
    subst z
    rcases List.mem_cons.mp ha with q | q
    · exact h1 q
    · exact h2 q
end
/-! ### frames -/
section
variable (K : PySem.W.Frag) (H : Hp) (kl : Kl) (M : List Addr) (cs : List (Addr × Addr))
mutual
def PFr : Fr → V → Prop
  | .mk os hs => fun v => ∃ (a dx o h d : Addr) (zs xs ys : List V), v = .ref a ∧ H a = some (.ins kl.F dx (frameF o h d)) ∧ a ∉ M ∧ H o = some (.lst zs) ∧ o ∉ M ∧ (∀ (k p : Nat), os[k]? = some p → ∃ c, cs[p]? = some c ∧ zs[k]? = some (.ref c.1)) ∧
    H h = some (.lst xs) ∧ h ∉ M ∧ H d = some (.lst ys) ∧ d ∉ M ∧ PHds hs xs ys
def PHd : Hd → V → V → Prop
  | .road p ws => fun x y => ∃ (c : Addr × Addr) (t : Addr) (L : List Nat), cs[p]? = some c ∧ x = .ref c.1 ∧ y = .ref t ∧ SqT K H t (nums L) ∧ ws = L.map (· + 1)
  | .want t f => fun x _ => ∃ (a dx : Addr) (vt vf : V), x = .ref a ∧ H a = some (.ins kl.W dx (wantF vt vf)) ∧ a ∉ M ∧ Rp K H vt t.enc ∧ PFr f vf
def PHds : Hds → List V → List V → Prop
  | .nil => fun xs ys => xs = [] ∧ ys = []
  | .cons h r => fun xs ys => ∃ x xr y yr, xs = x :: xr ∧ ys = y :: yr ∧ PHd h x y ∧ PHds r xr yr
end
end
section
variable {K : PySem.W.Frag} {H H1 : Hp} {kl : Kl} {M M' : List Addr} {cs cs' : List (Addr × Addr)}
/-- what stands and isn't tracked stays so -/
theorem stays {a : Addr} {o : HO} (k : Keep M H H1) (n : ∀ x ∈ M', x ∈ M ∨ H x = none) (h : H a = some o) (m : a ∉ M) : H1 a = some o ∧ a ∉ M' := ⟨k _ _ h m, fun z => by
  rcases n a z with q | q
  · exact m q
  · rw [q] at h; cases h⟩
mutual
theorem PFr.go (k : Keep M H H1) (t : Tst H H1) (n : ∀ x ∈ M', x ∈ M ∨ H x = none) (e : ∀ (p : Nat) c, cs[p]? = some c → cs'[p]? = some c) : ∀ {f : Fr} {v : V}, PFr K H kl M cs f v → PFr K H1 kl M' cs' f v
  | .mk os hs, v, g => by
    unfold PFr at g ⊢
    obtain ⟨a, dx, o, h, d, zs, xs, ys, rfl, h1, m1, h2, m2, h3, h4, m4, h5, m5, h6⟩ := g
    obtain ⟨q1, r1⟩ := stays k n h1 m1
    obtain ⟨q2, r2⟩ := stays k n h2 m2
    obtain ⟨q4, r4⟩ := stays k n h4 m4
    obtain ⟨q5, r5⟩ := stays k n h5 m5
    exact ⟨a, dx, o, h, d, zs, xs, ys, rfl, q1, r1, q2, r2, fun i p hp => by
      obtain ⟨c, e1, e2⟩ := h3 i p hp
      exact ⟨c, e _ _ e1, e2⟩, q4, r4, q5, r5, PHds.go k t n e h6⟩
theorem PHd.go (k : Keep M H H1) (t : Tst H H1) (n : ∀ x ∈ M', x ∈ M ∨ H x = none) (e : ∀ (p : Nat) c, cs[p]? = some c → cs'[p]? = some c) : ∀ {d : Hd} {x y : V}, PHd K H kl M cs d x y → PHd K H1 kl M' cs' d x y
  | .road p ws, x, y, g => by
    unfold PHd at g ⊢
    obtain ⟨c, tp, L, h1, rfl, rfl, h2, h3⟩ := g
    exact ⟨c, tp, L, e _ _ h1, rfl, rfl, t.sqT h2, h3⟩
  | .want u f, x, y, g => by
    unfold PHd at g ⊢
    obtain ⟨a, dx, vt, vf, rfl, h1, m1, h2, h3⟩ := g
    obtain ⟨q1, r1⟩ := stays k n h1 m1
    exact ⟨a, dx, vt, vf, rfl, q1, r1, h2.ts t, PFr.go k t n e h3⟩
theorem PHds.go (k : Keep M H H1) (t : Tst H H1) (n : ∀ x ∈ M', x ∈ M ∨ H x = none) (e : ∀ (p : Nat) c, cs[p]? = some c → cs'[p]? = some c) : ∀ {hs : Hds} {xs ys : List V}, PHds K H kl M cs hs xs ys → PHds K H1 kl M' cs' hs xs ys
  | .nil, xs, ys, g => by
    unfold PHds at g ⊢
    exact g
  | .cons d r, xs, ys, g => by
    unfold PHds at g ⊢
    obtain ⟨x, xr, y, yr, rfl, rfl, h1, h2⟩ := g
    exact ⟨x, xr, y, yr, rfl, rfl, PHd.go k t n e h1, PHds.go k t n e h2⟩
end
theorem PFr.keep {f : Fr} {v : V} (k : Keep M H H1) (t : Tst H H1) (g : PFr K H kl M cs f v) : PFr K H1 kl M cs f v := g.go k t (fun _ h => .inl h) fun _ _ h => h
theorem PFr.keep0 {f : Fr} {v : V} (k : Keep [] H H1) (g : PFr K H kl M cs f v) : PFr K H1 kl M cs f v := g.keep (k0 k) (k.ts fun _ z => nomatch z)
theorem PHds.get : ∀ {hs : Hds} {xs ys : List V} {i : Nat} {d : Hd}, PHds K H kl M cs hs xs ys → hs.get i = some d → ∃ x y, xs[i]? = some x ∧ ys[i]? = some y ∧ PHd K H kl M cs d x y
  | .nil, _, _, _, _, _, e => by unfold Hds.get at e; cases e
  | .cons d r, xs, ys, 0, d', h, e => by
    unfold PHds at h
    obtain ⟨x, xr, y, yr, rfl, rfl, h1, h2⟩ := h
    unfold Hds.get at e
    cases e
    exact ⟨x, y, rfl, rfl, h1⟩
  | .cons d r, xs, ys, i + 1, d', h, e => by
    unfold PHds at h
    obtain ⟨x, xr, y, yr, rfl, rfl, h1, h2⟩ := h
    unfold Hds.get at e
    obtain ⟨u, v, e1, e2, e3⟩ := PHds.get h2 e
    exact ⟨u, v, by simpa using e1, by simpa using e2, e3⟩
/-- handed one by one -/
theorem PHds.of {hs : List (Hd × Option Nat)} : ∀ {xs ys : List V}, xs.length = hs.length → ys.length = hs.length → (∀ (i : Nat) h b, hs[i]? = some (h, b) → ∃ x y, xs[i]? = some x ∧ ys[i]? = some y ∧ PHd K H kl M cs h x y) → PHds K H kl M cs (Hds.of hs) xs ys := by
  induction hs with
  | nil =>
    intro xs ys e1 e2 _
    unfold Hds.of PHds
    exact ⟨List.length_eq_zero_iff.mp e1, List.length_eq_zero_iff.mp e2⟩
  | cons hb r ih =>
    intro xs ys e1 e2 g
    obtain ⟨h, b⟩ := hb
    obtain ⟨x, y, ex, ey, q⟩ := g 0 h b rfl
    cases xs with
    | nil => cases ex
    | cons x' xr =>
      cases ys with
      | nil => cases ey
      | cons y' yr =>
        cases (show x' = x by simpa using ex)
        cases (show y' = y by simpa using ey)
        unfold Hds.of PHds
        refine ⟨_, xr, _, yr, rfl, rfl, q, ih (by simpa using e1) (by simpa using e2) fun i h b e => ?_⟩
        obtain ⟨x, y, ex, ey, q⟩ := g (i + 1) h b (by simpa using e)
        exact ⟨x, y, by simpa using ex, by simpa using ey, q⟩
end
end Hw
namespace Hw
open PySem PySem.Spec PyProof.Rows L2
def top (i : Nat) : Stmt := PySem.Challenge.pw_handways_k06_who_may_set_what.main.body.getD i (.Pass ⟨0, 0, 0, 0⟩)
local macro_rules | `(tactic| walk_at "sz") => `(tactic| first | exact Nat.le_of_ble_eq_true rfl | exact small (by first | omega | (simp; done) | (simp; omega)))
local macro_rules | `(tactic| walk_at "szT") => `(tactic| first | exact Nat.lt_of_lt_of_le (Nat.lt_succ_self _) (Nat.le_of_ble_eq_true rfl) | exact smallT (by first | omega | (simp; done) | (simp; omega)))
local macro_rules | `(tactic| walk_at "cond") => `(tactic| first | decide | omega | (dsimp only; omega) | exact ⟨by omega, by omega⟩ | exact .inr ⟨by decide, by decide⟩)
local macro_rules | `(tactic| walk_at "sq") => `(tactic| first | assumption | exact SqL.of (by assumption) | exact SqT.of (by assumption))
local macro_rules | `(tactic| walk_at "ty") => `(tactic| first | (with_reducible assumption) | exact .base (.int _) | exact .base (.str _) | exact .base (.bl _) | exact .base .non | exact tyT (by walk_at "sq") | exact tyL (by walk_at "sq"))
local macro_rules | `(tactic| walk_at "rd1") => `(tactic| first
  | ((with_reducible apply r_seq))
  | ((with_reducible apply r_asg))
  | ((with_reducible apply r_name))
  | ((with_reducible apply r_op))
  | ((with_reducible apply r_var); exact rfl)
  | ((with_reducible apply r_c))
  | ((with_reducible apply r_ixT); (walk_at "sq"); first | exact rfl | assumption)
  | ((with_reducible apply r_ixL); (walk_at "sq"); first | exact rfl | assumption)
  | ((with_reducible apply r_ixA); (first | exact .inl (by walk_at "sq") | exact .inr (by walk_at "sq")); first | exact rfl | assumption)
  | ((with_reducible apply r_isi); (walk_at "ty"); (decide +kernel))
  | ((with_reducible apply r_isiT2); assumption; (walk_at "ty"); (decide +kernel); (decide +kernel))
  | ((with_reducible apply r_I0))
  | ((with_reducible apply r_I); (walk_at "cond"))
  | ((with_reducible apply r_eq); exact rfl)
  | ((with_reducible apply r_ne); exact rfl)
  | ((with_reducible apply r_test))
  | ((with_reducible apply r_bl))
  | ((with_reducible apply r_if))
  | ((with_reducible apply r_nil))
  | ((with_reducible apply r_cons))
  | ((with_reducible apply r_call))
  | ((with_reducible apply r_cb))
  | ((with_reducible apply r_tup))
  | ((with_reducible apply r_lst))
  | ((with_reducible apply new); (walk_at "sz"))
  | ((with_reducible apply r_ret))
  | ((with_reducible apply r_retN))
  | ((with_reducible apply r_next))
  | ((with_reducible apply r_drop))
  | ((with_reducible apply r_lenL); (walk_at "sq"))
  | ((with_reducible apply r_lenT); (walk_at "sq"))
  | ((with_reducible apply r_int))
  | ((with_reducible apply r_intB))
  | ((with_reducible apply r_isN))
  | ((with_reducible apply r_notN))
  | ((with_reducible apply r_B))
  | ((with_reducible apply r_not))
  | ((with_reducible apply r_notV))
  | ((with_reducible apply r_andV))
  | ((with_reducible apply r_orV))
  | ((with_reducible apply r_ifE))
  | ((with_reducible apply r_chain))
  | ((with_reducible apply ite_t); (first | (with_reducible exact nRN) | (with_reducible exact nIN) | (with_reducible exact dNN) | decide +kernel))
  | ((with_reducible apply ite_f); (first | (with_reducible exact dRN) | (with_reducible exact dIN) | (with_reducible exact nNN) | decide +kernel))
  | ((with_reducible apply r_in); (first | exact .inl (by walk_at "sq") | exact .inr (by walk_at "sq")); exact rfl; (first | exact nums_flat | exact rfl))
  | ((with_reducible apply turn))
  | ((with_reducible apply r_for))
  | ((with_reducible apply r_iRng1))
  | ((with_reducible apply r_rng); (first | decide | omega | (simp; omega)); (first | decide | omega | (simp; omega)))
  | ((with_reducible apply r_iList))
  | ((with_reducible apply r_iTup))
  | ((with_reducible apply r_overL); (walk_at "sq"))
  | ((with_reducible apply r_overT); (walk_at "sq"))
  | ((with_reducible apply r_lc))
  | ((with_reducible apply acc); assumption; (walk_at "szT"))
  | ((with_reducible apply r_sub))
  | ((with_reducible apply r_setL); assumption; exact rfl)
  | ((with_reducible apply r_gtup); (walk_at "sq"); rfl)
  | ((with_reducible apply r_gnil))
  | ((with_reducible apply r_gcons))
  | ((with_reducible apply r_par))
  | ((with_reducible apply r_par2))
  | ((with_reducible apply r_sl))
  | ((with_reducible apply r_part))
  | ((with_reducible apply r_part1))
  | ((with_reducible apply r_noPart))
  | ((with_reducible apply r_slL); (walk_at "sq"))
  | ((with_reducible apply r_slA); (walk_at "sq"))
  | ((with_reducible apply r_tupL); (walk_at "sq"))
  | ((with_reducible apply r_tupT); (walk_at "sq"))
  | ((with_reducible apply r_lstL); (walk_at "sq"))
  | ((with_reducible apply r_lstT); (walk_at "sq"))
  | ((with_reducible apply r_append))
  | ((with_reducible apply r_isL); (walk_at "sq"))
  | ((with_reducible apply r_app); assumption; (walk_at "szT"))
  | ((with_reducible apply r_dget))
  | ((with_reducible apply r_dgetS); assumption; (walk_at "dk"))
  | ((with_reducible apply r_dput))
  | ((with_reducible apply r_dputS); assumption; (walk_at "szT"))
  | ((with_reducible apply r_disp))
  | ((with_reducible apply r_pnil))
  | ((with_reducible apply r_pcons))
  | ((with_reducible apply r_fld))
  | ((with_reducible apply r_fld1); assumption; assumption; assumption; (first | exact rfl | assumption))
  | ((with_reducible apply r_sfld))
  | ((with_reducible apply r_sfld1); assumption; assumption; assumption; exact (by decide)))
local macro_rules | `(tactic| walk_at "rd") => `(tactic| repeat walk_at "rd1")
section
variable {P : Program} {w : World} {K : PySem.W.Frag} {mg : Str → Option Value} {base : Heap}
/-! ### the draws -/
/-- the script: locked, or written -/
def Scr (K : PySem.W.Frag) (H : Hp) (a : Addr) (ns : List Int) : Prop := (∃ o, H a = some (.frz o (.lst (ns.map V.int)))) ∨ ((fun _ => none : Hp) a = none ∧ SqL K (fun _ => none) a (ns.map V.int))
theorem Scr.sq {H : Hp} {a : Addr} {ns : List Int} (h : Scr K H a ns) : SqL K H a (ns.map V.int) := by
  rcases h with ⟨o, h⟩ | ⟨_, h⟩
  · exact .inl (.inr ⟨o, h⟩)
  · rcases h with (h | ⟨o, h⟩) | h
    · cases h
    · cases h
    · exact .inr h
theorem Scr.ts {H H1 : Hp} {a : Addr} {ns : List Int} (h : Scr K H a ns) (t : Tst H H1) : Scr K H1 a ns := by
  rcases h with ⟨o, h⟩ | h
  · exact .inl ⟨o, t.2 _ _ _ h⟩
  · exact .inr h
def Row (K : PySem.W.Frag) (H : Hp) (r : Addr) : Prop := ∃ (scr : Addr) (ns : List Int) (i m d : Int), H r = some (.lst [.ref scr, .int i, .int m, .int d]) ∧ Scr K H scr ns ∧ 0 ≤ i
theorem Row.keep {M : List Addr} {H H1 : Hp} {r : Addr} (h : Row K H r) (k : Keep M H H1) (n : r ∉ M) (t : Tst H H1) : Row K H1 r := by
  obtain ⟨scr, ns, i, m, d, hR, hS, i0⟩ := h
  exact ⟨scr, ns, i, m, d, k _ _ hR n, hS.ts t, i0⟩
theorem keep_ts0 {H H1 : Hp} (k : Keep [] H H1) : Tst H H1 := k.ts fun _ z => nomatch z
theorem Row.keep0 {H H1 : Hp} {r : Addr} (h : Row K H r) (k : Keep [] H H1) : Row K H1 r := h.keep k (by simp) (keep_ts0 k)
theorem Row.lo {H : Hp} {r : Addr} (h : Row K H r) : Lo H [r] := fun a ha => by
  obtain ⟨scr, ns, i, m, d, hR, hS, i0⟩ := h
  cases List.mem_singleton.mp ha
  exact .inl ⟨_, hR⟩
theorem Row.ts {H H1 : Hp} {r : Addr} (h : Row K H r) (k : Keep [r] H H1) : Tst H H1 := k.ts h.lo
theorem Row.ne {H : Hp} {r : Addr} (h : Row K H r) : H r ≠ none := by
  obtain ⟨scr, ns, i, m, d, hR, _⟩ := h
  rw [hR]
  exact fun z => nomatch z
def spTaken (K : PySem.W.Frag) : Sp := fun vs H Q _ => ∃ (r : Addr) (many : Int), vs = [.ref r, .int many] ∧ 0 < many ∧ many < 1000000 ∧ Row K H r ∧
  ∀ (v : Int) (H' : Hp), 0 ≤ v → v < many → Keep [r] H H' → Row K H' r → Q (.int v) H'
abbrev sL_taken : Stmt := top 31
abbrev nL_taken : List Str := ["_law_row", "_law_many", "_law_found", "_law_cell"]
abbrev pL_taken : List Str := ["_law_row", "_law_many"]
theorem scL_taken : FnScope nL_taken pL_taken (defScope sL_taken) := ⟨rfl, rfl, rfl, by decide +kernel, rfl, by decide +kernel, by decide +kernel⟩
theorem okTaken (D : DefAt K mg "_law_taken" sL_taken pL_taken) (T : Blt mg) : Callee P w K mg base "_law_taken" 1 pL_taken (spTaken K) := by
  refine D.ok scL_taken (fun vs H Q E h => ?_) (fun f cdv A outer s H vs Q E hr h => ?_)
  · obtain ⟨r, many, rfl, _⟩ := h
    rfl
  obtain ⟨r, many, rfl, m0, m1, ⟨scr, ns, i, m, d, hR, hC, i0⟩, q⟩ := h
  have hS := hC.sq
  have lo : ∀ {H0 : Hp} {xs : List V}, H0 r = some (.lst xs) → Lo H0 [r] := fun e a ha => by
    cases List.mem_singleton.mp ha
    exact .inl ⟨_, e⟩
  refine ⟨_, (pss_cons (ps_if (pt_cmpR op_gt (pe_ix (ixL (K := K)) (pv 0) pe_int (fun _ _ => rfl)) pe_int (nomark _)) (pss_cons (ps_set (i := 2) scL_taken.nd rfl (Or.inl rfl) (pe_op op_mod (pe_ix (ixL (K := K)) (pv 0) pe_int (fun _ _ => rfl)) (pv 1)))
  (pss_cons (ps_asg (pe_op op_fdiv (pe_ix (ixL (K := K)) (pv 0) pe_int (fun _ _ => rfl)) (pv 1)) (pg_sub (pv 0) pe_int set_list))
  (pss_one (ps_ret (pv 2))))) pss_nil)
  (pss_cons (ps_asg (pe_op op_add (pe_ix (ixL (K := K)) (pv 0) pe_int (fun _ _ => rfl)) pe_int) (pg_sub (pv 0) pe_int set_list))
  (pss_cons (ps_if (pt_cmpR op_gt (pe_ix (ixL (K := K)) (pv 0) pe_int (fun _ _ => rfl)) (pe_callB (cLen (K := K)) (by rfl) T.len PySem.boot_len (pa_cons (pe_ix (ixL (K := K)) (pv 0) pe_int (fun _ _ => rfl)) pa_nil)) (nomark _)) (pss_cons (ps_asg (pe_op op_mod (pe_op op_add (pe_op op_mul (pe_ix (ixL (K := K)) (pv 0) pe_int (fun _ _ => rfl)) pe_int) pe_int) pe_int) (pg_sub (pv 0) pe_int set_list))
  (pss_one (ps_ret (pe_op op_mod (pe_op op_fdiv (pe_ix (ixL (K := K)) (pv 0) pe_int (fun _ _ => rfl)) pe_int) (pv 1))))) pss_nil)
  (pss_cons (ps_set (i := 3) scL_taken.nd rfl (Or.inl rfl) (pe_ix (ixL (K := K)) (pe_ix (ixL (K := K)) (pv 0) pe_int (fun _ _ => rfl)) (pe_op op_sub (pe_ix (ixL (K := K)) (pv 0) pe_int (fun _ _ => rfl)) pe_int) (fun _ _ => rfl)))
  (pss_cons (ps_asg (pe_op op_mod (pe_op op_add (pe_op op_add (pe_op op_mul (pe_ix (ixL (K := K)) (pv 0) pe_int (fun _ _ => rfl)) pe_int) (pv 3)) pe_int) pe_int) (pg_sub (pv 0) pe_int set_list))
  (pss_cons (ps_if (pt_cmpR op_ge (pv 3) (pe_op op_pow pe_int pe_int) (nomark _)) (pss_one (ps_asg (pe_op op_fdiv (pv 3) (pv 1)) (pg_sub (pv 0) pe_int set_list))) pss_nil)
  (pss_one (ps_ret (pe_op op_mod (pv 3) (pv 1)))))))))), ?_⟩
  walk_at "rd"
  refine ite2 (fun c => ?_) (fun c => ?_)
  · walk_at "rd"
    intro H1 h1 k1
    walk_at "rd"
    exact q _ _ (Int.emod_nonneg _ (by omega)) (Int.emod_lt_of_pos _ m0) k1 ⟨scr, ns, i, m, _, h1, hC.ts (k1.ts (lo hR)), i0⟩
  · walk_at "rd"
    intro H1 h1 k1
    have hC1 := hC.ts (k1.ts (lo hR))
    have hS1 := hC1.sq
    walk_at "rd"
    refine ite2 (fun c2 => ?_) (fun c2 => ?_)
    · walk_at "rd"
      intro H2 h2 k2
      walk_at "rd"
      exact q _ _ (Int.emod_nonneg _ (by omega)) (Int.emod_lt_of_pos _ m0) (k1.trans k2) ⟨scr, ns, i + 1, _, d, h2, hC1.ts (k2.ts (lo h1)), by omega⟩
    · have c3 : ¬ ((ns.map V.int).length : Int) < i + 1 := of_decide_eq_false (Bool.eq_false_iff.mpr c2)
      rw [List.length_map] at c3
      have e3 : atI (ns.map V.int) (i + 1 - 1) = some (V.int (ns.getD i.toNat 0)) := by
        have e4 : i + 1 - 1 = ((i.toNat : Nat) : Int) := by omega
        rw [e4]
        refine atI_nat ?_
        rw [List.getElem?_map, List.getElem?_eq_getElem (by omega), List.getD_eq_getElem?_getD, List.getElem?_eq_getElem (by omega)]
        rfl
      walk_at "rd"
      intro H2 h2 k2
      have hC2 := hC1.ts (k2.ts (lo h1))
      have hS2 := hC2.sq
      walk_at "rd"
      refine ite2 (fun c4 => ?_) (fun c4 => ?_)
      · walk_at "rd"
        intro H3 h3 k3
        walk_at "rd"
        exact q _ _ (Int.emod_nonneg _ (by omega)) (Int.emod_lt_of_pos _ m0) (k1.trans (k2.trans k3)) ⟨scr, ns, i + 1, _, _, h3, hC2.ts (k3.ts (lo h2)), by omega⟩
      · walk_at "rd"
        exact q _ _ (Int.emod_nonneg _ (by omega)) (Int.emod_lt_of_pos _ m0) (k1.trans k2) ⟨scr, ns, i + 1, _, _, h2, hC2, by omega⟩
end
end Hw
namespace Hw
open PySem PySem.Spec PyProof.Rows L2
local macro_rules | `(tactic| walk_at "sz") => `(tactic| first | exact Nat.le_of_ble_eq_true rfl | exact small (by first | omega | (simp; done) | (simp; omega)))
local macro_rules | `(tactic| walk_at "szT") => `(tactic| first | exact Nat.lt_of_lt_of_le (Nat.lt_succ_self _) (Nat.le_of_ble_eq_true rfl) | exact smallT (by first | omega | (simp; done) | (simp; omega)))
local macro_rules | `(tactic| walk_at "cond") => `(tactic| first | decide | omega | (dsimp only; omega) | exact ⟨by omega, by omega⟩ | exact .inr ⟨by decide, by decide⟩)
local macro_rules | `(tactic| walk_at "sq") => `(tactic| first | assumption | exact SqL.of (by assumption) | exact SqT.of (by assumption))
local macro_rules | `(tactic| walk_at "ty") => `(tactic| first | (with_reducible assumption) | exact .base (.int _) | exact .base (.str _) | exact .base (.bl _) | exact .base .non | exact tyT (by walk_at "sq") | exact tyL (by walk_at "sq"))
local macro_rules | `(tactic| walk_at "rd1") => `(tactic| first
  | ((with_reducible apply r_seq))
  | ((with_reducible apply r_asg))
  | ((with_reducible apply r_name))
  | ((with_reducible apply r_op))
  | ((with_reducible apply r_var); exact rfl)
  | ((with_reducible apply r_c))
  | ((with_reducible apply r_ixT); (walk_at "sq"); first | exact rfl | assumption)
  | ((with_reducible apply r_ixL); (walk_at "sq"); first | exact rfl | assumption)
  | ((with_reducible apply r_ixA); (first | exact .inl (by walk_at "sq") | exact .inr (by walk_at "sq")); first | exact rfl | assumption)
  | ((with_reducible apply r_isi); (walk_at "ty"); (decide +kernel))
  | ((with_reducible apply r_isiT2); assumption; (walk_at "ty"); (decide +kernel); (decide +kernel))
  | ((with_reducible apply r_I0))
  | ((with_reducible apply r_I); (walk_at "cond"))
  | ((with_reducible apply r_eq); exact rfl)
  | ((with_reducible apply r_ne); exact rfl)
  | ((with_reducible apply r_test))
  | ((with_reducible apply r_bl))
  | ((with_reducible apply r_if))
  | ((with_reducible apply r_nil))
  | ((with_reducible apply r_cons))
  | ((with_reducible apply r_call))
  | ((with_reducible apply r_cb))
  | ((with_reducible apply r_tup))
  | ((with_reducible apply r_lst))
  | ((with_reducible apply new); (walk_at "sz"))
  | ((with_reducible apply r_ret))
  | ((with_reducible apply r_retN))
  | ((with_reducible apply r_next))
  | ((with_reducible apply r_drop))
  | ((with_reducible apply r_lenL); (walk_at "sq"))
  | ((with_reducible apply r_lenT); (walk_at "sq"))
  | ((with_reducible apply r_int))
  | ((with_reducible apply r_intB))
  | ((with_reducible apply r_isN))
  | ((with_reducible apply r_notN))
  | ((with_reducible apply r_B))
  | ((with_reducible apply r_not))
  | ((with_reducible apply r_notV))
  | ((with_reducible apply r_andV))
  | ((with_reducible apply r_orV))
  | ((with_reducible apply r_ifE))
  | ((with_reducible apply r_chain))
  | ((with_reducible apply ite_t); (first | (with_reducible exact nRN) | (with_reducible exact nIN) | (with_reducible exact dNN) | decide +kernel))
  | ((with_reducible apply ite_f); (first | (with_reducible exact dRN) | (with_reducible exact dIN) | (with_reducible exact nNN) | decide +kernel))
  | ((with_reducible apply r_in); (first | exact .inl (by walk_at "sq") | exact .inr (by walk_at "sq")); exact rfl; (first | exact nums_flat | exact rfl))
  | ((with_reducible apply turn))
  | ((with_reducible apply r_for))
  | ((with_reducible apply r_iRng1))
  | ((with_reducible apply r_rng); (first | decide | omega | (simp; omega)); (first | decide | omega | (simp; omega)))
  | ((with_reducible apply r_iList))
  | ((with_reducible apply r_iTup))
  | ((with_reducible apply r_overL); (walk_at "sq"))
  | ((with_reducible apply r_overT); (walk_at "sq"))
  | ((with_reducible apply r_lc))
  | ((with_reducible apply acc); assumption; (walk_at "szT"))
  | ((with_reducible apply r_sub))
  | ((with_reducible apply r_setL); assumption; exact rfl)
  | ((with_reducible apply r_gtup); (walk_at "sq"); rfl)
  | ((with_reducible apply r_gnil))
  | ((with_reducible apply r_gcons))
  | ((with_reducible apply r_par))
  | ((with_reducible apply r_par2))
  | ((with_reducible apply r_sl))
  | ((with_reducible apply r_part))
  | ((with_reducible apply r_part1))
  | ((with_reducible apply r_noPart))
  | ((with_reducible apply r_slL); (walk_at "sq"))
  | ((with_reducible apply r_slA); (walk_at "sq"))
  | ((with_reducible apply r_tupL); (walk_at "sq"))
  | ((with_reducible apply r_tupT); (walk_at "sq"))
  | ((with_reducible apply r_lstL); (walk_at "sq"))
  | ((with_reducible apply r_lstT); (walk_at "sq"))
  | ((with_reducible apply r_append))
  | ((with_reducible apply r_isL); (walk_at "sq"))
  | ((with_reducible apply r_app); assumption; (walk_at "szT"))
  | ((with_reducible apply r_dget))
  | ((with_reducible apply r_dgetS); assumption; (walk_at "dk"))
  | ((with_reducible apply r_dput))
  | ((with_reducible apply r_dputS); assumption; (walk_at "szT"))
  | ((with_reducible apply r_disp))
  | ((with_reducible apply r_pnil))
  | ((with_reducible apply r_pcons))
  | ((with_reducible apply r_fld))
  | ((with_reducible apply r_fld1); assumption; assumption; assumption; (first | exact rfl | assumption))
  | ((with_reducible apply r_sfld))
  | ((with_reducible apply r_sfld1); assumption; assumption; assumption; exact (by decide)))
local macro_rules | `(tactic| walk_at "rd") => `(tactic| repeat walk_at "rd1")
section
variable {P : Program} {w : World} {K : PySem.W.Frag} {mg : Str → Option Value} {base : Heap}
/-! ### things -/
def spThing (K : PySem.W.Frag) (n : Nat) : Sp := fun vs H Q _ => ∃ (r sz : Addr) (p o : Nat) (wi : Int), vs = [.ref r, .ref sz, .int wi] ∧ Row K H r ∧ SqT K H sz [.int (p : Int), .int (o : Int)] ∧ p ≤ 100 ∧ o ≤ 100 ∧ 0 ≤ wi ∧ wi < n ∧
  ∀ (v : V) (t : Th) (H' : Hp), Rp K H' v t.enc → t.ok p o (wi.toNat + 1) → Keep [r] H H' → Row K H' r → Q v H'
abbrev sL_thing : Stmt := top 33
abbrev nL_thing : List Str := ["_law_row", "_law_sizes", "_law_within", "_law_way"]
abbrev pL_thing : List Str := ["_law_row", "_law_sizes", "_law_within"]
theorem scL_thing : FnScope nL_thing pL_thing (defScope sL_thing) := ⟨rfl, rfl, rfl, by decide +kernel, rfl, by decide +kernel, by decide +kernel⟩
abbrev sL_place : Stmt := top 34
abbrev nL_place : List Str := ["_law_row", "_law_sizes", "_law_within", "_law_thing_here"]
abbrev pL_place : List Str := ["_law_row", "_law_sizes", "_law_within"]
theorem scL_place : FnScope nL_place pL_place (defScope sL_place) := ⟨rfl, rfl, rfl, by decide +kernel, rfl, by decide +kernel, by decide +kernel⟩
theorem okThing (D : DefAt K mg "_law_thing" sL_thing pL_thing) (T : Blt mg) (C_law_taken : Callee P w K mg base "_law_taken" 1 pL_taken (spTaken K)) : ∀ n : Nat, Callee P w K mg base "_law_thing" (n + 2) pL_thing (spThing K n)
  | 0 => D.none fun vs H Q E h => by
    obtain ⟨r, sz, p, o, wi, rfl, _, _, _, _, h1, h2, _⟩ := h
    omega
  | n + 1 => by
    have C_law_thing := okThing D T C_law_taken n
    refine D.ok scL_thing (fun vs H Q E h => ?_) (fun f cdv A outer s H vs Q E hr h => ?_)
    · obtain ⟨r, sz, p, o, wi, rfl, _⟩ := h
      rfl
    obtain ⟨r, sz, p, o, wi, rfl, hR, hsz, p1, o1, w0, w1, q⟩ := h
    have e1 : atI ([.int 5, .int 8] : List V) (if decide (0 < wi) = true then 1 else 0) = some (.int (if 0 < wi then 8 else 5)) := by
      by_cases h : 0 < wi
      · simp only [h, decide_true, if_true]; rfl
      · simp only [h, decide_false, if_false]; rfl
    refine ⟨_, (pss_cons (ps_set (i := 3) scL_thing.nd rfl (Or.inl rfl) (pcall C_law_taken (hr.mono (by omega)) rfl (pa_cons (pv 0) (pa_cons (pe_ix (ixL (K := K)) (pe_lst (pa_cons pe_int (pa_cons pe_int pa_nil))) (pe_callTy c_int (by rfl) T.int (by decide +kernel) (pa_cons (pe_cmpR op_gt (pv 2) pe_int (nomark _)) pa_nil)) (fun _ _ => rfl)) pa_nil))))
  (pss_cons (ps_if (PW.pt (pw_and (pt_cmpR op_lt (pv 3) pe_int (nomark _)) (pw_and1 (pt_cmpR op_gt (pe_ix (ixT (K := K)) (pv 1) pe_int (fun _ _ => rfl)) pe_int (nomark _))))) (pss_one (ps_ret (pe_tup (pa_cons pe_str (pa_cons (pcall C_law_taken (hr.mono (by omega)) rfl (pa_cons (pv 0) (pa_cons (pe_ix (ixT (K := K)) (pv 1) pe_int (fun _ _ => rfl)) pa_nil))) pa_nil))))) pss_nil)
  (pss_cons (ps_if (PW.pt (pw_and (pt_cmpR op_eq (pv 3) pe_int (nomark _)) (pw_and1 (pt_cmpR op_gt (pe_ix (ixT (K := K)) (pv 1) pe_int (fun _ _ => rfl)) pe_int (nomark _))))) (pss_one (ps_ret (pe_tup (pa_cons pe_str (pa_cons (pcall C_law_taken (hr.mono (by omega)) rfl (pa_cons (pv 0) (pa_cons (pe_ix (ixT (K := K)) (pv 1) pe_int (fun _ _ => rfl)) pa_nil))) pa_nil))))) pss_nil)
  (pss_cons (ps_if (pt_cmpR op_gt (pv 3) pe_int (nomark _)) (pss_one (ps_ret (pe_tup (pa_cons pe_str (pa_cons (pcall C_law_thing (hr.mono (by omega)) rfl (pa_cons (pv 0) (pa_cons (pv 1) (pa_cons (pe_op op_sub (pv 2) pe_int) pa_nil)))) (pa_cons (pcall C_law_thing (hr.mono (by omega)) rfl (pa_cons (pv 0) (pa_cons (pv 1) (pa_cons (pe_op op_sub (pv 2) pe_int) pa_nil)))) pa_nil)))))) pss_nil)
  (pss_cons (ps_if (pt_cmpR op_gt (pv 3) pe_int (nomark _)) (pss_one (ps_ret (pe_tup (pa_cons pe_str (pa_cons (pe_ifExp (pt_cmpR op_gt (pv 2) pe_int (nomark _)) (pcall C_law_thing (hr.mono (by omega)) rfl (pa_cons (pv 0) (pa_cons (pv 1) (pa_cons (pe_op op_sub (pv 2) pe_int) pa_nil)))) (pe_tup (pa_cons pe_str (pa_cons (pcall C_law_taken (hr.mono (by omega)) rfl (pa_cons (pv 0) (pa_cons pe_int pa_nil))) pa_nil)))) pa_nil))))) pss_nil)
  (pss_one (ps_ret (pe_tup (pa_cons pe_str (pa_cons (pcall C_law_taken (hr.mono (by omega)) rfl (pa_cons (pv 0) (pa_cons pe_int pa_nil))) pa_nil)))))))))), ?_⟩
    walk_at "rd"
    intro pl H1 n1 h1 k1
    walk_at "rd"
    refine ask ⟨r, _, rfl, by split <;> decide, by split <;> decide, hR.keep0 k1, fun v1 H2 v0 v1' k2 R2 => ?_⟩
    have kk2 : Keep [r] H H2 := (k1.mono (by simp)).trans k2
    have hs2 := (hR.ts kk2).sqT hsz
    walk_at "rd"
    refine r_andP (a := decide (v1 < 2)) (b := decide (0 < (p : Int))) (fun R hr => by walk_at "rd"; exact hr) (fun _ R hr => by walk_at "rd"; exact hr) ?_
    refine ite2 (fun c => ?_) (fun c => ?_)
    · -- a param
      rw [Bool.and_eq_true, decide_eq_true_eq, decide_eq_true_eq] at c
      walk_at "rd"
      refine ask ⟨r, _, rfl, c.2, by omega, R2, fun v3 H3 v30 v31 k3 R3 => ?_⟩
      obtain ⟨m, rfl⟩ : ∃ m : Nat, v3 = m := ⟨v3.toNat, by omega⟩
      walk_at "rd"
      intro pa H4 n4 h4 k4
      exact q _ (.par m) _ (.tup (SqT.of h4) (.cons (.str _) (.cons (.int _) .nil))) (Th.ok_par (by omega)) ((kk2.trans k3).trans (k4.mono (by simp))) (R3.keep0 k4)
    walk_at "rd"
    refine r_andP (a := decide (V.int v1 = V.int 2)) (b := decide (0 < (o : Int))) (fun R hr => by walk_at "rd"; exact hr) (fun _ R hr => by walk_at "rd"; exact hr) ?_
    refine ite2 (fun c2 => ?_) (fun c2 => ?_)
    · -- an own cell
      rw [Bool.and_eq_true, decide_eq_true_eq, decide_eq_true_eq] at c2
      walk_at "rd"
      refine ask ⟨r, _, rfl, c2.2, by omega, R2, fun v3 H3 v30 v31 k3 R3 => ?_⟩
      obtain ⟨m, rfl⟩ : ∃ m : Nat, v3 = m := ⟨v3.toNat, by omega⟩
      walk_at "rd"
      intro pa H4 n4 h4 k4
      exact q _ (.own m) _ (.tup (SqT.of h4) (.cons (.str _) (.cons (.int _) .nil))) (Th.ok_own (by omega)) ((kk2.trans k3).trans (k4.mono (by simp))) (R3.keep0 k4)
    walk_at "rd"
    refine ite2 (fun c3 => ?_) (fun c3 => ?_)
    · -- a sum
      have c3' := of_decide_eq_true c3
      have hw : 0 < wi := by
        by_cases h : 0 < wi
        · exact h
        · rw [if_neg h] at v1'; omega
      have eD : wi.toNat + 1 = ((wi - 1).toNat + 1) + 1 := by omega
      walk_at "rd"
      refine ask ⟨r, sz, p, o, _, rfl, R2, hs2, p1, o1, by omega, by omega, fun va ta H3 ra oa k3 R3 => ?_⟩
      have hs3 := (R2.ts k3).sqT hs2
      walk_at "rd"
      refine ask ⟨r, sz, p, o, _, rfl, R3, hs3, p1, o1, by omega, by omega, fun vb tb H4 rb ob k4 R4 => ?_⟩
      walk_at "rd"
      intro pa H5 n5 h5 k5
      have ra5 := (ra.ts (R3.ts k4)).ts (keep_ts0 k5)
      refine q _ (.sum ta tb) _ (.tup (SqT.of h5) (.cons (.str _) (.cons ra5 (.cons (rb.ts (keep_ts0 k5)) .nil)))) ?_ (((kk2.trans k3).trans k4).trans (k5.mono (by simp))) (R4.keep0 k5)
      rw [eD]
      exact ⟨oa, ob⟩
    walk_at "rd"
    refine ite2 (fun c4 => ?_) (fun c4 => ?_)
    · -- a common cell
      walk_at "rd"
      refine ite2 (fun hw => ?_) (fun hw => ?_)
      · have hw := of_decide_eq_true hw
        have eD : wi.toNat + 1 = ((wi - 1).toNat + 1) + 1 := by omega
        walk_at "rd"
        refine ask ⟨r, sz, p, o, _, rfl, R2, hs2, p1, o1, by omega, by omega, fun va ta H3 ra oa k3 R3 => ?_⟩
        walk_at "rd"
        intro pa H5 n5 h5 k5
        refine q _ (.cell ta) _ (.tup (SqT.of h5) (.cons (.str _) (.cons (ra.ts (keep_ts0 k5)) .nil))) ?_ ((kk2.trans k3).trans (k5.mono (by simp))) (R3.keep0 k5)
        rw [eD]
        exact oa
      · walk_at "rd"
        refine ask ⟨r, _, rfl, by decide, by decide, R2, fun v3 H3 v30 v31 k3 R3 => ?_⟩
        obtain ⟨m, rfl⟩ : ∃ m : Nat, v3 = m := ⟨v3.toNat, by omega⟩
        walk_at "rd"
        intro pa H4 n4 h4 k4
        walk_at "rd"
        intro pb H5 n5 h5 k5
        exact q _ (.cell (.num m)) _ (.tup (SqT.of h5) (.cons (.str _) (.cons (.tup (SqT.of (k5 _ _ h4 (by simp))) (.cons (.str _) (.cons (.int _) .nil))) .nil))) (show Th.ok p o _ (.num m) from Th.ok_num (by omega))
          (((kk2.trans k3).trans (k4.mono (by simp))).trans (k5.mono (by simp))) ((R3.keep0 k4).keep0 k5)
    · walk_at "rd"
      refine ask ⟨r, _, rfl, by decide, by decide, R2, fun v3 H3 v30 v31 k3 R3 => ?_⟩
      obtain ⟨m, rfl⟩ : ∃ m : Nat, v3 = m := ⟨v3.toNat, by omega⟩
      walk_at "rd"
      intro pa H4 n4 h4 k4
      exact q _ (.num m) _ (.tup (SqT.of h4) (.cons (.str _) (.cons (.int _) .nil))) (Th.ok_num (by omega)) ((kk2.trans k3).trans (k4.mono (by simp))) (R3.keep0 k4)
/-! ### places -/
def spPlace (K : PySem.W.Frag) : Sp := fun vs H Q _ => ∃ (r sz : Addr) (p o : Nat) (wi : Int), vs = [.ref r, .ref sz, .int wi] ∧ Row K H r ∧ SqT K H sz [.int (p : Int), .int (o : Int)] ∧ p ≤ 100 ∧ o ≤ 100 ∧ 0 ≤ wi ∧ wi < 3 ∧
  ∀ (v : V) (t : Th) (H' : Hp), Rp K H' v t.enc → t.isPlace = true → t.ok p o (wi.toNat + 2) → Keep [r] H H' → Row K H' r → Q v H'
theorem okPlace (D : DefAt K mg "_law_place" sL_place pL_place) (T : Blt mg) (C_law_thing : Callee P w K mg base "_law_thing" 5 pL_thing (spThing K 3)) : Callee P w K mg base "_law_place" 6 pL_place (spPlace K) := by
  refine D.ok scL_place (fun vs H Q E h => ?_) (fun f cdv A outer s H vs Q E hr h => ?_)
  · obtain ⟨r, sz, p, o, wi, rfl, _⟩ := h
    rfl
  obtain ⟨r, sz, p, o, wi, rfl, hR, hsz, p1, o1, w0, w1, q⟩ := h
  refine ⟨_, (pss_cons (ps_set (i := 3) scL_place.nd rfl (Or.inl rfl) (pcall C_law_thing (hr.mono (by omega)) rfl (pa_cons (pv 0) (pa_cons (pv 1) (pa_cons (pv 2) pa_nil)))))
  (pss_one (ps_ret (pe_ifExp (pt_cmpR (opIn (K := K)) (pe_ix (ixT (K := K)) (pv 3) pe_int (fun _ _ => rfl)) (pe_tup (pa_cons pe_str (pa_cons pe_str (pa_cons pe_str pa_nil)))) (by with_unfolding_all rfl)) (pv 3) (pe_tup (pa_cons pe_str (pa_cons (pv 3) pa_nil))))))), ?_⟩
  walk_at "rd"
  refine ask ⟨r, sz, p, o, _, rfl, hR, hsz, p1, o1, by omega, by omega, fun va ta H1 ra oa k1 R1 => ?_⟩
  obtain ⟨a, xs, rfl, ha⟩ := Th.head ra
  have e0 := atI_zero (x := .str ta.word) (r := xs)
  walk_at "rd"
  intro pl H2 n2 h2 k2
  have ha2 := (keep_ts0 k2).sqT ha
  have ra2 := ra.ts (keep_ts0 k2)
  have eD : wi.toNat + 2 = (wi.toNat + 1) + 1 := rfl
  have kk2 : Keep [r] H H2 := k1.trans (k2.mono (by simp))
  have R2 := R1.keep0 k2
  have fin : ∀ pa H3, H2 pa = none → H3 pa = some (.tup [.str "cell", .ref a]) → Keep [] H2 H3 → Q (.ref pa) H3 := fun pa H3 n3 h3 k3 => by
    refine q _ (.cell ta) _ (.tup (SqT.of h3) (.cons (.str _) (.cons (ra2.ts (keep_ts0 k3)) .nil))) rfl ?_ (kk2.trans (k3.mono (by simp))) (R2.keep0 k3)
    rw [eD]
    exact oa
  cases ta with
  | num n => dsimp only [Th.word]; walk_at "rd"; exact fin
  | sum x y => dsimp only [Th.word]; walk_at "rd"; exact fin
  | cell x => dsimp only [Th.word]; walk_at "rd"; exact q _ _ _ ra2 rfl (oa.mono (by omega)) kk2 R2
  | own n => dsimp only [Th.word]; walk_at "rd"; exact q _ _ _ ra2 rfl (oa.mono (by omega)) kk2 R2
  | par n => dsimp only [Th.word]; walk_at "rd"; exact q _ _ _ ra2 rfl (oa.mono (by omega)) kk2 R2
end
end Hw
namespace Hw
open PySem PySem.Spec PyProof.Rows L2
local macro_rules | `(tactic| walk_at "sz") => `(tactic| first | exact Nat.le_of_ble_eq_true rfl | exact small (by first | omega | (simp; done) | (simp; omega)))
local macro_rules | `(tactic| walk_at "szT") => `(tactic| first | exact Nat.lt_of_lt_of_le (Nat.lt_succ_self _) (Nat.le_of_ble_eq_true rfl) | exact smallT (by first | omega | (simp; done) | (simp; omega)))
local macro_rules | `(tactic| walk_at "cond") => `(tactic| first | decide | omega | (dsimp only; omega) | exact ⟨by omega, by omega⟩ | exact .inr ⟨by decide, by decide⟩)
local macro_rules | `(tactic| walk_at "sq") => `(tactic| first | assumption | exact SqL.of (by assumption) | exact SqT.of (by assumption))
local macro_rules | `(tactic| walk_at "ty") => `(tactic| first | (with_reducible assumption) | exact .base (.int _) | exact .base (.str _) | exact .base (.bl _) | exact .base .non | exact tyT (by walk_at "sq") | exact tyL (by walk_at "sq"))
local macro_rules | `(tactic| walk_at "rd1") => `(tactic| first
  | ((with_reducible apply r_seq))
  | ((with_reducible apply r_asg))
  | ((with_reducible apply r_name))
  | ((with_reducible apply r_op))
  | ((with_reducible apply r_var); exact rfl)
  | ((with_reducible apply r_c))
  | ((with_reducible apply r_ixT); (walk_at "sq"); first | exact rfl | assumption)
  | ((with_reducible apply r_ixL); (walk_at "sq"); first | exact rfl | assumption)
  | ((with_reducible apply r_ixA); (first | exact .inl (by walk_at "sq") | exact .inr (by walk_at "sq")); first | exact rfl | assumption)
  | ((with_reducible apply r_isi); (walk_at "ty"); (decide +kernel))
  | ((with_reducible apply r_isiT2); assumption; (walk_at "ty"); (decide +kernel); (decide +kernel))
  | ((with_reducible apply r_I0))
  | ((with_reducible apply r_I); (walk_at "cond"))
  | ((with_reducible apply r_eq); exact rfl)
  | ((with_reducible apply r_ne); exact rfl)
  | ((with_reducible apply r_test))
  | ((with_reducible apply r_bl))
  | ((with_reducible apply r_if))
  | ((with_reducible apply r_nil))
  | ((with_reducible apply r_cons))
  | ((with_reducible apply r_call))
  | ((with_reducible apply r_cb))
  | ((with_reducible apply r_tup))
  | ((with_reducible apply r_lst))
  | ((with_reducible apply new); (walk_at "sz"))
  | ((with_reducible apply r_ret))
  | ((with_reducible apply r_retN))
  | ((with_reducible apply r_next))
  | ((with_reducible apply r_drop))
  | ((with_reducible apply r_lenL); (walk_at "sq"))
  | ((with_reducible apply r_lenT); (walk_at "sq"))
  | ((with_reducible apply r_int))
  | ((with_reducible apply r_intB))
  | ((with_reducible apply r_isN))
  | ((with_reducible apply r_notN))
  | ((with_reducible apply r_B))
  | ((with_reducible apply r_not))
  | ((with_reducible apply r_notV))
  | ((with_reducible apply r_andV))
  | ((with_reducible apply r_orV))
  | ((with_reducible apply r_ifE))
  | ((with_reducible apply r_chain))
  | ((with_reducible apply ite_t); (first | (with_reducible exact nRN) | (with_reducible exact nIN) | (with_reducible exact dNN) | decide +kernel))
  | ((with_reducible apply ite_f); (first | (with_reducible exact dRN) | (with_reducible exact dIN) | (with_reducible exact nNN) | decide +kernel))
  | ((with_reducible apply r_in); (first | exact .inl (by walk_at "sq") | exact .inr (by walk_at "sq")); exact rfl; (first | exact nums_flat | exact rfl))
  | ((with_reducible apply turn))
  | ((with_reducible apply r_for))
  | ((with_reducible apply r_iRng1))
  | ((with_reducible apply r_rng); (first | decide | omega | (simp; omega)); (first | decide | omega | (simp; omega)))
  | ((with_reducible apply r_iList))
  | ((with_reducible apply r_iTup))
  | ((with_reducible apply r_overL); (walk_at "sq"))
  | ((with_reducible apply r_overT); (walk_at "sq"))
  | ((with_reducible apply r_lc))
  | ((with_reducible apply acc); assumption; (walk_at "szT"))
  | ((with_reducible apply r_sub))
  | ((with_reducible apply r_setL); assumption; exact rfl)
  | ((with_reducible apply r_gtup); (walk_at "sq"); rfl)
  | ((with_reducible apply r_gnil))
  | ((with_reducible apply r_gcons))
  | ((with_reducible apply r_par))
  | ((with_reducible apply r_par2))
  | ((with_reducible apply r_sl))
  | ((with_reducible apply r_part))
  | ((with_reducible apply r_part1))
  | ((with_reducible apply r_noPart))
  | ((with_reducible apply r_slL); (walk_at "sq"))
  | ((with_reducible apply r_slA); (walk_at "sq"))
  | ((with_reducible apply r_tupL); (walk_at "sq"))
  | ((with_reducible apply r_tupT); (walk_at "sq"))
  | ((with_reducible apply r_lstL); (walk_at "sq"))
  | ((with_reducible apply r_lstT); (walk_at "sq"))
  | ((with_reducible apply r_append))
  | ((with_reducible apply r_isL); (walk_at "sq"))
  | ((with_reducible apply r_app); assumption; (walk_at "szT"))
  | ((with_reducible apply r_dget))
  | ((with_reducible apply r_dgetS); assumption; (walk_at "dk"))
  | ((with_reducible apply r_dput))
  | ((with_reducible apply r_dputS); assumption; (walk_at "szT"))
  | ((with_reducible apply r_disp))
  | ((with_reducible apply r_pnil))
  | ((with_reducible apply r_pcons))
  | ((with_reducible apply r_fld))
  | ((with_reducible apply r_fld1); assumption; assumption; assumption; (first | exact rfl | assumption))
  | ((with_reducible apply r_sfld))
  | ((with_reducible apply r_sfld1); assumption; assumption; assumption; exact (by decide)))
local macro_rules | `(tactic| walk_at "rd") => `(tactic| repeat walk_at "rd1")
section
variable {P : Program} {w : World} {K : PySem.W.Frag} {mg : Str → Option Value} {base : Heap}
/-! ### steps -/
/-- params and own cells of all works, a list of tuples -/
def Shp (K : PySem.W.Frag) (H : Hp) (a : Addr) (sh : List (Nat × Nat)) : Prop := ∃ vs : List V, H a = some (.lst vs) ∧ vs.length = sh.length ∧ ∀ (i : Nat) (q : Nat × Nat), sh[i]? = some q → ∃ t : Addr, vs[i]? = some (V.ref t) ∧ SqT K H t [.int (q.1 : Int), .int (q.2 : Int)]
structure GS (K : PySem.W.Frag) (H : Hp) (r lf sa : Addr) (sh : List (Nat × Nat)) (a c : Nat) : Prop where
  row : Row K H r
  left : H lf = some (.lst [.int (a : Int), .int (c : Int)])
  shp : Shp K H sa sh
  n1 : lf ≠ r
  n2 : sa ≠ r
  n3 : sa ≠ lf
  few : sh.length ≤ 4
  small : ∀ q ∈ sh, q.1 ≤ 3 ∧ q.2 ≤ 10
theorem Shp.keep {H H1 : Hp} {a : Addr} {sh : List (Nat × Nat)} {M : List Addr} (h : Shp K H a sh) (k : Keep M H H1) (n : a ∉ M) (t : Tst H H1) : Shp K H1 a sh := by
  obtain ⟨vs, h1, h2, h3⟩ := h
  refine ⟨vs, k _ _ h1 n, h2, fun i q e => ?_⟩
  obtain ⟨u, e1, e2⟩ := h3 i q e
  exact ⟨u, e1, t.sqT e2⟩
theorem GS.lo {H : Hp} {r lf sa : Addr} {sh : List (Nat × Nat)} {a c : Nat} (g : GS K H r lf sa sh a c) : Lo H [r, lf] := fun x hx => by
  rcases List.mem_cons.mp hx with rfl | hx
  · exact g.row.lo _ (List.mem_singleton.mpr rfl)
  · cases List.mem_singleton.mp hx
    exact .inl ⟨_, g.left⟩
theorem GS.ts {H H1 : Hp} {r lf sa : Addr} {sh : List (Nat × Nat)} {a c : Nat} (g : GS K H r lf sa sh a c) (k : Keep [r, lf] H H1) : Tst H H1 := k.ts g.lo
/-- the row was drawn from -/
theorem GS.drew {H H1 : Hp} {r lf sa : Addr} {sh : List (Nat × Nat)} {a c : Nat} (g : GS K H r lf sa sh a c) (k : Keep [r] H H1) (R : Row K H1 r) : GS K H1 r lf sa sh a c :=
  ⟨R, k _ _ g.left (by simpa using g.n1), g.shp.keep k (by simpa using g.n2) (g.row.ts k), g.n1, g.n2, g.n3, g.few, g.small⟩
theorem GS.keep0 {H H1 : Hp} {r lf sa : Addr} {sh : List (Nat × Nat)} {a c : Nat} (g : GS K H r lf sa sh a c) (k : Keep [] H H1) : GS K H1 r lf sa sh a c :=
  ⟨g.row.keep0 k, k _ _ g.left (by simp), g.shp.keep k (by simp) (keep_ts0 k), g.n1, g.n2, g.n3, g.few, g.small⟩
/-- another list was changed -/
theorem GS.other {H H1 : Hp} {r lf sa l : Addr} {sh : List (Nat × Nat)} {a c : Nat} {xs : List V} (g : GS K H r lf sa sh a c) (k : Keep [l] H H1) (h : H l = some (.lst xs)) (h1 : l ≠ r) (h2 : l ≠ lf) (h3 : l ≠ sa) : GS K H1 r lf sa sh a c := by
  have t : Tst H H1 := k.ts fun x hx => by cases List.mem_singleton.mp hx; exact .inl ⟨_, h⟩
  exact ⟨g.row.keep k (by simpa using Ne.symm h1) t, k _ _ g.left (by simpa using Ne.symm h2), g.shp.keep k (by simpa using Ne.symm h3) t, g.n1, g.n2, g.n3, g.few, g.small⟩
theorem GS.ne {H : Hp} {r lf sa l : Addr} {sh : List (Nat × Nat)} {a c : Nat} (g : GS K H r lf sa sh a c) (h : H l = none) : l ≠ r ∧ l ≠ lf ∧ l ≠ sa := by
  refine ⟨fun e => ?_, fun e => ?_, fun e => ?_⟩
  · exact g.row.ne (e ▸ h)
  · have := g.left
    rw [← e, h] at this
    cases this
  · obtain ⟨vs, h1, _⟩ := g.shp
    rw [← e, h] at h1
    cases h1
/-- the left count is changed -/
theorem GS.lefts {H H1 : Hp} {r lf sa : Addr} {sh : List (Nat × Nat)} {a c a1 c1 : Nat} (g : GS K H r lf sa sh a c) (k : Keep [lf] H H1) (h : H1 lf = some (.lst [.int (a1 : Int), .int (c1 : Int)])) : GS K H1 r lf sa sh a1 c1 := by
  have t : Tst H H1 := k.ts fun x hx => by cases List.mem_singleton.mp hx; exact .inl ⟨_, g.left⟩
  exact ⟨g.row.keep k (by simpa using Ne.symm g.n1) t, h, g.shp.keep k (by simpa using g.n3) t, g.n1, g.n2, g.n3, g.few, g.small⟩
def spStep (K : PySem.W.Frag) (n : Nat) : Sp := fun vs H Q _ => ∃ (r sa lf : Addr) (sh : List (Nat × Nat)) (at_ a c : Nat) (wi : Int), vs = [.ref r, .ref sa, .int (at_ : Int), .ref lf, .int wi] ∧ GS K H r lf sa sh a c ∧ at_ < sh.length ∧ 0 ≤ wi ∧ wi < n ∧
  ∀ (v : V) (s : St) (H' : Hp) (a1 c1 : Nat), Rp K H' v s.enc → St.ok sh at_ wi.toNat s → s.many + a1 ≤ a + 1 → s.calls + c1 ≤ c → Keep [r, lf] H H' → GS K H' r lf sa sh a1 c1 → Q v H'
def spBody (K : PySem.W.Frag) (n : Nat) : Sp := fun vs H Q _ => ∃ (r sa lf : Addr) (sh : List (Nat × Nat)) (at_ a c : Nat) (wi : Int), vs = [.ref r, .ref sa, .int (at_ : Int), .ref lf, .int wi] ∧ GS K H r lf sa sh a c ∧ at_ < sh.length ∧ 0 ≤ wi ∧ wi < n ∧
  ∀ (v : V) (b : Sts) (H' : Hp) (a1 c1 : Nat), Rp K H' v (.tuple b.encs) → Sts.ok sh at_ wi.toNat b → b.many + a1 ≤ a → b.calls + c1 ≤ c → Keep [r, lf] H H' → GS K H' r lf sa sh a1 c1 → Q v H'
abbrev sL_step : Stmt := top 35
abbrev nL_step : List Str := ["_law_row", "_law_shapes", "_law_at", "_law_left", "_law_within", "_law_sizes", "_law_way", "_law_work", "_law_things", "_law_k", "_law_thing_here", "_law_first"]
abbrev pL_step : List Str := ["_law_row", "_law_shapes", "_law_at", "_law_left", "_law_within"]
theorem scL_step : FnScope nL_step pL_step (defScope sL_step) := ⟨rfl, rfl, rfl, by decide +kernel, rfl, by decide +kernel, by decide +kernel⟩
abbrev sL_body : Stmt := top 36
abbrev nL_body : List Str := ["_law_row", "_law_shapes", "_law_at", "_law_left", "_law_within", "_law_found", "_law_turn"]
abbrev pL_body : List Str := ["_law_row", "_law_shapes", "_law_at", "_law_left", "_law_within"]
theorem scL_body : FnScope nL_body pL_body (defScope sL_body) := ⟨rfl, rfl, rfl, by decide +kernel, rfl, by decide +kernel, by decide +kernel⟩
theorem okStep {n : Nat} (D : DefAt K mg "_law_step" sL_step pL_step) (T : Blt mg) (C_law_taken : Callee P w K mg base "_law_taken" 1 pL_taken (spTaken K)) (C_law_thing : Callee P w K mg base "_law_thing" 5 pL_thing (spThing K 3))
    (C_law_place : Callee P w K mg base "_law_place" 6 pL_place (spPlace K)) (C_law_body : Callee P w K mg base "_law_body" (2 * n + 8) pL_body (spBody K n)) : Callee P w K mg base "_law_step" (2 * n + 9) pL_step (spStep K (n + 1)) := by
  refine D.ok scL_step (fun vs H Q E h => ?_) (fun f cdv A outer s H vs Q E hr h => ?_)
  · obtain ⟨r, sa, lf, sh, at_, a, c, wi, rfl, _⟩ := h
    rfl
  obtain ⟨r, sa, lf, sh, at_, a, c, wi, rfl, g, hat, w0, w1, q⟩ := h
  refine ⟨_, (pss_cons (ps_set (i := 5) scL_step.nd rfl (Or.inl rfl) (pe_ix (ixL (K := K)) (pv 1) (pv 2) (fun _ _ => rfl)))
  (pss_cons (ps_set (i := 6) scL_step.nd rfl (Or.inl rfl) (pcall C_law_taken (hr.mono (by omega)) rfl (pa_cons (pv 0) (pa_cons pe_int pa_nil))))
  (pss_cons (ps_if (PW.pt (pw_and (pt_cmpR op_gt (pv 6) pe_int (nomark _)) (pw_and (pt_cmpR op_lt (pe_op op_add (pv 2) pe_int) (pe_callB (cLen (K := K)) (by rfl) T.len PySem.boot_len (pa_cons (pv 1) pa_nil)) (nomark _)) (pw_and1 (pt_cmpR op_gt (pe_ix (ixL (K := K)) (pv 3) pe_int (fun _ _ => rfl)) pe_int (nomark _)))))) (pss_cons (ps_asg (pe_op op_sub (pe_ix (ixL (K := K)) (pv 3) pe_int (fun _ _ => rfl)) pe_int) (pg_sub (pv 3) pe_int set_list))
  (pss_cons (ps_set (i := 7) scL_step.nd rfl (Or.inl rfl) (pe_op op_add (pe_op op_add (pv 2) pe_int) (pcall C_law_taken (hr.mono (by omega)) rfl (pa_cons (pv 0) (pa_cons (pe_op op_sub (pe_op op_sub (pe_callB (cLen (K := K)) (by rfl) T.len PySem.boot_len (pa_cons (pv 1) pa_nil)) (pv 2)) pe_int) pa_nil)))))
  (pss_cons (ps_set (i := 8) scL_step.nd rfl (Or.inl rfl) (pe_lst pa_nil))
  (pss_cons (ps_for PassesOwn.never rfl (pi_range1 rfl T.range (pa_cons (pe_ix (ixT (K := K)) (pe_ix (ixL (K := K)) (pv 1) (pv 7) (fun _ _ => rfl)) pe_int (fun _ _ => rfl)) pa_nil)) (pg_name (i := 9) scL_step.nd rfl (Or.inl rfl))
   (pss_cons (ps_set (i := 10) scL_step.nd rfl (Or.inl rfl) (pcall C_law_thing (hr.mono (by omega)) rfl (pa_cons (pv 0) (pa_cons (pv 5) (pa_cons pe_int pa_nil)))))
  (pss_one (ps_expr (peApp (K := K) (pv 8) (pe_ifExp (pt_cmpR op_eq (pcall C_law_taken (hr.mono (by omega)) rfl (pa_cons (pv 0) (pa_cons pe_int pa_nil))) pe_int (nomark _)) (pv 10) (pcall C_law_place (hr.mono (by omega)) rfl (pa_cons (pv 0) (pa_cons (pv 5) (pa_cons pe_int pa_nil))))))))))
  (pss_one (ps_ret (pe_tup (pa_cons pe_str (pa_cons (pv 7) (pa_cons (pe_callTy (cTuple (K := K)) (by rfl) T.tuple (by decide +kernel) (pa_cons (pv 8) pa_nil)) pa_nil)))))))))) pss_nil)
  (pss_cons (ps_if (PW.pt (pw_and (pt_cmpR op_eq (pv 6) pe_int (nomark _)) (pw_and1 (pt_cmpR op_gt (pv 4) pe_int (nomark _))))) (pss_cons (ps_set (i := 11) scL_step.nd rfl (Or.inl rfl) (pcall C_law_body (hr.mono (by omega)) rfl (pa_cons (pv 0) (pa_cons (pv 1) (pa_cons (pv 2) (pa_cons (pv 3) (pa_cons (pe_op op_sub (pv 4) pe_int) pa_nil)))))))
  (pss_one (ps_ret (pe_tup (pa_cons pe_str (pa_cons (pcall C_law_thing (hr.mono (by omega)) rfl (pa_cons (pv 0) (pa_cons (pv 5) (pa_cons pe_int pa_nil)))) (pa_cons (pv 11) (pa_cons (pcall C_law_body (hr.mono (by omega)) rfl (pa_cons (pv 0) (pa_cons (pv 1) (pa_cons (pv 2) (pa_cons (pv 3) (pa_cons (pe_op op_sub (pv 4) pe_int) pa_nil)))))) pa_nil)))))))) pss_nil)
  (pss_cons (ps_if (pt_cmpR op_eq (pv 6) pe_int (nomark _)) (pss_one (ps_ret (pe_tup (pa_cons pe_str (pa_cons (pcall C_law_thing (hr.mono (by omega)) rfl (pa_cons (pv 0) (pa_cons (pv 5) (pa_cons pe_int pa_nil)))) pa_nil))))) pss_nil)
  (pss_one (ps_ret (pe_tup (pa_cons pe_str (pa_cons (pcall C_law_place (hr.mono (by omega)) rfl (pa_cons (pv 0) (pa_cons (pv 5) (pa_cons pe_int pa_nil)))) (pa_cons (pcall C_law_thing (hr.mono (by omega)) rfl (pa_cons (pv 0) (pa_cons (pv 5) (pa_cons pe_int pa_nil)))) pa_nil))))))))))), ?_⟩
  obtain ⟨vs, hs, hl, hv⟩ := id g.shp
  obtain ⟨sz, ez, tz⟩ := hv at_ _ (List.getElem?_eq_getElem hat)
  have ez' := atI_nat ez
  have hsm := g.small _ (List.getElem_mem hat)
  have eq : sh.getD at_ (0, 0) = sh[at_] := by rw [List.getD_eq_getElem?_getD, List.getElem?_eq_getElem hat]; rfl
  walk_at "rd"
  refine ask ⟨r, _, rfl, by decide, by decide, g.row, fun v1 H1 v10 v11 k1 R1 => ?_⟩
  have g1 := g.drew k1 R1
  have tz1 := (g.row.ts k1).sqT tz
  have hs1 := k1 _ _ hs (by simpa using g.n2)
  have gl1 := g1.left
  have kk1 : Keep [r, lf] H H1 := k1.mono (by simp)
  walk_at "rd"
  refine r_andP (a := decide (6 < v1)) (b := decide ((at_ : Int) + 1 < (vs.length : Int)) && decide (0 < (c : Int))) (fun R hr => by walk_at "rd"; exact hr) (fun _ R hr => ?_) ?_
  · exact r_andP (a := decide ((at_ : Int) + 1 < (vs.length : Int))) (b := decide (0 < (c : Int))) (fun R hr => by walk_at "rd"; exact hr) (fun _ R hr => by walk_at "rd"; exact hr) hr
  refine ite2 (fun c1 => ?_) (fun c1 => ?_)
  · -- a call
    simp only [Bool.and_eq_true, decide_eq_true_eq] at c1
    obtain ⟨c1a, c1b, c1c⟩ := c1
    rw [hl] at c1b
    walk_at "rd"
    intro H2 h2 k2
    have e2 : ((c - 1 : Nat) : Int) = (c : Int) - 1 := by omega
    have g2 := g1.lefts (a1 := a) (c1 := c - 1) k2 (by rw [e2]; exact h2)
    have kk2 : Keep [r, lf] H H2 := kk1.trans (k2.mono (by simp))
    have hs2 := kk2 _ _ hs (by simp [g.n2, g.n3])
    walk_at "rd"
    refine ask ⟨r, _, rfl, by rw [hl]; omega, by rw [hl]; have := g.few; omega, g2.row, fun v3 H3 v30 v31 k3 R3 => ?_⟩
    rw [hl] at v31
    have g3 := g2.drew k3 R3
    have kk3 : Keep [r, lf] H H3 := kk2.trans (k3.mono (by simp))
    obtain ⟨m, rfl⟩ : ∃ m : Nat, v3 = m := ⟨v3.toNat, by omega⟩
    have hw : at_ + 1 + m < sh.length := by omega
    obtain ⟨tw, ew, tw'⟩ := hv (at_ + 1 + m) _ (List.getElem?_eq_getElem hw)
    have hsw := g.small _ (List.getElem_mem hw)
    have en : ((at_ + 1 + m : Nat) : Int) = (at_ : Int) + 1 + (m : Int) := by omega
    have ew' : atI vs ((at_ : Int) + 1 + (m : Int)) = some (V.ref tw) := by
      rw [← en]
      exact atI_nat ew
    walk_at "rd"
    intro l H4 n4 h4 k4
    have nl0 : H l = none := kk3.free (fun x hx => by
      rcases List.mem_cons.mp hx with rfl | hx
      · exact g3.row.ne
      · cases List.mem_singleton.mp hx
        rw [g3.left]
        exact fun z => nomatch z) n4
    obtain ⟨nl1, nl2, nl3⟩ := g.ne nl0
    have g4 := g3.keep0 k4
    have kk4 : Keep [r, lf] H H4 := kk3.by0 k4
    have hs4 := kk4 _ _ hs (by simp [g.n2, g.n3])
    have tw4 := (g.ts kk4).sqT tw'
    walk_at "rd"
    refine forR (fun i σ H' => ∃ (x y : Option V) (xs : List V) (ts : List Th), σ = [some (.ref r), some (.ref sa), some (.int at_), some (.ref lf), some (.int wi), some (.ref sz), some (.int v1), some (.int ((at_ : Int) + 1 + (m : Int))), some (.ref l), x, y, none] ∧
      GS K H' r lf sa sh a (c - 1) ∧ Keep [r, lf] H H' ∧ H' l = some (.lst xs) ∧ Rps K H' xs (ts.map Th.enc) ∧ ts.length = i ∧ ∀ t ∈ ts, Th.ok sh[at_].1 sh[at_].2 4 t) ⟨none, none, [], [], rfl, g4, kk4, h4, .nil, rfl, by simp⟩ (fun i σ H' hi hp => ?_) (fun σ H' hp => ?_)
    · obtain ⟨x, y, xs, ts, rfl, g5, kk5, h5, hx5, ei, ho5⟩ := hp
      have lx : xs.length = i := by rw [hx5.length, List.length_map, ei]
      have lb : xs.length ≤ 10 := by omega
      have tz5 := (g.ts kk5).sqT tz
      walk_at "rd"
      refine ask ⟨r, sz, sh[at_].1, sh[at_].2, 1, rfl, g5.row, tz5, by omega, by omega, by decide, by decide, fun va ta H6 ra oa k6 R6 => ?_⟩
      have h6 := k6 _ _ h5 (by simpa using nl1)
      have g6 := g5.drew k6 R6
      have kk6 : Keep [r, lf] H H6 := kk5.trans (k6.mono (by simp))
      walk_at "rd"
      refine ask ⟨r, _, rfl, by decide, by decide, R6, fun v7 H7 v70 v71 k7 R7 => ?_⟩
      have h7 := k7 _ _ h6 (by simpa using nl1)
      have g7 := g6.drew k7 R7
      have kk7 : Keep [r, lf] H H7 := kk6.trans (k7.mono (by simp))
      walk_at "rd"
      refine ite2 (fun c7 => ?_) (fun c7 => ?_)
      · walk_at "rd"
        intro H8 h8 k8
        have t8 : Tst H7 H8 := k8.ts fun x hx => by cases List.mem_singleton.mp hx; exact .inl ⟨_, h7⟩
        refine ⟨_, _, xs ++ [va], ts ++ [ta], rfl, g7.other k8 h7 nl1 nl2 nl3, kk7.fresh1 k8 nl0, h8, ?_, by rw [List.length_append, ei]; rfl, ?_⟩
        · rw [List.map_append]
          exact (((hx5.ts (g5.row.ts k6)).ts (g6.row.ts k7)).ts t8).append (.cons ((ra.ts (R6.ts k7)).ts t8) .nil)
        · intro t ht
          rcases List.mem_append.mp ht with ht | ht
          · exact ho5 t ht
          · cases List.mem_singleton.mp ht
            exact oa.mono (by decide)
      · have tz7 := (g.ts kk7).sqT tz
        walk_at "rd"
        refine ask ⟨r, sz, sh[at_].1, sh[at_].2, 1, rfl, R7, tz7, by omega, by omega, by decide, by decide, fun vb tb H8 rb pb ob k8 R8 => ?_⟩
        have h8 := k8 _ _ h7 (by simpa using nl1)
        have g8 := g7.drew k8 R8
        have kk8 : Keep [r, lf] H H8 := kk7.trans (k8.mono (by simp))
        walk_at "rd"
        intro H9 h9 k9
        have t9 : Tst H8 H9 := k9.ts fun x hx => by cases List.mem_singleton.mp hx; exact .inl ⟨_, h8⟩
        refine ⟨_, _, xs ++ [vb], ts ++ [tb], rfl, g8.other k9 h8 nl1 nl2 nl3, kk8.fresh1 k9 nl0, h9, ?_, by rw [List.length_append, ei]; rfl, ?_⟩
        · rw [List.map_append]
          exact ((((hx5.ts (g5.row.ts k6)).ts (g6.row.ts k7)).ts (g7.row.ts k8)).ts t9).append (.cons (rb.ts t9) .nil)
        · intro t ht
          rcases List.mem_append.mp ht with ht | ht
          · exact ho5 t ht
          · cases List.mem_singleton.mp ht
            exact ob.mono (by decide)
    · obtain ⟨x, y, xs, ts, rfl, g5, kk5, h5, hx5, ei, ho5⟩ := hp
      walk_at "rd"
      intro pt H6 n6 h6 k6
      walk_at "rd"
      intro pc H7 n7 h7 k7
      have r6 : Rp K H6 (.ref pt) (.tuple (ts.map Th.enc)) := .tup (SqT.of h6) (hx5.ts (keep_ts0 k6))
      refine q _ (.call (at_ + 1 + m) ts) _ a (c - 1) (.tup (SqT.of h7) (.cons (.str _) (.cons (by rw [en]; exact .int _) (.cons (r6.ts (keep_ts0 k7)) .nil)))) (St.ok_call (by omega) hw (by rw [ei, getD_at hw]; exact Int.toNat_natCast _) (by rw [eq]; exact ho5)) (by unfold St.many; omega) (by unfold St.calls; omega)
        ((kk5.by0 k6).by0 k7) ((g5.keep0 k6).keep0 k7)
  walk_at "rd"
  refine r_andP (a := decide (V.int v1 = V.int 6)) (b := decide (0 < wi)) (fun R hr => by walk_at "rd"; exact hr) (fun _ R hr => by walk_at "rd"; exact hr) ?_
  refine ite2 (fun c2 => ?_) (fun c2 => ?_)
  · -- an if
    simp only [Bool.and_eq_true, decide_eq_true_eq] at c2
    obtain ⟨c2a, c2b⟩ := c2
    have eD : wi.toNat = (wi - 1).toNat + 1 := by omega
    walk_at "rd"
    refine ask ⟨r, sa, lf, sh, at_, a, c, _, rfl, g1, hat, by omega, by omega, fun vb b1 H2 a2 c2 rb ob mb cb k2 g2 => ?_⟩
    have kk2 : Keep [r, lf] H H2 := kk1.trans k2
    have tz2 := (g.ts kk2).sqT tz
    walk_at "rd"
    refine ask ⟨r, sz, sh[at_].1, sh[at_].2, 1, rfl, g2.row, tz2, by omega, by omega, by decide, by decide, fun va ta H3 ra oa k3 R3 => ?_⟩
    have g3 := g2.drew k3 R3
    walk_at "rd"
    refine ask ⟨r, sa, lf, sh, at_, a2, c2, _, rfl, g3, hat, by omega, by omega, fun vd b2 H4 a4 c4 rd od md cd k4 g4 => ?_⟩
    walk_at "rd"
    intro pc H5 n5 h5 k5
    have rb5 := ((rb.ts (g2.row.ts k3)).ts (g3.ts k4)).ts (keep_ts0 k5)
    have ra5 := (ra.ts (g3.ts k4)).ts (keep_ts0 k5)
    refine q _ (.ite ta b1 b2) _ a4 c4 (.tup (SqT.of h5) (.cons (.str _) (.cons ra5 (.cons rb5 (.cons (rd.ts (keep_ts0 k5)) .nil))))) ?_ (by unfold St.many; omega) (by unfold St.calls; omega)
      (((kk2.trans (k3.mono (by simp))).trans k4).by0 k5) (g4.keep0 k5)
    rw [eD]
    refine St.ok_ite ?_ ob od
    rw [eq]
    exact oa.mono (by decide)
  walk_at "rd"
  refine ite2 (fun c3 => ?_) (fun c3 => ?_)
  · -- say
    walk_at "rd"
    refine ask ⟨r, sz, sh[at_].1, sh[at_].2, 2, rfl, R1, tz1, by omega, by omega, by decide, by decide, fun va ta H3 ra oa k3 R3 => ?_⟩
    walk_at "rd"
    intro pc H5 n5 h5 k5
    refine q _ (.say ta) _ a c (.tup (SqT.of h5) (.cons (.str _) (.cons (ra.ts (keep_ts0 k5)) .nil))) (St.ok_say ?_) (by unfold St.many; omega) (by unfold St.calls; omega) ((kk1.trans (k3.mono (by simp))).by0 k5) ((g1.drew k3 R3).keep0 k5)
    rw [eq]
    exact oa.mono (by decide)
  · -- set
    walk_at "rd"
    refine ask ⟨r, sz, sh[at_].1, sh[at_].2, 1, rfl, R1, tz1, by omega, by omega, by decide, by decide, fun vb tb H2 rb pb ob k2 R2 => ?_⟩
    have tz2 := (R1.ts k2).sqT tz1
    walk_at "rd"
    refine ask ⟨r, sz, sh[at_].1, sh[at_].2, 2, rfl, R2, tz2, by omega, by omega, by decide, by decide, fun va ta H3 ra oa k3 R3 => ?_⟩
    walk_at "rd"
    intro pc H5 n5 h5 k5
    refine q _ (.set tb ta) _ a c (.tup (SqT.of h5) (.cons (.str _) (.cons ((rb.ts (R2.ts k3)).ts (keep_ts0 k5)) (.cons (ra.ts (keep_ts0 k5)) .nil)))) (St.ok_set pb ?_ ?_) (by unfold St.many; omega) (by unfold St.calls; omega)
      (((kk1.trans (k2.mono (by simp))).trans (k3.mono (by simp))).by0 k5) (((g1.drew k2 R2).drew k3 R3).keep0 k5)
    · rw [eq]
      exact ob.mono (by decide)
    · rw [eq]
      exact oa.mono (by decide)
end
end Hw
namespace Hw
open PySem PySem.Spec PyProof.Rows L2
local macro_rules | `(tactic| walk_at "sz") => `(tactic| first | exact Nat.le_of_ble_eq_true rfl | exact small (by first | omega | (simp; done) | (simp; omega)))
local macro_rules | `(tactic| walk_at "szT") => `(tactic| first | exact Nat.lt_of_lt_of_le (Nat.lt_succ_self _) (Nat.le_of_ble_eq_true rfl) | exact smallT (by first | omega | (simp; done) | (simp; omega)))
local macro_rules | `(tactic| walk_at "cond") => `(tactic| first | decide | omega | (dsimp only; omega) | exact ⟨by omega, by omega⟩ | exact .inr ⟨by decide, by decide⟩)
local macro_rules | `(tactic| walk_at "sq") => `(tactic| first | assumption | exact SqL.of (by assumption) | exact SqT.of (by assumption))
local macro_rules | `(tactic| walk_at "ty") => `(tactic| first | (with_reducible assumption) | exact .base (.int _) | exact .base (.str _) | exact .base (.bl _) | exact .base .non | exact tyT (by walk_at "sq") | exact tyL (by walk_at "sq"))
local macro_rules | `(tactic| walk_at "rd1") => `(tactic| first
  | ((with_reducible apply r_seq))
  | ((with_reducible apply r_asg))
  | ((with_reducible apply r_name))
  | ((with_reducible apply r_op))
  | ((with_reducible apply r_var); exact rfl)
  | ((with_reducible apply r_c))
  | ((with_reducible apply r_ixT); (walk_at "sq"); first | exact rfl | assumption)
  | ((with_reducible apply r_ixL); (walk_at "sq"); first | exact rfl | assumption)
  | ((with_reducible apply r_ixA); (first | exact .inl (by walk_at "sq") | exact .inr (by walk_at "sq")); first | exact rfl | assumption)
  | ((with_reducible apply r_isi); (walk_at "ty"); (decide +kernel))
  | ((with_reducible apply r_isiT2); assumption; (walk_at "ty"); (decide +kernel); (decide +kernel))
  | ((with_reducible apply r_I0))
  | ((with_reducible apply r_I); (walk_at "cond"))
  | ((with_reducible apply r_eq); exact rfl)
  | ((with_reducible apply r_ne); exact rfl)
  | ((with_reducible apply r_test))
  | ((with_reducible apply r_bl))
  | ((with_reducible apply r_if))
  | ((with_reducible apply r_nil))
  | ((with_reducible apply r_cons))
  | ((with_reducible apply r_call))
  | ((with_reducible apply r_cb))
  | ((with_reducible apply r_tup))
  | ((with_reducible apply r_lst))
  | ((with_reducible apply new); (walk_at "sz"))
  | ((with_reducible apply r_ret))
  | ((with_reducible apply r_retN))
  | ((with_reducible apply r_next))
  | ((with_reducible apply r_drop))
  | ((with_reducible apply r_lenL); (walk_at "sq"))
  | ((with_reducible apply r_lenT); (walk_at "sq"))
  | ((with_reducible apply r_int))
  | ((with_reducible apply r_intB))
  | ((with_reducible apply r_isN))
  | ((with_reducible apply r_notN))
  | ((with_reducible apply r_B))
  | ((with_reducible apply r_not))
  | ((with_reducible apply r_notV))
  | ((with_reducible apply r_andV))
  | ((with_reducible apply r_orV))
  | ((with_reducible apply r_ifE))
  | ((with_reducible apply r_chain))
  | ((with_reducible apply ite_t); (first | (with_reducible exact nRN) | (with_reducible exact nIN) | (with_reducible exact dNN) | decide +kernel))
  | ((with_reducible apply ite_f); (first | (with_reducible exact dRN) | (with_reducible exact dIN) | (with_reducible exact nNN) | decide +kernel))
  | ((with_reducible apply r_in); (first | exact .inl (by walk_at "sq") | exact .inr (by walk_at "sq")); exact rfl; (first | exact nums_flat | exact rfl))
  | ((with_reducible apply turn))
  | ((with_reducible apply r_for))
  | ((with_reducible apply r_iRng1))
  | ((with_reducible apply r_rng); (first | decide | omega | (simp; omega)); (first | decide | omega | (simp; omega)))
  | ((with_reducible apply r_iList))
  | ((with_reducible apply r_iTup))
  | ((with_reducible apply r_overL); (walk_at "sq"))
  | ((with_reducible apply r_overT); (walk_at "sq"))
  | ((with_reducible apply r_lc))
  | ((with_reducible apply acc); assumption; (walk_at "szT"))
  | ((with_reducible apply r_sub))
  | ((with_reducible apply r_setL); assumption; exact rfl)
  | ((with_reducible apply r_gtup); (walk_at "sq"); rfl)
  | ((with_reducible apply r_gnil))
  | ((with_reducible apply r_gcons))
  | ((with_reducible apply r_par))
  | ((with_reducible apply r_par2))
  | ((with_reducible apply r_sl))
  | ((with_reducible apply r_part))
  | ((with_reducible apply r_part1))
  | ((with_reducible apply r_noPart))
  | ((with_reducible apply r_slL); (walk_at "sq"))
  | ((with_reducible apply r_slA); (walk_at "sq"))
  | ((with_reducible apply r_tupL); (walk_at "sq"))
  | ((with_reducible apply r_tupT); (walk_at "sq"))
  | ((with_reducible apply r_lstL); (walk_at "sq"))
  | ((with_reducible apply r_lstT); (walk_at "sq"))
  | ((with_reducible apply r_append))
  | ((with_reducible apply r_isL); (walk_at "sq"))
  | ((with_reducible apply r_app); assumption; (walk_at "szT"))
  | ((with_reducible apply r_dget))
  | ((with_reducible apply r_dgetS); assumption; (walk_at "dk"))
  | ((with_reducible apply r_dput))
  | ((with_reducible apply r_dputS); assumption; (walk_at "szT"))
  | ((with_reducible apply r_disp))
  | ((with_reducible apply r_pnil))
  | ((with_reducible apply r_pcons))
  | ((with_reducible apply r_fld))
  | ((with_reducible apply r_fld1); assumption; assumption; assumption; (first | exact rfl | assumption))
  | ((with_reducible apply r_sfld))
  | ((with_reducible apply r_sfld1); assumption; assumption; assumption; exact (by decide)))
local macro_rules | `(tactic| walk_at "rd") => `(tactic| repeat walk_at "rd1")
section
variable {P : Program} {w : World} {K : PySem.W.Frag} {mg : Str → Option Value} {base : Heap}
theorem GS.free {H H1 : Hp} {r lf sa l : Addr} {sh : List (Nat × Nat)} {a c : Nat} (g : GS K H1 r lf sa sh a c) (k : Keep [r, lf] H H1) (h : H1 l = none) : H l = none := k.free (fun x hx => by
  rcases List.mem_cons.mp hx with rfl | hx
  · exact g.row.ne
  · cases List.mem_singleton.mp hx
    rw [g.left]
    exact fun z => nomatch z) h
theorem okBody {n : Nat} (D : DefAt K mg "_law_body" sL_body pL_body) (T : Blt mg) (C_law_taken : Callee P w K mg base "_law_taken" 1 pL_taken (spTaken K)) (C_law_step : Callee P w K mg base "_law_step" (2 * n + 7) pL_step (spStep K n)) : Callee P w K mg base "_law_body" (2 * n + 8) pL_body (spBody K n) := by
  refine D.ok scL_body (fun vs H Q E h => ?_) (fun f cdv A outer s H vs Q E hr h => ?_)
  · obtain ⟨r, sa, lf, sh, at_, a, c, wi, rfl, _⟩ := h
    rfl
  obtain ⟨r, sa, lf, sh, at_, a, c, wi, rfl, g, hat, w0, w1, q⟩ := h
  refine ⟨_, (pss_cons (ps_set (i := 5) scL_body.nd rfl (Or.inl rfl) (pe_lst pa_nil))
  (pss_cons (ps_for PassesOwn.never rfl (pi_range1 rfl T.range (pa_cons (pcall C_law_taken (hr.mono (by omega)) rfl (pa_cons (pv 0) (pa_cons (pe_ix (ixL (K := K)) (pe_lst (pa_cons pe_int (pa_cons pe_int pa_nil))) (pe_callTy c_int (by rfl) T.int (by decide +kernel) (pa_cons (pe_cmpR op_gt (pe_ix (ixL (K := K)) (pv 3) pe_int (fun _ _ => rfl)) pe_int (nomark _)) pa_nil)) (fun _ _ => rfl)) pa_nil))) pa_nil)) (pg_name (i := 6) scL_body.nd rfl (Or.inl rfl))
   (pss_one (ps_if (pt_cmpR op_gt (pe_ix (ixL (K := K)) (pv 3) pe_int (fun _ _ => rfl)) pe_int (nomark _)) (pss_cons (ps_asg (pe_op op_sub (pe_ix (ixL (K := K)) (pv 3) pe_int (fun _ _ => rfl)) pe_int) (pg_sub (pv 3) pe_int set_list))
  (pss_one (ps_expr (peApp (K := K) (pv 5) (pcall C_law_step (hr.mono (by omega)) rfl (pa_cons (pv 0) (pa_cons (pv 1) (pa_cons (pv 2) (pa_cons (pv 3) (pa_cons (pv 4) pa_nil)))))))))) pss_nil)))
  (pss_one (ps_ret (pe_callTy (cTuple (K := K)) (by rfl) T.tuple (by decide +kernel) (pa_cons (pv 5) pa_nil)))))), ?_⟩
  have e1 : atI ([.int 5, .int 14] : List V) (if decide (12 < (a : Int)) = true then 1 else 0) = some (.int (if 12 < (a : Int) then 14 else 5)) := by
    by_cases h : 12 < (a : Int)
    · simp only [h, decide_true, if_true]; rfl
    · simp only [h, decide_false, if_false]; rfl
  walk_at "rd"
  intro l H1 n1 h1 k1
  have g1 := g.keep0 k1
  have gl1 := g1.left
  obtain ⟨nl1, nl2, nl3⟩ := g.ne n1
  walk_at "rd"
  intro pl H2 n2 h2 k2
  have g2 := g1.keep0 k2
  have gl2 := g2.left
  walk_at "rd"
  refine ask ⟨r, _, rfl, by split <;> decide, by split <;> decide, g2.row, fun v3 H3 v30 v31 k3 R3 => ?_⟩
  have g3 := g2.drew k3 R3
  have kk3 : Keep [r, lf] H H3 := ((Keep.refl.by0 k1).by0 k2).trans (k3.mono (by simp))
  have h3 := k3 _ _ (k2 _ _ h1 (by simp)) (by simpa using nl1)
  have v32 : v3 < 14 := by split at v31 <;> omega
  walk_at "rd"
  refine forR (fun i σ H' => ∃ (y : Option V) (xs : List V) (b : Sts) (a1 c1 : Nat), σ = [some (.ref r), some (.ref sa), some (.int at_), some (.ref lf), some (.int wi), some (.ref l), y] ∧
    GS K H' r lf sa sh a1 c1 ∧ Keep [r, lf] H H' ∧ H' l = some (.lst xs) ∧ Rps K H' xs b.encs ∧ Sts.ok sh at_ wi.toNat b ∧ b.many + a1 ≤ a ∧ b.calls + c1 ≤ c ∧ xs.length ≤ i) ⟨none, [], .nil, a, c, rfl, g3, kk3, h3, .nil, by unfold Sts.ok; trivial, by unfold Sts.many; omega, by unfold Sts.calls; omega, Nat.le_refl _⟩ (fun i σ H' hi hp => ?_) (fun σ H' hp => ?_)
  · obtain ⟨y, xs, b, a1, c1, rfl, g4, kk4, h4, hx4, ob4, mb4, cb4, lx⟩ := hp
    have gl4 := g4.left
    have lb : xs.length ≤ 20 := by omega
    walk_at "rd"
    refine ite2 (fun c5 => ?_) (fun c5 => ?_)
    · have c5' := of_decide_eq_true c5
      walk_at "rd"
      intro H5 h5 k5
      have e5 : ((a1 - 1 : Nat) : Int) = (a1 : Int) - 1 := by omega
      have g5 := g4.lefts (a1 := a1 - 1) (c1 := c1) k5 (by rw [e5]; exact h5)
      have t5 : Tst H' H5 := g4.ts (k5.mono (by simp))
      have hl5 := k5 _ _ h4 (by simpa using nl2)
      have kk5 : Keep [r, lf] H H5 := kk4.trans (k5.mono (by simp))
      walk_at "rd"
      refine ask ⟨r, sa, lf, sh, at_, a1 - 1, c1, wi, rfl, g5, hat, w0, w1, fun vs6 s6 H6 a6 c6 rs6 os6 ms6 cs6 k6 g6 => ?_⟩
      have hl6 := k6 _ _ hl5 (by simp [nl1, nl2])
      have kk6 := kk5.trans k6
      walk_at "rd"
      intro H7 h7 k7
      have t7 : Tst H6 H7 := k7.ts fun x hx => by cases List.mem_singleton.mp hx; exact .inl ⟨_, hl6⟩
      refine ⟨_, xs ++ [vs6], b.app (.cons s6 .nil), a6, c6, rfl, g6.other k7 hl6 nl1 nl2 nl3, kk6.fresh1 k7 n1, h7, ?_, Sts.ok_app ob4 (by unfold Sts.ok; exact ⟨os6, by unfold Sts.ok; trivial⟩), ?_, ?_, by rw [List.length_append, List.length_singleton]; omega⟩
      · rw [Sts.encs_app]
        exact (((hx4.ts t5).ts (g5.ts k6)).ts t7).append (.cons (rs6.ts t7) .nil)
      · rw [Sts.many_app]
        have : (Sts.cons s6 .nil).many = s6.many := by unfold Sts.many; show s6.many + 0 = _; omega
        omega
      · rw [Sts.calls_app]
        have : (Sts.cons s6 .nil).calls = s6.calls := by unfold Sts.calls; show s6.calls + 0 = _; omega
        omega
    · walk_at "rd"
      exact ⟨_, xs, b, a1, c1, rfl, g4, kk4, h4, hx4, ob4, mb4, cb4, by omega⟩
  · obtain ⟨y, xs, b, a1, c1, rfl, g4, kk4, h4, hx4, ob4, mb4, cb4, lx⟩ := hp
    walk_at "rd"
    intro pt H6 n6 h6 k6
    exact q _ b _ a1 c1 (.tup (SqT.of h6) (hx4.ts (keep_ts0 k6))) ob4 mb4 cb4 (kk4.by0 k6) (g4.keep0 k6)
theorem okSteps (DS : DefAt K mg "_law_step" sL_step pL_step) (DB : DefAt K mg "_law_body" sL_body pL_body) (T : Blt mg) (C_law_taken : Callee P w K mg base "_law_taken" 1 pL_taken (spTaken K)) (C_law_thing : Callee P w K mg base "_law_thing" 5 pL_thing (spThing K 3))
    (C_law_place : Callee P w K mg base "_law_place" 6 pL_place (spPlace K)) : ∀ n : Nat, Callee P w K mg base "_law_step" (2 * n + 7) pL_step (spStep K n) ∧ Callee P w K mg base "_law_body" (2 * n + 8) pL_body (spBody K n)
  | 0 => by
    have h0 : Callee P w K mg base "_law_step" (2 * 0 + 7) pL_step (spStep K 0) := DS.none fun vs H Q E h => by
      obtain ⟨r, sa, lf, sh, at_, a, c, wi, rfl, g, hat, w0, w1, q⟩ := h
      omega
    exact ⟨h0, okBody DB T C_law_taken h0⟩
  | n + 1 => by
    have ih := okSteps DS DB T C_law_taken C_law_thing C_law_place n
    have h1 : Callee P w K mg base "_law_step" (2 * (n + 1) + 7) pL_step (spStep K (n + 1)) := okStep DS T C_law_taken C_law_thing C_law_place ih.2
    exact ⟨h1, okBody DB T C_law_taken h1⟩
end
end Hw
namespace Hw
open PySem PySem.Spec PyProof.Rows L2
local macro_rules | `(tactic| walk_at "sz") => `(tactic| first | exact Nat.le_of_ble_eq_true rfl | exact small (by first | omega | (simp; done) | (simp; omega)))
local macro_rules | `(tactic| walk_at "szT") => `(tactic| first | exact Nat.lt_of_lt_of_le (Nat.lt_succ_self _) (Nat.le_of_ble_eq_true rfl) | exact smallT (by first | omega | (simp; done) | (simp; omega)))
local macro_rules | `(tactic| walk_at "cond") => `(tactic| first | decide | omega | (dsimp only; omega) | exact ⟨by omega, by omega⟩ | exact .inr ⟨by decide, by decide⟩)
local macro_rules | `(tactic| walk_at "sq") => `(tactic| first | assumption | exact SqL.of (by assumption) | exact SqT.of (by assumption))
local macro_rules | `(tactic| walk_at "ty") => `(tactic| first | (with_reducible assumption) | exact .base (.int _) | exact .base (.str _) | exact .base (.bl _) | exact .base .non | exact tyT (by walk_at "sq") | exact tyL (by walk_at "sq"))
local macro_rules | `(tactic| walk_at "rd1") => `(tactic| first
  | ((with_reducible apply r_seq))
  | ((with_reducible apply r_asg))
  | ((with_reducible apply r_name))
  | ((with_reducible apply r_op))
  | ((with_reducible apply r_var); exact rfl)
  | ((with_reducible apply r_c))
  | ((with_reducible apply r_ixT); (walk_at "sq"); first | exact rfl | assumption)
  | ((with_reducible apply r_ixL); (walk_at "sq"); first | exact rfl | assumption)
  | ((with_reducible apply r_ixA); (first | exact .inl (by walk_at "sq") | exact .inr (by walk_at "sq")); first | exact rfl | assumption)
  | ((with_reducible apply r_isi); (walk_at "ty"); (decide +kernel))
  | ((with_reducible apply r_isiT2); assumption; (walk_at "ty"); (decide +kernel); (decide +kernel))
  | ((with_reducible apply r_I0))
  | ((with_reducible apply r_I); (walk_at "cond"))
  | ((with_reducible apply r_eq); exact rfl)
  | ((with_reducible apply r_ne); exact rfl)
  | ((with_reducible apply r_test))
  | ((with_reducible apply r_bl))
  | ((with_reducible apply r_if))
  | ((with_reducible apply r_nil))
  | ((with_reducible apply r_cons))
  | ((with_reducible apply r_call))
  | ((with_reducible apply r_cb))
  | ((with_reducible apply r_tup))
  | ((with_reducible apply r_lst))
  | ((with_reducible apply new); (walk_at "sz"))
  | ((with_reducible apply r_ret))
  | ((with_reducible apply r_retN))
  | ((with_reducible apply r_next))
  | ((with_reducible apply r_drop))
  | ((with_reducible apply r_lenL); (walk_at "sq"))
  | ((with_reducible apply r_lenT); (walk_at "sq"))
  | ((with_reducible apply r_int))
  | ((with_reducible apply r_intB))
  | ((with_reducible apply r_isN))
  | ((with_reducible apply r_notN))
  | ((with_reducible apply r_B))
  | ((with_reducible apply r_not))
  | ((with_reducible apply r_notV))
  | ((with_reducible apply r_andV))
  | ((with_reducible apply r_orV))
  | ((with_reducible apply r_ifE))
  | ((with_reducible apply r_chain))
  | ((with_reducible apply ite_t); (first | (with_reducible exact nRN) | (with_reducible exact nIN) | (with_reducible exact dNN) | decide +kernel))
  | ((with_reducible apply ite_f); (first | (with_reducible exact dRN) | (with_reducible exact dIN) | (with_reducible exact nNN) | decide +kernel))
  | ((with_reducible apply r_in); (first | exact .inl (by walk_at "sq") | exact .inr (by walk_at "sq")); exact rfl; (first | exact nums_flat | exact rfl))
  | ((with_reducible apply turn))
  | ((with_reducible apply r_for))
  | ((with_reducible apply r_iRng1))
  | ((with_reducible apply r_rng); (first | decide | omega | (simp; omega)); (first | decide | omega | (simp; omega)))
  | ((with_reducible apply r_iList))
  | ((with_reducible apply r_iTup))
  | ((with_reducible apply r_overL); (walk_at "sq"))
  | ((with_reducible apply r_overT); (walk_at "sq"))
  | ((with_reducible apply r_lc))
  | ((with_reducible apply acc); assumption; (walk_at "szT"))
  | ((with_reducible apply r_sub))
  | ((with_reducible apply r_setL); assumption; exact rfl)
  | ((with_reducible apply r_gtup); (walk_at "sq"); rfl)
  | ((with_reducible apply r_gnil))
  | ((with_reducible apply r_gcons))
  | ((with_reducible apply r_par))
  | ((with_reducible apply r_par2))
  | ((with_reducible apply r_sl))
  | ((with_reducible apply r_part))
  | ((with_reducible apply r_part1))
  | ((with_reducible apply r_noPart))
  | ((with_reducible apply r_slL); (walk_at "sq"))
  | ((with_reducible apply r_slA); (walk_at "sq"))
  | ((with_reducible apply r_tupL); (walk_at "sq"))
  | ((with_reducible apply r_tupT); (walk_at "sq"))
  | ((with_reducible apply r_lstL); (walk_at "sq"))
  | ((with_reducible apply r_lstT); (walk_at "sq"))
  | ((with_reducible apply r_append))
  | ((with_reducible apply r_isL); (walk_at "sq"))
  | ((with_reducible apply r_app); assumption; (walk_at "szT"))
  | ((with_reducible apply r_dget))
  | ((with_reducible apply r_dgetS); assumption; (walk_at "dk"))
  | ((with_reducible apply r_dput))
  | ((with_reducible apply r_dputS); assumption; (walk_at "szT"))
  | ((with_reducible apply r_disp))
  | ((with_reducible apply r_pnil))
  | ((with_reducible apply r_pcons))
  | ((with_reducible apply r_fld))
  | ((with_reducible apply r_fld1); assumption; assumption; assumption; (first | exact rfl | assumption))
  | ((with_reducible apply r_sfld))
  | ((with_reducible apply r_sfld1); assumption; assumption; assumption; exact (by decide)))
local macro_rules | `(tactic| walk_at "rd") => `(tactic| repeat walk_at "rd1")
section
variable {P : Program} {w : World} {K : PySem.W.Frag} {mg : Str → Option Value} {base : Heap}
/-! ### programs -/
theorem Shp.snoc {H H1 : Hp} {a t : Addr} {sh : List (Nat × Nat)} {vs : List V} {p o : Nat} (hl : vs.length = sh.length) (hv : ∀ (i : Nat) (q : Nat × Nat), sh[i]? = some q → ∃ t : Addr, vs[i]? = some (V.ref t) ∧ SqT K H t [.int (q.1 : Int), .int (q.2 : Int)])
    (ts : Tst H H1) (h1 : H1 a = some (.lst (vs ++ [.ref t]))) (ht : SqT K H1 t [.int (p : Int), .int (o : Int)]) : Shp K H1 a (sh ++ [(p, o)]) := by
  refine ⟨_, h1, by rw [List.length_append, List.length_append, hl]; rfl, fun i q e => ?_⟩
  by_cases hi : i < sh.length
  · rw [List.getElem?_append_left hi] at e
    obtain ⟨u, e1, e2⟩ := hv i q e
    exact ⟨u, by rw [List.getElem?_append_left (by omega)]; exact e1, ts.sqT e2⟩
  · rw [List.getElem?_append_right (by omega)] at e
    have : i - sh.length = 0 := by
      have := (List.getElem?_eq_some_iff.mp e).1
      simp at this
      omega
    rw [this] at e
    cases e
    exact ⟨t, by rw [List.getElem?_append_right (by omega), hl, this]; rfl, ht⟩
structure Lp (K : PySem.W.Frag) (H H' : Hp) (r sa l : Addr) (sh : List (Nat × Nat)) (xs : List V) (ws : List Wk) : Prop where
  row : Row K H' r
  keep : Keep [r] H H'
  shp : Shp K H' sa sh
  lst : H' l = some (.lst xs)
  rps : Rps K H' xs (ws.map Wk.enc)
  n0 : H sa = none
  n1 : H l = none
  nr : sa ≠ r
  nl : l ≠ r
  sl : sa ≠ l
  few : sh.length ≤ 4
  small : ∀ q ∈ sh, q.1 ≤ 3 ∧ q.2 ≤ 10
theorem Lp.drew {H H1 H2 : Hp} {r sa l : Addr} {sh : List (Nat × Nat)} {xs : List V} {ws : List Wk} (g : Lp K H H1 r sa l sh xs ws) (k : Keep [r] H1 H2) (R : Row K H2 r) : Lp K H H2 r sa l sh xs ws :=
  ⟨R, g.keep.trans k, g.shp.keep k (by simpa using g.nr) (g.row.ts k), k _ _ g.lst (by simpa using g.nl), g.rps.ts (g.row.ts k), g.n0, g.n1, g.nr, g.nl, g.sl, g.few, g.small⟩
theorem Lp.keep0 {H H1 H2 : Hp} {r sa l : Addr} {sh : List (Nat × Nat)} {xs : List V} {ws : List Wk} (g : Lp K H H1 r sa l sh xs ws) (k : Keep [] H1 H2) : Lp K H H2 r sa l sh xs ws :=
  ⟨g.row.keep0 k, g.keep.by0 k, g.shp.keep k (by simp) (keep_ts0 k), k _ _ g.lst (by simp), g.rps.ts (keep_ts0 k), g.n0, g.n1, g.nr, g.nl, g.sl, g.few, g.small⟩
/-- a new list was changed -/
theorem Lp.other {H H1 H2 : Hp} {r sa l e : Addr} {sh : List (Nat × Nat)} {xs ys : List V} {ws : List Wk} (g : Lp K H H1 r sa l sh xs ws) (k : Keep [e] H1 H2) (h : H1 e = some (.lst ys)) (n : H e = none) (n1 : e ≠ r) (n2 : e ≠ sa) (n3 : e ≠ l) : Lp K H H2 r sa l sh xs ws := by
  have t : Tst H1 H2 := k.ts fun x hx => by cases List.mem_singleton.mp hx; exact .inl ⟨_, h⟩
  exact ⟨g.row.keep k (by simpa using Ne.symm n1) t, g.keep.fresh1 k n, g.shp.keep k (by simpa using Ne.symm n2) t, k _ _ g.lst (by simpa using Ne.symm n3), g.rps.ts t, g.n0, g.n1, g.nr, g.nl, g.sl, g.few, g.small⟩
theorem Lp.free {H H1 : Hp} {r sa l e : Addr} {sh : List (Nat × Nat)} {xs : List V} {ws : List Wk} (g : Lp K H H1 r sa l sh xs ws) (h : H1 e = none) : H e = none ∧ e ≠ r ∧ e ≠ sa ∧ e ≠ l := by
  refine ⟨g.keep.free (fun x hx => by cases List.mem_singleton.mp hx; exact g.row.ne) h, fun z => g.row.ne (z ▸ h), fun z => ?_, fun z => ?_⟩
  · obtain ⟨vs, h1, _⟩ := g.shp
    rw [← z, h] at h1
    cases h1
  · have := g.lst
    rw [← z, h] at this
    cases this
def spProgram (K : PySem.W.Frag) : Sp := fun vs H Q _ => ∃ (r : Addr) (most : Nat), vs = [.ref r, .int (most : Int)] ∧ 1 ≤ most ∧ most ≤ 60 ∧ Row K H r ∧
  ∀ (v : V) (P : List Wk) (H' : Hp), Rp K H' v (encP P) → Good P (most + 2) → Keep [r] H H' → Row K H' r → Q v H'
abbrev sL_program : Stmt := top 37
abbrev nL_program : List Str := ["_law_row", "_law_most", "_law_shapes", "_law_k", "_law_owns", "_law_found", "_law_at", "_law_body_here", "_law_things"]
abbrev pL_program : List Str := ["_law_row", "_law_most"]
theorem scL_program : FnScope nL_program pL_program (defScope sL_program) := ⟨rfl, rfl, rfl, by decide +kernel, rfl, by decide +kernel, by decide +kernel⟩
theorem okProgram (D : DefAt K mg "_law_program" sL_program pL_program) (T : Blt mg) (C_law_taken : Callee P w K mg base "_law_taken" 1 pL_taken (spTaken K))
    (C_law_place : Callee P w K mg base "_law_place" 6 pL_place (spPlace K)) (C_law_body : Callee P w K mg base "_law_body" 14 pL_body (spBody K 3)) : Callee P w K mg base "_law_program" 15 pL_program (spProgram K) := by
  refine D.ok scL_program (fun vs H Q E h => ?_) (fun f cdv A outer s H vs Q E hr h => ?_)
  · obtain ⟨r, most, rfl, _⟩ := h
    rfl
  obtain ⟨r, most, rfl, m1, m2, hR, q⟩ := h
  refine ⟨_, (pss_cons (ps_set (i := 2) scL_program.nd rfl (Or.inr rfl) (pe_lst (pa_cons (pe_tup (pa_cons pe_int (pa_cons (pcall C_law_taken (hr.mono (by omega)) rfl (pa_cons (pv 0) (pa_cons pe_int pa_nil))) pa_nil))) pa_nil)))
  (pss_cons (ps_for PassesOwn.never rfl (pi_range1 rfl T.range (pa_cons (pcall C_law_taken (hr.mono (by omega)) rfl (pa_cons (pv 0) (pa_cons pe_int pa_nil))) pa_nil)) (pg_name (i := 3) scL_program.nd rfl (Or.inl rfl))
   (pss_cons (ps_set (i := 4) scL_program.nd rfl (Or.inl rfl) (pcall C_law_taken (hr.mono (by omega)) rfl (pa_cons (pv 0) (pa_cons (pe_ix (ixL (K := K)) (pe_lst (pa_cons pe_int (pa_cons pe_int (pa_cons pe_int (pa_cons pe_int (pa_cons pe_int (pa_cons pe_int pa_nil))))))) (pcall C_law_taken (hr.mono (by omega)) rfl (pa_cons (pv 0) (pa_cons pe_int pa_nil))) (fun _ _ => rfl)) pa_nil))))
  (pss_one (ps_expr (peApp (K := K) (pv 2) (pe_tup (pa_cons (pe_ix (ixL (K := K)) (pe_lst (pa_cons pe_int (pa_cons pe_int (pa_cons pe_int (pa_cons pe_int (pa_cons pe_int pa_nil)))))) (pcall C_law_taken (hr.mono (by omega)) rfl (pa_cons (pv 0) (pa_cons pe_int pa_nil))) (fun _ _ => rfl)) (pa_cons (pv 4) pa_nil))))))))
  (pss_cons (ps_set (i := 5) scL_program.nd rfl (Or.inl rfl) (pe_lst pa_nil))
  (pss_cons (ps_for PassesOwn.never rfl (pi_range1 rfl T.range (pa_cons (pe_callB (cLen (K := K)) (by rfl) T.len PySem.boot_len (pa_cons (pv 2) pa_nil)) pa_nil)) (pg_name (i := 6) scL_program.nd rfl (Or.inr rfl))
   (pss_cons (ps_set (i := 7) scL_program.nd rfl (Or.inl rfl) (pcall C_law_body (hr.mono (by omega)) rfl (pa_cons (pv 0) (pa_cons (pv 2) (pa_cons (pv 6) (pa_cons (pe_lst (pa_cons (pv 1) (pa_cons pe_int pa_nil))) (pa_cons pe_int pa_nil)))))))
  (Evl.pss_cut (ps_if (PW.pt (pw_and (pt_cmpR op_lt (pe_op op_add (pv 6) pe_int) (pe_callB (cLen (K := K)) (by rfl) T.len PySem.boot_len (pa_cons (pv 2) pa_nil)) (nomark _)) (pw_and1 (pt_cmpR op_gt (pcall C_law_taken (hr.mono (by omega)) rfl (pa_cons (pv 0) (pa_cons pe_int pa_nil))) pe_int (nomark _))))) (pss_cons (ps_set (i := 8) scL_program.nd rfl (Or.inl rfl) (pe_callTy (cTuple (K := K)) (by rfl) T.tuple (by decide +kernel) (pa_cons (pe_lc (own := [("_law_k", 3)]) (g := gName 3) (by rfl) scL_program.nd (pi_range1 rfl T.range (pa_cons (pe_ix (ixT (K := K)) (pe_ix (ixL (K := K)) (pv 2) (pe_op op_add (pv 6) pe_int) (fun _ _ => rfl)) pe_int (fun _ _ => rfl)) pa_nil)) (blkOk_by (own := [("_law_k", 3)]) (N := nL_program) (sc := defScope sL_program) (by decide +kernel)) (fun _ _ _ _ _ => (pg_name (i := 3) scL_program.nd rfl (Or.inl rfl))) (fun _ _ _ _ _ => pts_nil) (fun _ _ _ _ _ => (pcall C_law_place (hr.mono (by omega)) rfl (pa_cons (pv 0) (pa_cons (pe_ix (ixL (K := K)) (pv 2) (pv 6) (fun _ _ => rfl)) (pa_cons pe_int pa_nil)))))) pa_nil)))
  (pss_one (ps_set (i := 7) scL_program.nd rfl (Or.inl rfl) (pe_op (opCatA (K := K)) (pe_slice (slA (K := K)) (pv 7) po_none (po_some (pe_op op_sub (pv 1) pe_int))) (pe_tup (pa_cons (pe_tup (pa_cons pe_str (pa_cons (pe_op op_add (pv 6) pe_int) (pa_cons (pv 8) pa_nil)))) pa_nil)))))) pss_nil)
  (Evl.pss_cut (ps_if (PW.pt (pw_and (pt_cmpR op_gt (pv 6) pe_int (nomark _)) (pw_and (pt_cmpR op_gt (pe_ix (ixT (K := K)) (pe_ix (ixL (K := K)) (pv 2) (pv 6) (fun _ _ => rfl)) pe_int (fun _ _ => rfl)) pe_int (nomark _)) (pw_and1 (pt_cmpR op_eq (pcall C_law_taken (hr.mono (by omega)) rfl (pa_cons (pv 0) (pa_cons pe_int pa_nil))) pe_int (nomark _)))))) (pss_one (ps_set (i := 7) scL_program.nd rfl (Or.inl rfl) (pe_op (opCatA (K := K)) (pe_slice (slA (K := K)) (pv 7) po_none (po_some (pe_op op_sub (pv 1) pe_int))) (pe_tup (pa_cons (pe_tup (pa_cons pe_str (pa_cons (pe_tup (pa_cons pe_str (pa_cons pe_int pa_nil))) (pa_cons (pe_tup (pa_cons pe_str (pa_cons (pe_tup (pa_cons pe_str (pa_cons pe_int pa_nil))) (pa_cons (pe_tup (pa_cons pe_str (pa_cons pe_int pa_nil))) pa_nil)))) pa_nil)))) pa_nil))))) pss_nil)
  (pss_one (ps_expr (peApp (K := K) (pv 5) (pe_op (opCatA (K := K)) (pe_ix (ixL (K := K)) (pv 2) (pv 6) (fun _ _ => rfl)) (pe_tup (pa_cons (pv 7) pa_nil))))))))))
  (pss_one (ps_ret (pe_callTy (cTuple (K := K)) (by rfl) T.tuple (by decide +kernel) (pa_cons (pv 5) pa_nil)))))))), ?_⟩
  walk_at "rd"
  refine ask ⟨r, _, rfl, by decide, by decide, hR, fun v1 H1 v10 v11 k1 R1 => ?_⟩
  obtain ⟨o1, rfl⟩ : ∃ m : Nat, v1 = m := ⟨v1.toNat, by omega⟩
  walk_at "rd"
  intro t1 H2 n2 h2 k2
  walk_at "rd"
  intro sa H3 n3 h3 k3
  have R3 := (R1.keep0 k2).keep0 k3
  have kk3 : Keep [r] H H3 := (k1.by0 k2).by0 k3
  have nsr : sa ≠ r := fun z => (R1.keep0 k2).ne (z ▸ n3)
  have ns0 : H sa = none := (k1.by0 k2).free (fun x hx => by cases List.mem_singleton.mp hx; exact (R1.keep0 k2).ne) n3
  have s3 : Shp K H3 sa [(0, o1)] := ⟨_, h3, rfl, fun i qq e => by
    match i, e with
    | 0, e => cases e; exact ⟨t1, rfl, SqT.of (k3 _ _ h2 (by simp))⟩⟩
  walk_at "rd"
  refine ask ⟨r, _, rfl, by decide, by decide, R3, fun v4 H4 v40 v41 k4 R4 => ?_⟩
  have s4 := s3.keep k4 (by simpa using nsr) (R3.ts k4)
  have kk4 := kk3.trans k4
  walk_at "rd"
  refine forR (fun i σ H' => ∃ (x y : Option V) (sh : List (Nat × Nat)), σ = [some (.ref r), some (.int most), some (.ref sa), x, y, none, none, none, none] ∧ Row K H' r ∧ Keep [r] H H' ∧ Shp K H' sa sh ∧ sh.length = i + 1 ∧ (∀ q ∈ sh, q.1 ≤ 3 ∧ q.2 ≤ 10) ∧ ∀ q, sh[0]? = some q → q.1 = 0)
    ⟨none, none, _, rfl, R4, kk4, s4, rfl, by simp; omega, fun q e => by cases e; rfl⟩ (fun i σ H' hi hp => ?_) (fun σ H' hp => ?_)
  · obtain ⟨x, y, sh, rfl, R5, kk5, s5, ls, ss, s0⟩ := hp
    walk_at "rd"
    intro p6 H6 n6 h6 k6
    walk_at "rd"
    refine ask ⟨r, _, rfl, by decide, by decide, R5.keep0 k6, fun v7 H7 v70 v71 k7 R7 => ?_⟩
    have h67 := k7 _ _ h6 (by simpa using fun z => R5.ne (by rw [← z]; exact n6))
    obtain ⟨z7, e7, z70⟩ := atI_ints (ns := [3, 3, 3, 3, 3, 11]) v70 (by simpa using v71)
    have z71 : 3 ≤ z7 ∧ z7 ≤ 11 := by simp at z70; omega
    walk_at "rd"
    refine ask ⟨r, _, rfl, by omega, by omega, R7, fun v8 H8 v80 v81 k8 R8 => ?_⟩
    obtain ⟨o8, rfl⟩ : ∃ m : Nat, v8 = m := ⟨v8.toNat, by omega⟩
    have kk8 : Keep [r] H H8 := ((kk5.by0 k6).trans k7).trans k8
    have s8 := ((s5.keep k6 (by simp) (keep_ts0 k6)).keep k7 (by simpa using nsr) ((R5.keep0 k6).ts k7)).keep k8 (by simpa using nsr) (R7.ts k8)
    obtain ⟨vs8, hs8, hl8, hv8⟩ := id s8
    have lb8 : vs8.length ≤ 10 := by omega
    walk_at "rd"
    intro p9 H9 n9 h9 k9
    walk_at "rd"
    refine ask ⟨r, _, rfl, by decide, by decide, R8.keep0 k9, fun v10 H10 v100 v101 k10 R10 => ?_⟩
    have h910 := k10 _ _ h9 (by simpa using fun z => R8.ne (by rw [← z]; exact n9))
    obtain ⟨z10, e10, z100⟩ := atI_ints (ns := [1, 2, 2, 3, 0]) v100 (by simpa using v101)
    have z101 : 0 ≤ z10 ∧ z10 ≤ 3 := by simp at z100; omega
    obtain ⟨p10, rfl⟩ : ∃ m : Nat, z10 = m := ⟨z10.toNat, by omega⟩
    have hs10 := k10 _ _ (k9 _ _ hs8 (by simp)) (by simpa using nsr)
    have t10 : Tst H8 H10 := (keep_ts0 k9).trans ((R8.keep0 k9).ts k10)
    walk_at "rd"
    intro t11 H11 n11 h11 k11
    have hs11 := k11 _ _ hs10 (by simp)
    have t11' := t10.trans (keep_ts0 k11)
    have R11 := R10.keep0 k11
    have kk11 : Keep [r] H H11 := ((kk8.by0 k9).trans k10).by0 k11
    walk_at "rd"
    intro H12 h12 k12
    have t12 : Tst H11 H12 := k12.ts fun x hx => by cases List.mem_singleton.mp hx; exact .inl ⟨_, hs11⟩
    refine ⟨_, _, sh ++ [(p10, o8)], rfl, R11.keep k12 (by simpa using Ne.symm nsr) t12, kk11.fresh1 k12 ns0, Shp.snoc hl8 hv8 (t11'.trans t12) h12 (t12.sqT (SqT.of h11)), by rw [List.length_append, ls]; rfl, fun qq hq => ?_, fun qq e => ?_⟩
    · rcases List.mem_append.mp hq with hq | hq
      · exact ss qq hq
      · cases List.mem_singleton.mp hq
        exact ⟨by show p10 ≤ 3; omega, by show o8 ≤ 10; omega⟩
    · rw [List.getElem?_append_left (by omega)] at e
      exact s0 qq e
  obtain ⟨x, y, sh, rfl, R5, kk5, s5, ls, ss, s0⟩ := hp
  have lf4 : sh.length ≤ 4 := by omega
  walk_at "rd"
  intro l H6 n6 h6 k6
  have s6 := s5.keep k6 (by simp) (keep_ts0 k6)
  have nlr : l ≠ r := fun z => R5.ne (z ▸ n6)
  have nl0 : H l = none := kk5.free (fun x hx => by cases List.mem_singleton.mp hx; exact R5.ne) n6
  have nsl : sa ≠ l := fun z => by
    obtain ⟨vs, h1, _⟩ := s5
    rw [z, n6] at h1
    cases h1
  have g6 : Lp K H H6 r sa l sh [] [] := ⟨R5.keep0 k6, kk5.by0 k6, s6, h6, .nil, ns0, nl0, nsr, nlr, nsl, lf4, ss⟩
  obtain ⟨vs6, hs6, hl6, hv6⟩ := id s6
  walk_at "rd"
  have fewI : (vs6.length : Int) < 10 := by omega
  refine forR (fun i σ H' => ∃ (x3 x4 x6 x7 x8 : Option V) (xs : List V) (ws : List Wk), σ = [some (.ref r), some (.int most), some (.ref sa), x3, x4, some (.ref l), x6, x7, x8] ∧ Lp K H H' r sa l sh xs ws ∧ ws.length = i ∧ shapes ws = sh.take i ∧ (∀ (j : Nat) (w : Wk), ws[j]? = some w → Sts.ok sh j 2 w.body) ∧ ∀ w ∈ ws, w.body.many ≤ most + 2 ∧ w.body.calls ≤ 4)
    ⟨_, _, _, _, _, [], [], rfl, g6, rfl, by rw [List.take_zero]; rfl, fun j w e => by simp at e, fun w hw => by cases hw⟩ (fun i σ H' hi hp => ?_) (fun σ H' hp => ?_)
  · obtain ⟨x3, x4, x6, x7, x8, xs, ws, rfl, g7, lw, sw, ow, mw⟩ := hp
    have hi' : i < sh.length := by omega
    walk_at "rd"
    intro lf H8 n8 h8 k8
    have g8 := g7.keep0 k8
    obtain ⟨f1, f2, f3, f4⟩ := g7.free n8
    walk_at "rd"
    refine ask ⟨r, sa, lf, sh, i, most, 3, 2, rfl, ⟨g8.row, h8, g8.shp, f2, nsr, Ne.symm f3, lf4, ss⟩, hi', by decide, by decide, fun vb b H9 a9 c9 rb ob mb cb k9 gs9 => ?_⟩
    have g9 : Lp K H H9 r sa l sh xs ws := by
      have t9 : Tst H8 H9 := k9.ts fun x hx => by
        rcases List.mem_cons.mp hx with rfl | hx
        · exact g8.row.lo _ (List.mem_singleton.mpr rfl)
        · cases List.mem_singleton.mp hx
          exact .inl ⟨_, h8⟩
      refine ⟨gs9.row, ?_, gs9.shp, k9 _ _ g8.lst (by simp [nlr, Ne.symm f4]), g8.rps.ts t9, ns0, nl0, nsr, nlr, nsl, lf4, ss⟩
      have k9' : Keep [lf, r] H8 H9 := k9.mono (fun x hx => by
        rcases List.mem_cons.mp hx with rfl | hx
        · simp
        · cases List.mem_singleton.mp hx
          simp)
      exact ((g8.keep.mono (M' := [lf, r]) (by simp)).trans k9').less f1
    obtain ⟨ab, xb, rfl, hab, hxb⟩ := rb.tup_inv
    have lxb : xb.length ≤ most := by
      rw [hxb.length, Sts.encs_len]
      have := Sts.len_le_many b
      omega
    obtain ⟨vs9, hs9, hl9, hv9⟩ := id g9.shp
    walk_at "rd"
    refine cut (fun σ' H' => ∃ (y3 y8 : Option V) (ac : Addr) (xc : List V) (bc : Sts), σ' = [some (.ref r), some (.int most), some (.ref sa), y3, x4, some (.ref l), some (.int i), some (.ref ac), y8] ∧ Lp K H H' r sa l sh xs ws ∧ SqT K H' ac xc ∧ Rps K H' xc bc.encs ∧ Sts.ok sh i 2 bc ∧ bc.many ≤ most + 1 ∧ bc.calls ≤ 4) ?_ ?_
    · refine r_if ?_
      refine r_andI (a := decide ((i : Int) + 1 < (vs9.length : Int))) (fun R hr => by walk_at "rd"; exact hr) (fun c10 => ?_) (fun c10 => ?_)
      · have c10' := of_decide_eq_true c10
        have hw : i + 1 < sh.length := by omega
        walk_at "rd"
        refine ask ⟨r, _, rfl, by decide, by decide, g9.row, fun v11 H11 v110 v111 k11 R11 => ?_⟩
        have g11 := g9.drew k11 R11
        have t11 := g9.row.ts k11
        walk_at "rd"
        refine ite2 (fun c12 => ?_) (fun c12 => ?_)
        · obtain ⟨tn, en, tn'⟩ := hv9 (i + 1) _ (List.getElem?_eq_getElem hw)
          obtain ⟨tc, ec, tc'⟩ := hv9 i _ (List.getElem?_eq_getElem hi')
          have en' : atI vs9 ((i : Int) + 1) = some (V.ref tn) := by
            have := atI_nat en
            rw [show ((i + 1 : Nat) : Int) = (i : Int) + 1 by omega] at this
            exact this
          have ec' := atI_nat ec
          have hs11 := k11 _ _ hs9 (by simpa using nsr)
          have tn11 := t11.sqT tn'
          have hsn := ss _ (List.getElem_mem hw)
          have hsc := ss _ (List.getElem_mem hi')
          walk_at "rd"
          refine lcR (fun E j H' => ∃ (ys : List V) (ts : List Th), Lp K H H' r sa l sh xs ws ∧ Tst H11 H' ∧ H E = none ∧ E ≠ r ∧ E ≠ sa ∧ E ≠ l ∧ H' E = some (.lst ys) ∧ H' sa = some (.lst vs9) ∧ Rps K H' ys (ts.map Th.enc) ∧ ts.length = j ∧ ∀ t ∈ ts, Th.ok sh[i].1 sh[i].2 4 t)
            (fun E H12 n12 h12 k12 => ?_) (fun E j H12 hj hp => ?_) (fun E H12 hp => ?_)
          · obtain ⟨e1, e2, e3, e4⟩ := g11.free n12
            exact ⟨[], [], g11.keep0 k12, keep_ts0 k12, e1, e2, e3, e4, h12, k12 _ _ hs11 (by simp), .nil, rfl, by simp⟩
          · obtain ⟨ys, ts, g12, t12, e1, e2, e3, e4, h12, hs12, hy12, lt, ot⟩ := hp
            have lys : ys.length ≤ 10 := by
              rw [hy12.length, List.length_map]
              omega
            have tc12 := t12.sqT (t11.sqT tc')
            walk_at "rd"
            refine ⟨rfl, ?_⟩
            walk_at "rd"
            refine ask ⟨r, tc, sh[i].1, sh[i].2, 1, rfl, g12.row, tc12, by omega, by omega, by decide, by decide, fun vp tp H13 rp pp op k13 R13 => ?_⟩
            have h13 := k13 _ _ h12 (by simpa using e2)
            have g13 := g12.drew k13 R13
            have t13 := g12.row.ts k13
            walk_at "rd"
            intro H14 h14 k14
            have t14 : Tst H13 H14 := k14.ts fun x hx => by cases List.mem_singleton.mp hx; exact .inl ⟨_, h13⟩
            refine ⟨_, ts ++ [tp], g13.other k14 h13 e1 e2 e3 e4, (t12.trans t13).trans t14, e1, e2, e3, e4, h14, k14 _ _ (k13 _ _ hs12 (by simpa using nsr)) (by simpa using Ne.symm e3), ?_, by rw [List.length_append, lt]; rfl, fun t ht => ?_⟩
            · rw [List.map_append]
              exact ((hy12.ts t13).ts t14).append (.cons (rp.ts t14) .nil)
            · rcases List.mem_append.mp ht with ht | ht
              · exact ot t ht
              · cases List.mem_singleton.mp ht
                exact op.mono (by decide)
          · obtain ⟨ys, ts, g12, t12, e1, e2, e3, e4, h12, hs12, hy12, lt, ot⟩ := hp
            walk_at "rd"
            intro pt H13 n13 h13 k13
            have t13 := (t11.trans t12).trans (keep_ts0 k13)
            have hab13 := t13.sqT hab
            walk_at "rd"
            intro pa H14 s14 k14 f14
            rw [cutV_to (by omega)] at s14
            walk_at "rd"
            intro pc H15 n15 h15 k15
            walk_at "rd"
            intro pd H16 n16 h16 k16
            have s16 := (keep_ts0 k16).sqT ((keep_ts0 k15).sqT s14)
            have lx2 : (xb.take ((most : Int) - 1).toNat).length ≤ most := by rw [List.length_take]; omega
            refine r_catA s16 (SqT.of h16) (by rw [List.length_singleton]; exact small (by omega)) fun pe H17 s17 k17 f17 => ?_
            have t17 := (((t13.trans (keep_ts0 k14)).trans (keep_ts0 k15)).trans (keep_ts0 k16)).trans (keep_ts0 k17)
            have rpt : Rp K H14 (.ref pt) (.tuple (ts.map Th.enc)) := .tup ((keep_ts0 k14).sqT (SqT.of h13)) ((hy12.ts (keep_ts0 k13)).ts (keep_ts0 k14))
            have rpc : Rp K H15 (.ref pc) (St.enc (.call (i + 1) ts)) := .tup (SqT.of h15) (.cons (.str _) (.cons (by rw [show (((i + 1 : Nat) : Int)) = (i : Int) + 1 by omega]; exact .int _) (.cons (rpt.ts (keep_ts0 k15)) .nil)))
            refine ⟨_, _, pe, _, (b.take ((most : Int) - 1).toNat).app (.cons (.call (i + 1) ts) .nil), rfl, ((((g12.keep0 k13).keep0 k14).keep0 k15).keep0 k16).keep0 k17, s17, ?_, Sts.ok_app (Sts.ok_take _ ob) ?_, ?_, ?_⟩
            · rw [Sts.encs_app, Sts.encs_take]
              exact ((hxb.ts t17).take _).append (.cons ((rpc.ts (keep_ts0 k16)).ts (keep_ts0 k17)) .nil)
            · unfold Sts.ok
              refine ⟨St.ok_call (by omega) hw (by rw [lt, getD_at hw]; exact Int.toNat_natCast _) (by rw [getD_at hi']; exact ot), ?_⟩
              unfold Sts.ok
              trivial
            · rw [Sts.many_app]
              have := Sts.many_take ((most : Int) - 1).toNat b
              have : (Sts.cons (.call (i + 1) ts) .nil).many = 1 := rfl
              omega
            · rw [Sts.calls_app]
              have := Sts.calls_take ((most : Int) - 1).toNat b
              have : (Sts.cons (.call (i + 1) ts) .nil).calls = 1 := rfl
              omega
        · walk_at "rd"
          exact ⟨_, _, ab, xb, b, rfl, g11, t11.sqT hab, hxb.ts t11, ob, by omega, by omega⟩
      · walk_at "rd"
        exact ⟨_, _, ab, xb, b, rfl, g9, hab, hxb, ob, by omega, by omega⟩
    · rintro σ' H10 ⟨y3, y8, ac, xc, bc, rfl, g10, hac, hxc, oc, mc, cc⟩
      have lxc : xc.length ≤ most + 1 := by
        rw [hxc.length, Sts.encs_len]
        have := Sts.len_le_many bc
        omega
      obtain ⟨vs10, hs10, hl10, hv10⟩ := id g10.shp
      obtain ⟨tc, ec, tc'⟩ := hv10 i _ (List.getElem?_eq_getElem hi')
      have ec' := atI_nat ec
      have hsc := ss _ (List.getElem_mem hi')
      refine cut (fun σ' H' => ∃ (ad : Addr) (xd : List V) (bd : Sts), σ' = [some (.ref r), some (.int most), some (.ref sa), y3, x4, some (.ref l), some (.int i), some (.ref ad), y8] ∧ Lp K H H' r sa l sh xs ws ∧ Tst H10 H' ∧ H' sa = some (.lst vs10) ∧ SqT K H' ad xd ∧ Rps K H' xd bd.encs ∧ Sts.ok sh i 2 bd ∧ bd.many ≤ most + 2 ∧ bd.calls ≤ 4) ?_ ?_
      · refine r_if ?_
        have no : ∀ H', Lp K H H' r sa l sh xs ws → Tst H10 H' → H' sa = some (.lst vs10) → ∃ (ad : Addr) (xd : List V) (bd : Sts), ([some (.ref r), some (.int most), some (.ref sa), y3, x4, some (.ref l), some (.int i), some (.ref ac), y8] : List (Option V)) = [some (.ref r), some (.int most), some (.ref sa), y3, x4, some (.ref l), some (.int i), some (.ref ad), y8] ∧ Lp K H H' r sa l sh xs ws ∧ Tst H10 H' ∧ H' sa = some (.lst vs10) ∧ SqT K H' ad xd ∧ Rps K H' xd bd.encs ∧ Sts.ok sh i 2 bd ∧ bd.many ≤ most + 2 ∧ bd.calls ≤ 4 :=
          fun H' g t e => ⟨ac, xc, bc, rfl, g, t, e, t.sqT hac, hxc.ts t, oc, by omega, cc⟩
        refine r_andI (a := decide (0 < (i : Int))) (fun R hr => by walk_at "rd"; exact hr) (fun c11 => ?_) (fun c11 => by walk_at "rd"; exact no _ g10 Tst.refl hs10)
        refine r_andI (a := decide (0 < (sh[i].1 : Int))) (fun R hr => by walk_at "rd"; exact hr) (fun c12 => ?_) (fun c12 => by walk_at "rd"; exact no _ g10 Tst.refl hs10)
        have c12' := of_decide_eq_true c12
        walk_at "rd"
        refine ask ⟨r, _, rfl, by decide, by decide, g10.row, fun v13 H13 v130 v131 k13 R13 => ?_⟩
        have g13 := g10.drew k13 R13
        have t13 := g10.row.ts k13
        have hs13 := k13 _ _ hs10 (by simpa using nsr)
        walk_at "rd"
        refine ite2 (fun c14 => ?_) (fun c14 => by walk_at "rd"; exact no _ g13 t13 hs13)
        have hac13 := t13.sqT hac
        walk_at "rd"
        intro pa H14 s14 k14 f14
        rw [cutV_to (by omega)] at s14
        walk_at "rd"
        intro p1 H15 n15 h15 k15
        walk_at "rd"
        intro p2 H16 n16 h16 k16
        walk_at "rd"
        intro p3 H17 n17 h17 k17
        walk_at "rd"
        intro p4 H18 n18 h18 k18
        walk_at "rd"
        intro p5 H19 n19 h19 k19
        walk_at "rd"
        intro p6 H20 n20 h20 k20
        have t15 := keep_ts0 k15
        have t16 := keep_ts0 k16
        have t17 := keep_ts0 k17
        have t18 := keep_ts0 k18
        have t19 := keep_ts0 k19
        have t20 := keep_ts0 k20
        have s20 := t20.sqT (t19.sqT (t18.sqT (t17.sqT (t16.sqT (t15.sqT s14)))))
        have lx2 : (xc.take ((most : Int) - 1).toNat).length ≤ most := by rw [List.length_take]; omega
        refine r_catA s20 (SqT.of h20) (by rw [List.length_singleton]; exact small (by omega)) fun pe H21 s21 k21 f21 => ?_
        have t21 := ((((((t13.trans (keep_ts0 k14)).trans t15).trans t16).trans t17).trans t18).trans t19).trans (t20.trans (keep_ts0 k21))
        have r1 : Rp K H15 (.ref p1) (Th.enc (.par 0)) := .tup (SqT.of h15) (.cons (.str _) (.cons (.int _) .nil))
        have r2 : Rp K H16 (.ref p2) (Th.enc (.par 0)) := .tup (SqT.of h16) (.cons (.str _) (.cons (.int _) .nil))
        have r3 : Rp K H17 (.ref p3) (Th.enc (.num 1)) := .tup (SqT.of h17) (.cons (.str _) (.cons (.int _) .nil))
        have r4 : Rp K H18 (.ref p4) (Th.enc (.sum (.par 0) (.num 1))) := .tup (SqT.of h18) (.cons (.str _) (.cons ((r2.ts t17).ts t18) (.cons (r3.ts t18) .nil)))
        have r5 : Rp K H19 (.ref p5) (St.enc (.set (.par 0) (.sum (.par 0) (.num 1)))) := .tup (SqT.of h19) (.cons (.str _) (.cons ((((r1.ts t16).ts t17).ts t18).ts t19) (.cons (r4.ts t19) .nil)))
        refine ⟨pe, _, (bc.take ((most : Int) - 1).toNat).app (.cons (.set (.par 0) (.sum (.par 0) (.num 1))) .nil), rfl, (((((((g13.keep0 k14).keep0 k15).keep0 k16).keep0 k17).keep0 k18).keep0 k19).keep0 k20).keep0 k21, t21, ?_, s21, ?_, Sts.ok_app (Sts.ok_take _ oc) ?_, ?_, ?_⟩
        · exact k21 _ _ (k20 _ _ (k19 _ _ (k18 _ _ (k17 _ _ (k16 _ _ (k15 _ _ (k14 _ _ hs13 (by simp)) (by simp)) (by simp)) (by simp)) (by simp)) (by simp)) (by simp)) (by simp)
        · rw [Sts.encs_app, Sts.encs_take]
          exact ((hxc.ts t21).take _).append (.cons ((r5.ts t20).ts (keep_ts0 k21)) .nil)
        · unfold Sts.ok
          refine ⟨St.ok_set rfl ?_ ?_, by unfold Sts.ok; trivial⟩
          · rw [getD_at hi']
            exact Th.ok_par (by omega)
          · rw [getD_at hi']
            exact ⟨Th.ok_par (by omega), Th.ok_num (by decide)⟩
        · rw [Sts.many_app]
          have := Sts.many_take ((most : Int) - 1).toNat bc
          have : (Sts.cons (.set (.par 0) (.sum (.par 0) (.num 1))) .nil).many = 1 := rfl
          omega
        · rw [Sts.calls_app]
          have := Sts.calls_take ((most : Int) - 1).toNat bc
          have : (Sts.cons (.set (.par 0) (.sum (.par 0) (.num 1))) .nil).calls = 0 := rfl
          omega
      · rintro σ' H11 ⟨ad, xd, bd, rfl, g11, t11, hs11, had, hxd, od, md, cd⟩
        have gl11 := g11.lst
        have lxs : xs.length ≤ 10 := by
          rw [g11.rps.length, List.length_map]
          omega
        walk_at "rd"
        intro pt H12 n12 h12 k12
        have tc12 := (keep_ts0 k12).sqT (t11.sqT tc')
        refine r_catA tc12 (SqT.of h12) (by simp; decide) fun pw H13 s13 k13 f13 => ?_
        have g13 := (g11.keep0 k12).keep0 k13
        have gl13 := g13.lst
        walk_at "rd"
        intro H14 h14 k14
        have t14 : Tst H13 H14 := k14.ts fun x hx => by cases List.mem_singleton.mp hx; exact .inl ⟨_, gl13⟩
        have rw13 : Rp K H13 (.ref pw) (Wk.enc ⟨sh[i].1, sh[i].2, bd⟩) := .tup s13 (.cons (.int _) (.cons (.int _) (.cons (.tup ((keep_ts0 k13).sqT ((keep_ts0 k12).sqT had)) ((hxd.ts (keep_ts0 k12)).ts (keep_ts0 k13))) .nil)))
        refine ⟨_, _, _, _, _, xs ++ [.ref pw], ws ++ [⟨sh[i].1, sh[i].2, bd⟩], rfl, ⟨g13.row.keep k14 (by simpa using Ne.symm nlr) t14, g13.keep.fresh1 k14 nl0, g13.shp.keep k14 (by simpa using nsl) t14, h14, ?_, ns0, nl0, nsr, nlr, nsl, lf4, ss⟩, by rw [List.length_append, lw]; rfl, ?_, fun j w' e => ?_, fun w' hw' => ?_⟩
        · rw [List.map_append]
          exact (g13.rps.ts t14).append (.cons (rw13.ts t14) .nil)
        · unfold shapes at sw ⊢
          rw [List.map_append, sw, List.take_succ, List.getElem?_eq_getElem hi']
          rfl
        · by_cases hj : j < ws.length
          · rw [List.getElem?_append_left hj] at e
            exact ow j w' e
          · rw [List.getElem?_append_right (by omega)] at e
            have hj2 := (List.getElem?_eq_some_iff.mp e).1
            simp at hj2
            have ej : j = i := by omega
            have ez : j - ws.length = 0 := by omega
            rw [ez] at e
            cases e
            rw [ej]
            exact od
        · rcases List.mem_append.mp hw' with hw' | hw'
          · exact mw w' hw'
          · cases List.mem_singleton.mp hw'
            exact ⟨md, cd⟩
  · obtain ⟨x3, x4, x6, x7, x8, xs, ws, rfl, g7, lw, sw, ow, mw⟩ := hp
    have gl7 := g7.lst
    have lw' : ws.length = sh.length := by rw [lw, hl6]; exact Int.toNat_natCast _
    have esh : shapes ws = sh := by rw [sw, ← lw, lw', List.take_length]
    walk_at "rd"
    intro pt H8 n8 h8 k8
    have inS : ∀ w ∈ ws, (w.params, w.owns) ∈ sh := fun w hw => by
      rw [← esh]
      exact List.mem_map_of_mem hw
    refine q _ ws _ (.tup (SqT.of h8) (g7.rps.ts (keep_ts0 k8))) ⟨by omega, by omega, fun w' e => ?_, fun w' hw => (ss _ (inS w' hw)).1, fun w' hw => (ss _ (inS w' hw)).2, fun j w' e => by rw [esh]; exact ow j w' e, fun w' hw => (mw w' hw).1, fun w' hw => (mw w' hw).2⟩ (g7.keep.by0 k8) (g7.row.keep0 k8)
    refine s0 (w'.params, w'.owns) ?_
    rw [← esh]
    unfold shapes
    rw [List.getElem?_map, e]
    rfl
end
end Hw
namespace Hw
open PySem PySem.Spec PyProof.Rows L2
local macro_rules | `(tactic| walk_at "sz") => `(tactic| first | exact Nat.le_of_ble_eq_true rfl | exact small (by first | omega | (simp; done) | (simp; omega)))
local macro_rules | `(tactic| walk_at "szT") => `(tactic| first | exact Nat.lt_of_lt_of_le (Nat.lt_succ_self _) (Nat.le_of_ble_eq_true rfl) | exact smallT (by first | omega | (simp; done) | (simp; omega)))
local macro_rules | `(tactic| walk_at "cond") => `(tactic| first | decide | omega | (dsimp only; omega) | exact ⟨by omega, by omega⟩ | exact .inr ⟨by decide, by decide⟩)
local macro_rules | `(tactic| walk_at "sq") => `(tactic| first | assumption | exact SqL.of (by assumption) | exact SqT.of (by assumption))
local macro_rules | `(tactic| walk_at "ty") => `(tactic| first | (with_reducible assumption) | exact .base (.int _) | exact .base (.str _) | exact .base (.bl _) | exact .base .non | exact tyT (by walk_at "sq") | exact tyL (by walk_at "sq"))
local macro_rules | `(tactic| walk_at "rd1") => `(tactic| first
  | ((with_reducible apply r_seq))
  | ((with_reducible apply r_asg))
  | ((with_reducible apply r_name))
  | ((with_reducible apply r_op))
  | ((with_reducible apply r_var); exact rfl)
  | ((with_reducible apply r_c))
  | ((with_reducible apply r_ixT); (walk_at "sq"); first | exact rfl | assumption)
  | ((with_reducible apply r_ixL); (walk_at "sq"); first | exact rfl | assumption)
  | ((with_reducible apply r_ixA); (first | exact .inl (by walk_at "sq") | exact .inr (by walk_at "sq")); first | exact rfl | assumption)
  | ((with_reducible apply r_isi); (walk_at "ty"); (decide +kernel))
  | ((with_reducible apply r_isiT2); assumption; (walk_at "ty"); (decide +kernel); (decide +kernel))
  | ((with_reducible apply r_I0))
  | ((with_reducible apply r_I); (walk_at "cond"))
  | ((with_reducible apply r_eq); exact rfl)
  | ((with_reducible apply r_ne); exact rfl)
  | ((with_reducible apply r_test))
  | ((with_reducible apply r_bl))
  | ((with_reducible apply r_if))
  | ((with_reducible apply r_nil))
  | ((with_reducible apply r_cons))
  | ((with_reducible apply r_call))
  | ((with_reducible apply r_cb))
  | ((with_reducible apply r_tup))
  | ((with_reducible apply r_lst))
  | ((with_reducible apply new); (walk_at "sz"))
  | ((with_reducible apply r_ret))
  | ((with_reducible apply r_retN))
  | ((with_reducible apply r_next))
  | ((with_reducible apply r_drop))
  | ((with_reducible apply r_lenL); (walk_at "sq"))
  | ((with_reducible apply r_lenT); (walk_at "sq"))
  | ((with_reducible apply r_int))
  | ((with_reducible apply r_intB))
  | ((with_reducible apply r_isN))
  | ((with_reducible apply r_notN))
  | ((with_reducible apply r_B))
  | ((with_reducible apply r_not))
  | ((with_reducible apply r_notV))
  | ((with_reducible apply r_andV))
  | ((with_reducible apply r_orV))
  | ((with_reducible apply r_ifE))
  | ((with_reducible apply r_chain))
  | ((with_reducible apply ite_t); (first | (with_reducible exact nRN) | (with_reducible exact nIN) | (with_reducible exact dNN) | decide +kernel))
  | ((with_reducible apply ite_f); (first | (with_reducible exact dRN) | (with_reducible exact dIN) | (with_reducible exact nNN) | decide +kernel))
  | ((with_reducible apply r_in); (first | exact .inl (by walk_at "sq") | exact .inr (by walk_at "sq")); exact rfl; (first | exact nums_flat | exact rfl))
  | ((with_reducible apply turn))
  | ((with_reducible apply r_for))
  | ((with_reducible apply r_iRng1))
  | ((with_reducible apply r_rng); (first | decide | omega | (simp; omega)); (first | decide | omega | (simp; omega)))
  | ((with_reducible apply r_iList))
  | ((with_reducible apply r_iTup))
  | ((with_reducible apply r_overL); (walk_at "sq"))
  | ((with_reducible apply r_overT); (walk_at "sq"))
  | ((with_reducible apply r_lc))
  | ((with_reducible apply acc); assumption; (walk_at "szT"))
  | ((with_reducible apply r_sub))
  | ((with_reducible apply r_setL); assumption; exact rfl)
  | ((with_reducible apply r_gtup); (walk_at "sq"); rfl)
  | ((with_reducible apply r_gnil))
  | ((with_reducible apply r_gcons))
  | ((with_reducible apply r_par))
  | ((with_reducible apply r_par2))
  | ((with_reducible apply r_sl))
  | ((with_reducible apply r_part))
  | ((with_reducible apply r_part1))
  | ((with_reducible apply r_noPart))
  | ((with_reducible apply r_slL); (walk_at "sq"))
  | ((with_reducible apply r_slA); (walk_at "sq"))
  | ((with_reducible apply r_tupL); (walk_at "sq"))
  | ((with_reducible apply r_tupT); (walk_at "sq"))
  | ((with_reducible apply r_lstL); (walk_at "sq"))
  | ((with_reducible apply r_lstT); (walk_at "sq"))
  | ((with_reducible apply r_append))
  | ((with_reducible apply r_isL); (walk_at "sq"))
  | ((with_reducible apply r_app); assumption; (walk_at "szT"))
  | ((with_reducible apply r_dget))
  | ((with_reducible apply r_dgetS); assumption; (walk_at "dk"))
  | ((with_reducible apply r_dput))
  | ((with_reducible apply r_dputS); assumption; (walk_at "szT"))
  | ((with_reducible apply r_disp))
  | ((with_reducible apply r_pnil))
  | ((with_reducible apply r_pcons))
  | ((with_reducible apply r_fld))
  | ((with_reducible apply r_fld1); assumption; assumption; assumption; (first | exact rfl | assumption))
  | ((with_reducible apply r_sfld))
  | ((with_reducible apply r_sfld1); assumption; assumption; assumption; exact (by decide)))
local macro_rules | `(tactic| walk_at "rd") => `(tactic| repeat walk_at "rd1")
section
variable {P : Program} {w : World} {K : PySem.W.Frag} {mg : Str → Option Value} {base : Heap}
/-! ### ways -/
def encW (W : List (List Str)) : PyData := .tuple (W.map fun ws => .tuple (ws.map PyData.str))
def WaysOk (P : List Wk) (W : List (List Str)) (opts : List Str) : Prop := W.length = P.length ∧ ∀ (i : Nat) (w : Wk) (ws : List Str), P[i]? = some w → W[i]? = some ws → ws.length = w.params ∧ ∀ x ∈ ws, x ∈ opts
def spWays (K : PySem.W.Frag) : Sp := fun vs H Q _ => ∃ (r so : Addr) (v : V) (P : List Wk) (opts : List Str), vs = [.ref r, v, .ref so] ∧ Row K H r ∧ Rp K H v (encP P) ∧ P.length ≤ 4 ∧ (∀ w ∈ P, w.params ≤ 3) ∧ H so = some (.lst (opts.map V.str)) ∧ 1 ≤ opts.length ∧ opts.length ≤ 100 ∧ so ≠ r ∧
  ∀ (v : V) (W : List (List Str)) (H' : Hp), Rp K H' v (encW W) → WaysOk P W opts → Keep [r] H H' → Row K H' r → Q v H'
abbrev sL_ways : Stmt := top 38
abbrev nL_ways : List Str := ["_law_row", "_law_program_here", "_law_some", "_law_found", "_law_params", "_law_owns", "_law_body_here", "_law_k"]
abbrev pL_ways : List Str := ["_law_row", "_law_program_here", "_law_some"]
theorem scL_ways : FnScope nL_ways pL_ways (defScope sL_ways) := ⟨rfl, rfl, rfl, by decide +kernel, rfl, by decide +kernel, by decide +kernel⟩
abbrev sL_cells : Stmt := top 39
abbrev nL_cells : List Str := ["_law_k"]
abbrev pL_cells : List Str := []
theorem scL_cells : FnScope nL_cells pL_cells (defScope sL_cells) := ⟨rfl, rfl, rfl, by decide +kernel, rfl, by decide +kernel, by decide +kernel⟩
theorem atI_strs {ns : List Str} {v : Int} (h0 : 0 ≤ v) (h1 : v < ns.length) : ∃ z, atI (ns.map V.str) v = some (.str z) ∧ z ∈ ns := by
  obtain ⟨m, rfl⟩ : ∃ m : Nat, v = m := ⟨v.toNat, by omega⟩
  have hm : m < ns.length := by omega
  refine ⟨ns[m], atI_nat ?_, List.getElem_mem hm⟩
  rw [List.getElem?_map, List.getElem?_eq_getElem hm]
  rfl
theorem Rps.strs {H : Hp} : ∀ ss : List Str, Rps K H (ss.map V.str) (ss.map PyData.str)
  | [] => .nil
  | s :: r => .cons (.str s) (Rps.strs r)
theorem okWays (D : DefAt K mg "_law_ways" sL_ways pL_ways) (T : Blt mg) (C_law_taken : Callee P w K mg base "_law_taken" 1 pL_taken (spTaken K)) : Callee P w K mg base "_law_ways" 2 pL_ways (spWays K) := by
  refine D.ok scL_ways (fun vs H Q E h => ?_) (fun f cdv A outer s H vs Q E hr h => ?_)
  · obtain ⟨r, so, v, P, opts, rfl, _⟩ := h
    rfl
  obtain ⟨r, so, v, P, opts, rfl, hR, hP, p4, p3, hso, o1, o2, nso, q⟩ := h
  obtain ⟨ap, xp, rfl, hap, hxp⟩ := hP.tup_inv
  have lxp : xp.length = P.length := by rw [hxp.length, List.length_map]
  refine ⟨_, (pss_cons (ps_set (i := 3) scL_ways.nd rfl (Or.inl rfl) (pe_lst pa_nil))
  (pss_cons (ps_for PassesOwn.never rfl (piTup (K := K) (pv 1)) (pgTup (K := K) (by rfl) (pgs_cons (pg_name (i := 4) scL_ways.nd rfl (Or.inl rfl)) (pgs_cons (pg_name (i := 5) scL_ways.nd rfl (Or.inl rfl)) (pgs_cons (pg_name (i := 6) scL_ways.nd rfl (Or.inl rfl)) pgs_nil))))
   (pss_one (ps_expr (peApp (K := K) (pv 3) (pe_callTy (cTuple (K := K)) (by rfl) T.tuple (by decide +kernel) (pa_cons (pe_lc (own := [("_law_k", 7)]) (g := gName 7) (by rfl) scL_ways.nd (pi_range1 rfl T.range (pa_cons (pv 4) pa_nil)) (blkOk_by (own := [("_law_k", 7)]) (N := nL_ways) (sc := defScope sL_ways) (by decide +kernel)) (fun _ _ _ _ _ => (pg_name (i := 7) scL_ways.nd rfl (Or.inl rfl))) (fun _ _ _ _ _ => pts_nil) (fun _ _ _ _ _ => (pe_ix (ixL (K := K)) (pv 2) (pcall C_law_taken (hr.mono (by omega)) rfl (pa_cons (pv 0) (pa_cons (pe_callB (cLen (K := K)) (by rfl) T.len PySem.boot_len (pa_cons (pv 2) pa_nil)) pa_nil))) (fun _ _ => rfl)))) pa_nil))))))
  (pss_one (ps_ret (pe_callTy (cTuple (K := K)) (by rfl) T.tuple (by decide +kernel) (pa_cons (pv 3) pa_nil)))))), ?_⟩
  walk_at "rd"
  intro l H1 n1 h1 k1
  have nlr : l ≠ r := fun z => hR.ne (z ▸ n1)
  have nls : l ≠ so := fun z => by rw [z, hso] at n1; cases n1
  have hap1 := (keep_ts0 k1).sqT hap
  walk_at "rd"
  refine forT (xs := xp) (fun i σ H' => ∃ (x4 x5 x6 x7 : Option V) (xs : List V) (W : List (List Str)), σ = [some (.ref r), some (.ref ap), some (.ref so), some (.ref l), x4, x5, x6, x7] ∧ Row K H' r ∧ Keep [r] H H' ∧ Tst H H' ∧ H' l = some (.lst xs) ∧ H' so = some (.lst (opts.map V.str)) ∧ Rps K H' xs (W.map fun ws => .tuple (ws.map PyData.str)) ∧ W.length = i ∧
    ∀ (i : Nat) (w : Wk) (ws : List Str), P[i]? = some w → W[i]? = some ws → ws.length = w.params ∧ ∀ x ∈ ws, x ∈ opts)
    ⟨none, none, none, none, [], [], rfl, hR.keep0 k1, k1.mono (by simp), keep_ts0 k1, h1, k1 _ _ hso (by simp), .nil, rfl, fun i w ws _ e => by simp at e⟩ (fun i σ H' _ hp => ?_) (fun i x σ H' hx hp => ?_) (fun σ H' hp => ?_)
  · obtain ⟨x4, x5, x6, x7, xs, W, rfl, R2, k2, t2, h2, s2, w2, lw, ow⟩ := hp
    exact t2.sqT hap
  · obtain ⟨x4, x5, x6, x7, xs, W, rfl, R2, k2, t2, h2, s2, w2, lw, ow⟩ := hp
    have hi : i < P.length := by have := (List.getElem?_eq_some_iff.mp hx).1; omega
    obtain ⟨d, ed, rd⟩ := hxp.get' hx
    rw [List.getElem?_map, List.getElem?_eq_getElem hi] at ed
    cases ed
    obtain ⟨aw, xw, rfl, haw, hxw⟩ := rd.tup_inv
    obtain ⟨v1, r1, rfl, g1, gr1⟩ := hxw.inv
    obtain ⟨v2, r2, rfl, g2, gr2⟩ := gr1.inv
    obtain ⟨v3, r3, rfl, g3, gr3⟩ := gr2.inv
    cases gr3.inv0
    cases g1.int_inv
    cases g2.int_inv
    have haw2 := t2.sqT haw
    have lxs : xs.length ≤ 10 := by rw [w2.length, List.length_map]; omega
    have p3i := p3 _ (List.getElem_mem hi)
    walk_at "rd"
    refine lcR (fun E j H3 => ∃ ys : List Str, Row K H3 r ∧ Keep [r] H H3 ∧ Tst H' H3 ∧ H E = none ∧ E ≠ r ∧ E ≠ so ∧ E ≠ l ∧ H3 E = some (.lst (ys.map V.str)) ∧ H3 l = some (.lst xs) ∧ H3 so = some (.lst (opts.map V.str)) ∧ ys.length = j ∧ ∀ x ∈ ys, x ∈ opts)
      (fun E H3 n3 h3 k3 => ?_) (fun E j H3 hj hp => ?_) (fun E H3 hp => ?_)
    · exact ⟨[], R2.keep0 k3, k2.by0 k3, keep_ts0 k3, k2.free (fun x hx => by cases List.mem_singleton.mp hx; exact R2.ne) n3, fun z => R2.ne (z ▸ n3), (fun z => by rw [z, s2] at n3; cases n3), (fun z => by rw [z, h2] at n3; cases n3), h3, k3 _ _ h2 (by simp), k3 _ _ s2 (by simp), rfl, by simp⟩
    · obtain ⟨ys, R3, k3, t3, e1, e2, e3, e4, h3, l3, s3, ly, oy⟩ := hp
      have ly' : (ys.map V.str).length ≤ 10 := by rw [List.length_map]; omega
      walk_at "rd"
      refine ⟨rfl, ?_⟩
      walk_at "rd"
      refine ask ⟨r, _, rfl, by rw [List.length_map]; omega, by rw [List.length_map]; omega, R3, fun v4 H4 v40 v41 k4 R4 => ?_⟩
      rw [List.length_map] at v41
      obtain ⟨z, ez, oz⟩ := atI_strs v40 v41
      have h4 := k4 _ _ h3 (by simpa using e2)
      have l4 := k4 _ _ l3 (by simpa using nlr)
      have s4 := k4 _ _ s3 (by simpa using nso)
      walk_at "rd"
      intro H5 h5 k5
      have t5 : Tst H4 H5 := k5.ts fun x hx => by cases List.mem_singleton.mp hx; exact .inl ⟨_, h4⟩
      refine ⟨ys ++ [z], R4.keep k5 (by simpa using Ne.symm e2) t5, (k3.trans k4).fresh1 k5 e1, (t3.trans (R3.ts k4)).trans t5, e1, e2, e3, e4, by rw [List.map_append]; exact h5, k5 _ _ l4 (by simpa using Ne.symm e4), k5 _ _ s4 (by simpa using Ne.symm e3), by rw [List.length_append, ly]; rfl, fun x hx => ?_⟩
      rcases List.mem_append.mp hx with hx | hx
      · exact oy x hx
      · cases List.mem_singleton.mp hx
        exact oz
    · obtain ⟨ys, R3, k3, t3, e1, e2, e3, e4, h3, l3, s3, ly, oy⟩ := hp
      walk_at "rd"
      intro pt H4 n4 h4 k4
      have l4 := k4 _ _ l3 (by simp)
      walk_at "rd"
      intro H5 h5 k5
      have t5 : Tst H4 H5 := k5.ts fun x hx => by cases List.mem_singleton.mp hx; exact .inl ⟨_, l4⟩
      have t35 := (keep_ts0 k4).trans t5
      have nl0 : H l = none := n1
      refine ⟨_, _, _, _, xs ++ [.ref pt], W ++ [ys], rfl, (R3.keep0 k4).keep k5 (by simpa using Ne.symm nlr) t5, (k3.by0 k4).fresh1 k5 nl0, (t2.trans t3).trans t35, h5, k5 _ _ (k4 _ _ s3 (by simp)) (by simpa using Ne.symm nls), ?_, by rw [List.length_append, lw]; rfl, fun j w ws e1 e2 => ?_⟩
      · rw [List.map_append]
        exact (w2.ts (t3.trans t35)).append (.cons (.tup (t5.sqT (SqT.of h4)) (Rps.strs ys)) .nil)
      · by_cases hj : j < W.length
        · rw [List.getElem?_append_left hj] at e2
          exact ow j w ws e1 e2
        · rw [List.getElem?_append_right (by omega)] at e2
          have hj2 := (List.getElem?_eq_some_iff.mp e2).1
          simp at hj2
          have ej : j = i := by omega
          have ez : j - W.length = 0 := by omega
          rw [ez] at e2
          cases e2
          rw [ej, List.getElem?_eq_getElem hi] at e1
          cases e1
          exact ⟨by rw [ly]; exact Int.toNat_natCast _, oy⟩
  · obtain ⟨x4, x5, x6, x7, xs, W, rfl, R2, k2, t2, h2, s2, w2, lw, ow⟩ := hp
    walk_at "rd"
    intro pt H4 n4 h4 k4
    exact q _ W _ (.tup (SqT.of h4) (w2.ts (keep_ts0 k4))) ⟨by omega, ow⟩ (k2.by0 k4) (R2.keep0 k4)
/-! ### all tuples of three numbers -/
def cellsOf (k : Nat) : List V := [.int ((k : Int) / 9), .int ((k : Int) / 3 % 3), .int ((k : Int) % 3)]
def Cells (K : PySem.W.Frag) (H : Hp) (p : Addr) : Prop := ∃ xs : List V, H p = some (.lst xs) ∧ xs.length = 27 ∧ ∀ (i : Nat) (v : V), xs[i]? = some v → ∃ t : Addr, v = .ref t ∧ SqT K H t (cellsOf i)
def spCells (K : PySem.W.Frag) : Sp := fun vs H Q _ => vs = [] ∧ ∀ (p : Addr) (H' : Hp), H p = none → Keep [] H H' → Cells K H' p → Q (.ref p) H'
theorem okCells (D : DefAt K mg "_law_cells" sL_cells pL_cells) (T : Blt mg) : Callee P w K mg base "_law_cells" 1 pL_cells (spCells K) := by
  refine D.ok scL_cells (fun vs H Q E h => ?_) (fun f cdv A outer s H vs Q E hr h => ?_)
  · obtain ⟨rfl, _⟩ := h
    rfl
  obtain ⟨rfl, q⟩ := h
  refine ⟨_, (pss_one (ps_ret (pe_lc (own := [("_law_k", 0)]) (g := gName 0) (by rfl) scL_cells.nd (pi_range1 rfl T.range (pa_cons pe_int pa_nil)) (blkOk_by (own := [("_law_k", 0)]) (N := nL_cells) (sc := defScope sL_cells) (by decide +kernel)) (fun _ _ _ _ _ => (pg_name (i := 0) scL_cells.nd rfl (Or.inl rfl))) (fun _ _ _ _ _ => pts_nil) (fun _ _ _ _ _ => (pe_tup (pa_cons (pe_op op_fdiv (pv 0) pe_int) (pa_cons (pe_op op_mod (pe_op op_fdiv (pv 0) pe_int) pe_int) (pa_cons (pe_op op_mod (pv 0) pe_int) pa_nil)))))))), ?_⟩
  walk_at "rd"
  refine lcR (fun E j H3 => H E = none ∧ Keep [] H H3 ∧ ∃ xs : List V, H3 E = some (.lst xs) ∧ xs.length = j ∧ ∀ (i : Nat) (v : V), xs[i]? = some v → ∃ t : Addr, v = .ref t ∧ SqT K H3 t (cellsOf i))
      (fun E H3 n3 h3 k3 => ?_) (fun E j H3 hj hp => ?_) (fun E H3 hp => ?_)
  · exact ⟨n3, k3, [], h3, rfl, fun i v e => by simp at e⟩
  · obtain ⟨n3, k3, xs, h3, lx, hx⟩ := hp
    have lb : xs.length ≤ 30 := by rw [lx]; exact Nat.le_trans (Nat.le_of_lt hj) (by decide)
    walk_at "rd"
    refine ⟨rfl, ?_⟩
    walk_at "rd"
    intro pt H4 n4 h4 k4
    have h34 := k4 _ _ h3 (by simp)
    walk_at "rd"
    intro H5 h5 k5
    have t5 : Tst H4 H5 := k5.ts fun x hx => by cases List.mem_singleton.mp hx; exact .inl ⟨_, h34⟩
    refine ⟨n3, (k3.trans k4).fresh1 k5 n3, _, h5, by rw [List.length_append, lx]; rfl, fun i v e => ?_⟩
    by_cases hi : i < xs.length
    · rw [List.getElem?_append_left hi] at e
      obtain ⟨t, e1, e2⟩ := hx i v e
      exact ⟨t, e1, t5.sqT ((keep_ts0 k4).sqT e2)⟩
    · rw [List.getElem?_append_right (by omega)] at e
      have hj2 := (List.getElem?_eq_some_iff.mp e).1
      simp at hj2
      have ej : i = j := by omega
      have ez : i - xs.length = 0 := by omega
      rw [ez] at e
      cases e
      rw [ej]
      exact ⟨pt, rfl, t5.sqT (SqT.of h4)⟩
  · obtain ⟨n3, k3, xs, h3, lx, hx⟩ := hp
    exact q E H3 n3 k3 ⟨xs, h3, lx, hx⟩
end
end Hw
namespace Hw
open PySem PySem.Spec PyProof.Rows L2
local macro_rules | `(tactic| walk_at "sz") => `(tactic| first | exact Nat.le_of_ble_eq_true rfl | exact small (by first | omega | (simp; done) | (simp; omega)))
local macro_rules | `(tactic| walk_at "szT") => `(tactic| first | exact Nat.lt_of_lt_of_le (Nat.lt_succ_self _) (Nat.le_of_ble_eq_true rfl) | exact smallT (by first | omega | (simp; done) | (simp; omega)))
local macro_rules | `(tactic| walk_at "cond") => `(tactic| first | decide | omega | (dsimp only; omega) | exact ⟨by omega, by omega⟩ | exact .inr ⟨by decide, by decide⟩)
local macro_rules | `(tactic| walk_at "sq") => `(tactic| first | assumption | exact SqL.of (by assumption) | exact SqT.of (by assumption))
local macro_rules | `(tactic| walk_at "ty") => `(tactic| first | (with_reducible assumption) | exact .base (.int _) | exact .base (.str _) | exact .base (.bl _) | exact .base .non | exact tyT (by walk_at "sq") | exact tyL (by walk_at "sq"))
local macro_rules | `(tactic| walk_at "rd1") => `(tactic| first
  | ((with_reducible apply r_seq))
  | ((with_reducible apply r_asg))
  | ((with_reducible apply r_name))
  | ((with_reducible apply r_op))
  | ((with_reducible apply r_var); exact rfl)
  | ((with_reducible apply r_c))
  | ((with_reducible apply r_ixT); (walk_at "sq"); first | exact rfl | assumption)
  | ((with_reducible apply r_ixL); (walk_at "sq"); first | exact rfl | assumption)
  | ((with_reducible apply r_ixA); (first | exact .inl (by walk_at "sq") | exact .inr (by walk_at "sq")); first | exact rfl | assumption)
  | ((with_reducible apply r_isi); (walk_at "ty"); (decide +kernel))
  | ((with_reducible apply r_isiT2); assumption; (walk_at "ty"); (decide +kernel); (decide +kernel))
  | ((with_reducible apply r_I0))
  | ((with_reducible apply r_I); (walk_at "cond"))
  | ((with_reducible apply r_eq); exact rfl)
  | ((with_reducible apply r_ne); exact rfl)
  | ((with_reducible apply r_test))
  | ((with_reducible apply r_bl))
  | ((with_reducible apply r_if))
  | ((with_reducible apply r_nil))
  | ((with_reducible apply r_cons))
  | ((with_reducible apply r_call))
  | ((with_reducible apply r_cb))
  | ((with_reducible apply r_tup))
  | ((with_reducible apply r_lst))
  | ((with_reducible apply new); (walk_at "sz"))
  | ((with_reducible apply r_ret))
  | ((with_reducible apply r_retN))
  | ((with_reducible apply r_next))
  | ((with_reducible apply r_drop))
  | ((with_reducible apply r_lenL); (walk_at "sq"))
  | ((with_reducible apply r_lenT); (walk_at "sq"))
  | ((with_reducible apply r_int))
  | ((with_reducible apply r_intB))
  | ((with_reducible apply r_isN))
  | ((with_reducible apply r_notN))
  | ((with_reducible apply r_B))
  | ((with_reducible apply r_not))
  | ((with_reducible apply r_notV))
  | ((with_reducible apply r_andV))
  | ((with_reducible apply r_orV))
  | ((with_reducible apply r_ifE))
  | ((with_reducible apply r_chain))
  | ((with_reducible apply ite_t); (first | (with_reducible exact nRN) | (with_reducible exact nIN) | (with_reducible exact dNN) | decide +kernel))
  | ((with_reducible apply ite_f); (first | (with_reducible exact dRN) | (with_reducible exact dIN) | (with_reducible exact nNN) | decide +kernel))
  | ((with_reducible apply r_in); (first | exact .inl (by walk_at "sq") | exact .inr (by walk_at "sq")); exact rfl; (first | exact nums_flat | exact rfl))
  | ((with_reducible apply turn))
  | ((with_reducible apply r_for))
  | ((with_reducible apply r_iRng1))
  | ((with_reducible apply r_rng); (first | decide | omega | (simp; omega)); (first | decide | omega | (simp; omega)))
  | ((with_reducible apply r_iList))
  | ((with_reducible apply r_iTup))
  | ((with_reducible apply r_overL); (walk_at "sq"))
  | ((with_reducible apply r_overT); (walk_at "sq"))
  | ((with_reducible apply r_lc))
  | ((with_reducible apply acc); assumption; (walk_at "szT"))
  | ((with_reducible apply r_sub))
  | ((with_reducible apply r_setL); assumption; exact rfl)
  | ((with_reducible apply r_gtup); (walk_at "sq"); rfl)
  | ((with_reducible apply r_gnil))
  | ((with_reducible apply r_gcons))
  | ((with_reducible apply r_par))
  | ((with_reducible apply r_par2))
  | ((with_reducible apply r_sl))
  | ((with_reducible apply r_part))
  | ((with_reducible apply r_part1))
  | ((with_reducible apply r_noPart))
  | ((with_reducible apply r_slL); (walk_at "sq"))
  | ((with_reducible apply r_slA); (walk_at "sq"))
  | ((with_reducible apply r_tupL); (walk_at "sq"))
  | ((with_reducible apply r_tupT); (walk_at "sq"))
  | ((with_reducible apply r_lstL); (walk_at "sq"))
  | ((with_reducible apply r_lstT); (walk_at "sq"))
  | ((with_reducible apply r_append))
  | ((with_reducible apply r_isL); (walk_at "sq"))
  | ((with_reducible apply r_app); assumption; (walk_at "szT"))
  | ((with_reducible apply r_dget))
  | ((with_reducible apply r_dgetS); assumption; (walk_at "dk"))
  | ((with_reducible apply r_dput))
  | ((with_reducible apply r_dputS); assumption; (walk_at "szT"))
  | ((with_reducible apply r_disp))
  | ((with_reducible apply r_pnil))
  | ((with_reducible apply r_pcons))
  | ((with_reducible apply r_fld))
  | ((with_reducible apply r_fld1); assumption; assumption; assumption; (first | exact rfl | assumption))
  | ((with_reducible apply r_sfld))
  | ((with_reducible apply r_sfld1); assumption; assumption; assumption; exact (by decide)))
local macro_rules | `(tactic| walk_at "rd") => `(tactic| repeat walk_at "rd1")
section
variable {P : Program} {w : World} {K : PySem.W.Frag} {mg : Str → Option Value} {base : Heap}
/-! ### the same data -/
section
variable {H H1 : Hp}
mutual
theorem Dp.keep0 (k : Keep [] H H1) : ∀ {d : PyData} {v : V}, Dp K H v d → Dp K H1 v d
  | .none, _, h => by cases h; exact .non
  | .bool b, _, h => by cases h; exact .bl b
  | .int i, _, h => by cases h; exact .int i
  | .str x, _, h => by cases h; exact .str x
  | .tuple ds, _, h => by
    cases h with
    | tup hs ha => exact .tup ((keep_ts0 k).sqT hs) (DpAll.keep0 k ha)
  | .list ds, _, h => by
    cases h with
    | lst hs ha => exact .lst (k.sqL (by simp) hs) (DpAll.keep0 k ha)
  | .dict _, _, h => by cases h
theorem DpAll.keep0 (k : Keep [] H H1) : ∀ {ds : List PyData} {vs : List V}, DpAll K H vs ds → DpAll K H1 vs ds
  | [], _, h => by cases h; exact .nil
  | d :: ds, _, h => by
    cases h with
    | cons h1 h2 => exact .cons (Dp.keep0 k h1) (DpAll.keep0 k h2)
end
theorem DpAll.length : ∀ {ds : List PyData} {vs : List V}, DpAll K H vs ds → vs.length = ds.length
  | [], _, h => by cases h; rfl
  | d :: ds, _, h => by
    cases h with
    | cons h1 h2 => rw [List.length_cons, List.length_cons, DpAll.length h2]
theorem DpAll.get : ∀ {ds : List PyData} {vs : List V} {i : Nat} {d : PyData}, DpAll K H vs ds → ds[i]? = some d → ∃ v, vs[i]? = some v ∧ Dp K H v d
  | [], _, _, _, _, e => by simp at e
  | d :: ds, _, 0, _, h, e => by
    cases h with
    | cons h1 h2 =>
      simp at e
      subst e
      exact ⟨_, rfl, h1⟩
  | d :: ds, _, i + 1, d', h, e => by
    cases h with
    | cons h1 h2 =>
      obtain ⟨v, q1, q2⟩ := DpAll.get (i := i) h2 (by simpa using e)
      exact ⟨v, by simpa using q1, q2⟩
end
def plain : Nat → PyData → Prop
  | 0, _ => False
  | n + 1, .list ds => ds.length ≤ 90000 ∧ ∀ e ∈ ds, plain n e
  | n + 1, .tuple ds => ds.length ≤ 90000 ∧ ∀ e ∈ ds, plain n e
  | _ + 1, .dict _ => False
  | _ + 1, _ => True
def spAlike (K : PySem.W.Frag) (n : Nat) : Sp := fun vs H Q _ => ∃ (x y : V) (d : PyData), vs = [x, y] ∧ Dp K H x d ∧ Dp K H y d ∧ plain n d ∧ ∀ H', Keep [] H H' → Q (.bl true) H'
abbrev sL_alike : Stmt := top 32
abbrev nL_alike : List Str := ["_law_found", "_law_due", "_law_k"]
abbrev pL_alike : List Str := ["_law_found", "_law_due"]
theorem scL_alike : FnScope nL_alike pL_alike (defScope sL_alike) := ⟨rfl, rfl, rfl, by decide +kernel, rfl, by decide +kernel, by decide +kernel⟩
theorem okAlike (D : DefAt K mg "_law_alike" sL_alike pL_alike) (T : Blt mg) : ∀ n : Nat, Callee P w K mg base "_law_alike" (n + 1) pL_alike (spAlike K n)
  | 0 => D.none fun vs H Q E h => by
    obtain ⟨x, y, d, rfl, _, _, h, _⟩ := h
    exact h
  | n + 1 => by
    have C_law_alike := okAlike D T n
    refine D.ok scL_alike (fun vs H Q E h => ?_) (fun f cdv A outer s H vs Q E hr h => ?_)
    · obtain ⟨x, y, d, rfl, _⟩ := h
      rfl
    obtain ⟨x, y, d, rfl, hx, hy, hp, q⟩ := h
    refine ⟨_, (pss_cons (ps_if (PW.pt (pw_or (pt_val (pe_callB (cIsi (K := K)) (by rfl) T.isinstance (by decide +kernel) (pa_cons (pv 1) (pa_cons (pe_bltn rfl T.tuple (by decide +kernel) (v := .ty "tuple") rfl) pa_nil)))) (pw_or1 (pt_val (pe_callB (cIsi (K := K)) (by rfl) T.isinstance (by decide +kernel) (pa_cons (pv 1) (pa_cons (pe_bltn rfl T.list (by decide +kernel) (v := .ty "list") rfl) pa_nil))))))) (pss_cons (ps_if (PW.pt (pw_or (pt_cmpR op_ne (pe_callB (cIsi (K := K)) (by rfl) T.isinstance (by decide +kernel) (pa_cons (pv 0) (pa_cons (pe_bltn rfl T.tuple (by decide +kernel) (v := .ty "tuple") rfl) pa_nil))) (pe_callB (cIsi (K := K)) (by rfl) T.isinstance (by decide +kernel) (pa_cons (pv 1) (pa_cons (pe_bltn rfl T.tuple (by decide +kernel) (v := .ty "tuple") rfl) pa_nil))) (nomark _)) (pw_or1 (pt_not (pt_val (pe_callB (cIsiT (K := K)) (by rfl) T.isinstance (by decide +kernel) (pa_cons (pv 0) (pa_cons (pe_tup (pa_cons (pe_bltn rfl T.tuple (by decide +kernel) (v := .ty "tuple") rfl) (pa_cons (pe_bltn rfl T.list (by decide +kernel) (v := .ty "list") rfl) pa_nil))) pa_nil)))))))) (pss_one (ps_ret pe_bl)) pss_nil)
  (pss_cons (ps_if (pt_cmpR op_ne (pe_callB (cLen (K := K)) (by rfl) T.len PySem.boot_len (pa_cons (pv 0) pa_nil)) (pe_callB (cLen (K := K)) (by rfl) T.len PySem.boot_len (pa_cons (pv 1) pa_nil)) (nomark _)) (pss_one (ps_ret pe_bl)) pss_nil)
  (pss_one (ps_ret (pe_cmpR (opEqD (K := K) hr.units) (pe_lc (own := [("_law_k", 2)]) (g := gName 2) (by rfl) scL_alike.nd (pi_range1 rfl T.range (pa_cons (pe_callB (cLen (K := K)) (by rfl) T.len PySem.boot_len (pa_cons (pv 1) pa_nil)) pa_nil)) (blkOk_by (own := [("_law_k", 2)]) (N := nL_alike) (sc := defScope sL_alike) (by decide +kernel)) (fun _ _ _ _ _ => (pg_name (i := 2) scL_alike.nd rfl (Or.inl rfl))) (fun _ _ _ _ _ => (pts_one (pt_not (pt_val (pcall C_law_alike (hr.mono (by omega)) rfl (pa_cons (pe_ix (ixA (K := K)) (pv 0) (pv 2) (fun _ _ => rfl)) (pa_cons (pe_ix (ixA (K := K)) (pv 1) (pv 2) (fun _ _ => rfl)) pa_nil))))))) (fun _ _ _ _ _ => (pv 2))) (pe_lst pa_nil) (nomark _)))))) pss_nil)
  (pss_cons (ps_if (PW.pt (pw_or (pt_cmpR op_isN1 (pv 1) pe_non (nomark _)) (pw_or1 (pt_cmpR op_isN1 (pv 0) pe_non (nomark _))))) (pss_one (ps_ret (pe_and (pe_cmpR op_isN1 (pv 1) pe_non (nomark _)) (pe_one (pe_cmpR op_isN1 (pv 0) pe_non (nomark _)))))) pss_nil)
  (pss_cons (ps_if (PW.pt (pw_or (pt_val (pe_callB (cIsi (K := K)) (by rfl) T.isinstance (by decide +kernel) (pa_cons (pv 1) (pa_cons (pe_bltn rfl T.bool (by decide +kernel) (v := .ty "bool") rfl) pa_nil)))) (pw_or1 (pt_val (pe_callB (cIsi (K := K)) (by rfl) T.isinstance (by decide +kernel) (pa_cons (pv 0) (pa_cons (pe_bltn rfl T.bool (by decide +kernel) (v := .ty "bool") rfl) pa_nil))))))) (pss_one (ps_ret (pe_and (pe_callB (cIsi (K := K)) (by rfl) T.isinstance (by decide +kernel) (pa_cons (pv 1) (pa_cons (pe_bltn rfl T.bool (by decide +kernel) (v := .ty "bool") rfl) pa_nil))) (pe_and (pe_callB (cIsi (K := K)) (by rfl) T.isinstance (by decide +kernel) (pa_cons (pv 0) (pa_cons (pe_bltn rfl T.bool (by decide +kernel) (v := .ty "bool") rfl) pa_nil))) (pe_one (pe_cmpR op_eq (pv 0) (pv 1) (nomark _))))))) pss_nil)
  (pss_cons (ps_if (pt_val (pe_callB (cIsi (K := K)) (by rfl) T.isinstance (by decide +kernel) (pa_cons (pv 1) (pa_cons (pe_bltn rfl T.str (by decide +kernel) (v := .ty "str") rfl) pa_nil)))) (pss_one (ps_ret (pe_and (pe_callB (cIsi (K := K)) (by rfl) T.isinstance (by decide +kernel) (pa_cons (pv 0) (pa_cons (pe_bltn rfl T.str (by decide +kernel) (v := .ty "str") rfl) pa_nil))) (pe_one (pe_cmpR op_eq (pv 0) (pv 1) (nomark _)))))) pss_nil)
  (pss_one (ps_ret (pe_and (pe_callB (cIsi (K := K)) (by rfl) T.isinstance (by decide +kernel) (pa_cons (pv 0) (pa_cons (pe_bltn rfl T.int (by decide +kernel) (v := .ty "int") rfl) pa_nil))) (pe_one (pe_cmpR op_eq (pv 0) (pv 1) (nomark _)))))))))), ?_⟩
    walk_at "rd"
    -- items one by one
    have items : ∀ (H0 : Hp) (a b : Addr) (xs ys : List V) (ds : List PyData) (Q0 : VK), Keep [] H H0 → (SqL K H0 a xs ∨ SqT K H0 a xs) → (SqL K H0 b ys ∨ SqT K H0 b ys) → DpAll K H0 xs ds → DpAll K H0 ys ds → ds.length ≤ 90000 → (∀ e ∈ ds, plain n e) → (∀ (E : Addr) (H1 : Hp), H1 E = some (.lst []) → Keep [] H0 H1 → Q0 (.ref E) H1) →
        LcIt (Itr 0 ((ys.length : Nat) : Int).toNat) (gName 2) (tNot (tB (tCall (spAlike K n) [] E0 (tCons (tOp (rIxA K) (tVar 0) (tVar 2)) (tCons (tOp (rIxA K) (tVar 1) (tVar 2)) tNil))))) (tVar 2) [2] [some (.ref a), some (.ref b), none] H0 Q0 := by
      intro H0 a b xs ys ds Q0 k0 ha hb hxs hys lds pds fin
      refine lcRi (fun E j H1 => H0 E = none ∧ Keep [] H0 H1 ∧ H1 E = some (.lst [])) (fun E H1 n1 h1 k1 => ⟨n1, k1, h1⟩) (fun E j H1 hj hp => ?_) (fun E H1 hp => fin E H1 hp.2.2 hp.2.1)
      obtain ⟨n1, k1, h1⟩ := hp
      have hj' : j < ds.length := by
        have := DpAll.length hys
        omega
      obtain ⟨u, eu, du⟩ := DpAll.get hxs (List.getElem?_eq_getElem hj')
      obtain ⟨v, ev, dv⟩ := DpAll.get hys (List.getElem?_eq_getElem hj')
      have eu' := atI_nat eu
      have ev' := atI_nat ev
      have ha1 : SqL K H1 a xs ∨ SqT K H1 a xs := ha.imp (k1.sqL (by simp)) ((keep_ts0 k1).sqT)
      have hb1 : SqL K H1 b ys ∨ SqT K H1 b ys := hb.imp (k1.sqL (by simp)) ((keep_ts0 k1).sqT)
      walk_at "rd"
      refine ⟨rfl, ?_⟩
      walk_at "rd"
      refine r_ixA ha1 eu' ?_
      walk_at "rd"
      refine r_ixA hb1 ev' ?_
      walk_at "rd"
      refine ask ⟨u, v, ds[j], rfl, Dp.keep0 k1 du, Dp.keep0 k1 dv, pds _ (List.getElem_mem hj'), fun H2 k2 => ?_⟩
      walk_at "rd"
      exact ⟨n1, k1.trans k2, k2 _ _ h1 (by simp)⟩
    cases d with
    | none =>
      cases hx
      cases hy
      refine r_orP (a := kb "NoneType" "tuple") (b := kb "NoneType" "list") (fun R hr => by walk_at "rd"; exact hr) (fun _ R hr => by walk_at "rd"; exact hr) ?_
      walk_at "rd"
      refine r_orP (a := decide (V.non = V.non)) (b := decide (V.non = V.non)) (fun R hr => by walk_at "rd"; exact hr) (fun _ R hr => by walk_at "rd"; exact hr) ?_
      walk_at "rd"
      exact q _ Keep.refl
    | bool b =>
      cases hx
      cases hy
      refine r_orP (a := kb "bool" "tuple") (b := kb "bool" "list") (fun R hr => by walk_at "rd"; exact hr) (fun _ R hr => by walk_at "rd"; exact hr) ?_
      walk_at "rd"
      refine r_orP (a := decide (V.bl b = V.non)) (b := decide (V.bl b = V.non)) (fun R hr => by walk_at "rd"; exact hr) (fun _ R hr => by walk_at "rd"; exact hr) ?_
      refine ite_f rfl ?_
      walk_at "rd"
      refine r_orP (a := kb "bool" "bool") (b := kb "bool" "bool") (fun R hr => by walk_at "rd"; exact hr) (fun _ R hr => by walk_at "rd"; exact hr) ?_
      walk_at "rd"
      exact (by rw [decide_eq_true (rfl : V.bl b = V.bl b)]; exact q _ Keep.refl : Q (V.bl (decide (V.bl b = V.bl b))) H)
    | int i =>
      cases hx
      cases hy
      refine r_orP (a := kb "int" "tuple") (b := kb "int" "list") (fun R hr => by walk_at "rd"; exact hr) (fun _ R hr => by walk_at "rd"; exact hr) ?_
      walk_at "rd"
      refine r_orP (a := decide (V.int i = V.non)) (b := decide (V.int i = V.non)) (fun R hr => by walk_at "rd"; exact hr) (fun _ R hr => by walk_at "rd"; exact hr) ?_
      refine ite_f rfl ?_
      walk_at "rd"
      refine r_orP (a := kb "int" "bool") (b := kb "int" "bool") (fun R hr => by walk_at "rd"; exact hr) (fun _ R hr => by walk_at "rd"; exact hr) ?_
      walk_at "rd"
      exact (by rw [decide_eq_true (rfl : V.int i = V.int i)]; exact q _ Keep.refl : Q (V.bl (decide (V.int i = V.int i))) H)
    | str z =>
      cases hx
      cases hy
      refine r_orP (a := kb "str" "tuple") (b := kb "str" "list") (fun R hr => by walk_at "rd"; exact hr) (fun _ R hr => by walk_at "rd"; exact hr) ?_
      walk_at "rd"
      refine r_orP (a := decide (V.str z = V.non)) (b := decide (V.str z = V.non)) (fun R hr => by walk_at "rd"; exact hr) (fun _ R hr => by walk_at "rd"; exact hr) ?_
      refine ite_f rfl ?_
      walk_at "rd"
      refine r_orP (a := kb "str" "bool") (b := kb "str" "bool") (fun R hr => by walk_at "rd"; exact hr) (fun _ R hr => by walk_at "rd"; exact hr) ?_
      walk_at "rd"
      exact (by rw [decide_eq_true (rfl : V.str z = V.str z)]; exact q _ Keep.refl : Q (V.bl (decide (V.str z = V.str z))) H)
    | list ds =>
      cases hx with
      | lst ha hxs =>
      cases hy with
      | lst hb hys =>
      rename_i a xs b ys
      have lxy : xs.length = ys.length := by rw [DpAll.length hxs, DpAll.length hys]
      have hp' : ds.length ≤ 90000 ∧ ∀ e ∈ ds, plain n e := hp
      have lys : ys.length ≤ 90000 := by rw [DpAll.length hys]; exact hp'.1
      refine r_orP (a := kb "list" "tuple") (b := kb "list" "list") (fun R hr => by walk_at "rd"; exact hr) (fun _ R hr => by walk_at "rd"; exact hr) ?_
      walk_at "rd"
      refine r_orI (a := !decide (V.bl (kb "list" "tuple") = V.bl (kb "list" "tuple"))) (fun R hr => by walk_at "rd"; exact hr) (fun _ => ?_) (fun h => absurd h (by decide +kernel))
      walk_at "rd"
      intro tp H1 n1 h1 k1
      have ha1 := k1.sqL (by simp) ha
      have hb1 := k1.sqL (by simp) hb
      walk_at "rd"
      refine ite_f (by rw [lxy]; simp) ?_
      walk_at "rd"
      refine items H1 a b xs ys ds _ k1 (.inl ha1) (.inl hb1) (DpAll.keep0 k1 hxs) (DpAll.keep0 k1 hys) hp'.1 hp'.2 fun E H2 h2 k2 => ?_
      walk_at "rd"
      intro e2 H3 n3 h3 k3
      refine ⟨.list [], .list [], .lst (SqL.of (k3 _ _ h2 (by simp))) .nil, .lst (SqL.of h3) .nil, rfl, rfl, ?_⟩
      exact q _ ((k1.trans k2).trans k3)
    | tuple ds =>
      cases hx with
      | tup ha hxs =>
      cases hy with
      | tup hb hys =>
      rename_i a xs b ys
      have lxy : xs.length = ys.length := by rw [DpAll.length hxs, DpAll.length hys]
      have hp' : ds.length ≤ 90000 ∧ ∀ e ∈ ds, plain n e := hp
      have lys : ys.length ≤ 90000 := by rw [DpAll.length hys]; exact hp'.1
      refine r_orP (a := kb "tuple" "tuple") (b := kb "tuple" "list") (fun R hr => by walk_at "rd"; exact hr) (fun _ R hr => by walk_at "rd"; exact hr) ?_
      walk_at "rd"
      refine r_orI (a := !decide (V.bl (kb "tuple" "tuple") = V.bl (kb "tuple" "tuple"))) (fun R hr => by walk_at "rd"; exact hr) (fun _ => ?_) (fun h => absurd h (by decide +kernel))
      walk_at "rd"
      intro tp H1 n1 h1 k1
      have ha1 := (keep_ts0 k1).sqT ha
      have hb1 := (keep_ts0 k1).sqT hb
      walk_at "rd"
      refine ite_f (by rw [lxy]; simp) ?_
      walk_at "rd"
      refine items H1 a b xs ys ds _ k1 (.inr ha1) (.inr hb1) (DpAll.keep0 k1 hxs) (DpAll.keep0 k1 hys) hp'.1 hp'.2 fun E H2 h2 k2 => ?_
      walk_at "rd"
      intro e2 H3 n3 h3 k3
      refine ⟨.list [], .list [], .lst (SqL.of (k3 _ _ h2 (by simp))) .nil, .lst (SqL.of h3) .nil, rfl, rfl, ?_⟩
      exact q _ ((k1.trans k2).trans k3)
    | dict _ => cases hx
end
end Hw
namespace Hw
open PySem PySem.Spec PyProof.Rows L2
local macro_rules | `(tactic| walk_at "sz") => `(tactic| first | exact Nat.le_of_ble_eq_true rfl | exact small (by first | omega | (simp; done) | (simp; omega)))
local macro_rules | `(tactic| walk_at "szT") => `(tactic| first | exact Nat.lt_of_lt_of_le (Nat.lt_succ_self _) (Nat.le_of_ble_eq_true rfl) | exact smallT (by first | omega | (simp; done) | (simp; omega)))
local macro_rules | `(tactic| walk_at "cond") => `(tactic| first | decide | omega | (dsimp only; omega) | exact ⟨by omega, by omega⟩ | exact .inr ⟨by decide, by decide⟩)
local macro_rules | `(tactic| walk_at "sq") => `(tactic| first | assumption | exact SqL.of (by assumption) | exact SqT.of (by assumption))
local macro_rules | `(tactic| walk_at "ty") => `(tactic| first | (with_reducible assumption) | exact .base (.int _) | exact .base (.str _) | exact .base (.bl _) | exact .base .non | exact tyT (by walk_at "sq") | exact tyL (by walk_at "sq"))
local macro_rules | `(tactic| walk_at "rd1") => `(tactic| first
  | ((with_reducible apply r_seq))
  | ((with_reducible apply r_asg))
  | ((with_reducible apply r_name))
  | ((with_reducible apply r_op))
  | ((with_reducible apply r_var); exact rfl)
  | ((with_reducible apply r_c))
  | ((with_reducible apply r_ixT); (walk_at "sq"); first | exact rfl | assumption)
  | ((with_reducible apply r_ixL); (walk_at "sq"); first | exact rfl | assumption)
  | ((with_reducible apply r_ixA); (first | exact .inl (by walk_at "sq") | exact .inr (by walk_at "sq")); first | exact rfl | assumption)
  | ((with_reducible apply r_isi); (walk_at "ty"); (decide +kernel))
  | ((with_reducible apply r_isiT2); assumption; (walk_at "ty"); (decide +kernel); (decide +kernel))
  | ((with_reducible apply r_I0))
  | ((with_reducible apply r_I); (walk_at "cond"))
  | ((with_reducible apply r_eq); exact rfl)
  | ((with_reducible apply r_ne); exact rfl)
  | ((with_reducible apply r_test))
  | ((with_reducible apply r_bl))
  | ((with_reducible apply r_if))
  | ((with_reducible apply r_nil))
  | ((with_reducible apply r_cons))
  | ((with_reducible apply r_call))
  | ((with_reducible apply r_cb))
  | ((with_reducible apply r_tup))
  | ((with_reducible apply r_lst))
  | ((with_reducible apply new); (walk_at "sz"))
  | ((with_reducible apply r_ret))
  | ((with_reducible apply r_retN))
  | ((with_reducible apply r_next))
  | ((with_reducible apply r_drop))
  | ((with_reducible apply r_lenL); (walk_at "sq"))
  | ((with_reducible apply r_lenT); (walk_at "sq"))
  | ((with_reducible apply r_int))
  | ((with_reducible apply r_intB))
  | ((with_reducible apply r_isN))
  | ((with_reducible apply r_notN))
  | ((with_reducible apply r_B))
  | ((with_reducible apply r_not))
  | ((with_reducible apply r_notV))
  | ((with_reducible apply r_andV))
  | ((with_reducible apply r_orV))
  | ((with_reducible apply r_ifE))
  | ((with_reducible apply r_chain))
  | ((with_reducible apply ite_t); (first | (with_reducible exact nRN) | (with_reducible exact nIN) | (with_reducible exact dNN) | decide +kernel))
  | ((with_reducible apply ite_f); (first | (with_reducible exact dRN) | (with_reducible exact dIN) | (with_reducible exact nNN) | decide +kernel))
  | ((with_reducible apply r_in); (first | exact .inl (by walk_at "sq") | exact .inr (by walk_at "sq")); exact rfl; (first | exact nums_flat | exact rfl))
  | ((with_reducible apply turn))
  | ((with_reducible apply r_for))
  | ((with_reducible apply r_iRng1))
  | ((with_reducible apply r_rng); (first | decide | omega | (simp; omega)); (first | decide | omega | (simp; omega)))
  | ((with_reducible apply r_iList))
  | ((with_reducible apply r_iTup))
  | ((with_reducible apply r_overL); (walk_at "sq"))
  | ((with_reducible apply r_overT); (walk_at "sq"))
  | ((with_reducible apply r_lc))
  | ((with_reducible apply acc); assumption; (walk_at "szT"))
  | ((with_reducible apply r_sub))
  | ((with_reducible apply r_setL); assumption; exact rfl)
  | ((with_reducible apply r_gtup); (walk_at "sq"); rfl)
  | ((with_reducible apply r_gnil))
  | ((with_reducible apply r_gcons))
  | ((with_reducible apply r_par))
  | ((with_reducible apply r_par2))
  | ((with_reducible apply r_sl))
  | ((with_reducible apply r_part))
  | ((with_reducible apply r_part1))
  | ((with_reducible apply r_noPart))
  | ((with_reducible apply r_slL); (walk_at "sq"))
  | ((with_reducible apply r_slA); (walk_at "sq"))
  | ((with_reducible apply r_tupL); (walk_at "sq"))
  | ((with_reducible apply r_tupT); (walk_at "sq"))
  | ((with_reducible apply r_lstL); (walk_at "sq"))
  | ((with_reducible apply r_lstT); (walk_at "sq"))
  | ((with_reducible apply r_append))
  | ((with_reducible apply r_isL); (walk_at "sq"))
  | ((with_reducible apply r_app); assumption; (walk_at "szT"))
  | ((with_reducible apply r_dget))
  | ((with_reducible apply r_dgetS); assumption; (walk_at "dk"))
  | ((with_reducible apply r_dput))
  | ((with_reducible apply r_dputS); assumption; (walk_at "szT"))
  | ((with_reducible apply r_disp))
  | ((with_reducible apply r_pnil))
  | ((with_reducible apply r_pcons))
  | ((with_reducible apply r_fld))
  | ((with_reducible apply r_fld1); assumption; assumption; assumption; (first | exact rfl | assumption))
  | ((with_reducible apply r_sfld))
  | ((with_reducible apply r_sfld1); assumption; assumption; assumption; exact (by decide)))
local macro_rules | `(tactic| walk_at "rd") => `(tactic| repeat walk_at "rd1")
/-! short words -/
section
variable {K : PySem.W.Frag}
theorem kts0 {H H1 : Hp} (k : Keep [] H H1) : Tst H H1 := k.ts fun _ z => nomatch z
theorem free0 {H H1 : Hp} {p : Addr} (k : Keep [] H H1) (h : H1 p = none) : H p = none := k.free (fun _ z => nomatch z) h
theorem at0 {x : V} {r : List V} : atI (x :: r) 0 = some x := atI_nat (xs := x :: r) (j := 0) rfl
theorem at1 {x y : V} {r : List V} : atI (x :: y :: r) 1 = some y := atI_nat (xs := x :: y :: r) (j := 1) rfl
theorem at2 {x y z : V} {r : List V} : atI (x :: y :: z :: r) 2 = some z := atI_nat (xs := x :: y :: z :: r) (j := 2) rfl
theorem at3 {x y z u : V} {r : List V} : atI (x :: y :: z :: u :: r) 3 = some u := atI_nat (xs := x :: y :: z :: u :: r) (j := 3) rfl
end
section
variable {P : Program} {w : World} {K : PySem.W.Frag} {mg : Str → Option Value} {base : Heap}
/-! ### programs.py: the small looks, at what is well -/
/-- the program's own numbers -/
structure Nrs (tk : Nat → Tok) (mg : Str → Option Value) : Prop extends Blt mg where
  NUMBERS : mg "NUMBERS" = some (.int 3 (tk 0))
  MOST_WORKS : mg "MOST_WORKS" = some (.int 4 (tk 1))
  MOST_PARAMS : mg "MOST_PARAMS" = some (.int 3 (tk 2))
  MOST_OWNS : mg "MOST_OWNS" = some (.int 99 (tk 3))
  MOST_STEPS : mg "MOST_STEPS" = some (.int 100 (tk 4))
  MOST_OTHERS : mg "MOST_OTHERS" = some (.int 4 (tk 5))
def belowD (k : Int) : PyData → Bool
  | .int n => decide (0 ≤ n) && decide (n < k)
  | _ => false
def spIsBelow (K : PySem.W.Frag) : Sp := fun vs H Q _ => ∃ (v : V) (d : PyData) (k : Int), vs = [v, .int k] ∧ Dp K H v d ∧ Q (.bl (belowD k d)) H
def spIsNumber (K : PySem.W.Frag) : Sp := fun vs H Q _ => ∃ (v : V) (d : PyData), vs = [v] ∧ Dp K H v d ∧ Q (.bl (belowD 3 d)) H
abbrev sis_below : Stmt := top 13
abbrev nis_below : List Str := ["value", "limit"]
abbrev pis_below : List Str := ["value", "limit"]
theorem scis_below : FnScope nis_below pis_below (defScope sis_below) := ⟨rfl, rfl, rfl, by decide +kernel, rfl, by decide +kernel, by decide +kernel⟩
abbrev sis_number : Stmt := top 14
abbrev nis_number : List Str := ["value"]
abbrev pis_number : List Str := ["value"]
theorem scis_number : FnScope nis_number pis_number (defScope sis_number) := ⟨rfl, rfl, rfl, by decide +kernel, rfl, by decide +kernel, by decide +kernel⟩
abbrev sis_shaped : Stmt := top 15
abbrev nis_shaped : List Str := ["value", "word", "size"]
abbrev pis_shaped : List Str := ["value", "word", "size"]
theorem scis_shaped : FnScope nis_shaped pis_shaped (defScope sis_shaped) := ⟨rfl, rfl, rfl, by decide +kernel, rfl, by decide +kernel, by decide +kernel⟩
theorem cases_b {C : Prop} (b : Bool) (h : b = true → C) (h' : b = false → C) : C := by
  cases b with
  | true => exact h rfl
  | false => exact h' rfl
theorem okIsBelow (D : DefAt K mg "is_below" sis_below pis_below) (T : Blt mg) : Callee P w K mg base "is_below" 1 pis_below (spIsBelow K) := by
  refine D.ok scis_below (fun vs H Q E h => ?_) (fun f cdv A outer s H vs Q E hr h => ?_)
  · obtain ⟨v, d, k, rfl, _⟩ := h
    rfl
  obtain ⟨v, d, k, rfl, hd, q⟩ := h
  refine ⟨_, (pss_cons (ps_if (PW.pt (pw_or (pt_val (pe_callB (cIsi (K := K)) (by rfl) T.isinstance (by decide +kernel) (pa_cons (pv 0) (pa_cons (pe_bltn rfl T.bool (by decide +kernel) (v := .ty "bool") rfl) pa_nil)))) (pw_or1 (pt_not (pt_val (pe_callB (cIsi (K := K)) (by rfl) T.isinstance (by decide +kernel) (pa_cons (pv 0) (pa_cons (pe_bltn rfl T.int (by decide +kernel) (v := .ty "int") rfl) pa_nil)))))))) (pss_one (ps_ret pe_bl)) pss_nil)
  (pss_one (ps_ret (pe_chain op_le op_lt pe_int (pv 0) (pv 1))))), ?_⟩
  walk_at "rd"
  cases d with
  | none =>
    cases hd
    refine r_orP (a := kb "NoneType" "bool") (b := !kb "NoneType" "int") (fun R hr => by walk_at "rd"; exact hr) (fun _ R hr => by walk_at "rd"; exact hr) ?_
    rw [if_pos (by decide +kernel)]
    walk_at "rd"
    exact q
  | bool b =>
    cases hd
    refine r_orP (a := kb "bool" "bool") (b := !kb "bool" "int") (fun R hr => by walk_at "rd"; exact hr) (fun _ R hr => by walk_at "rd"; exact hr) ?_
    rw [if_pos (by decide +kernel)]
    walk_at "rd"
    exact q
  | str x =>
    cases hd
    refine r_orP (a := kb "str" "bool") (b := !kb "str" "int") (fun R hr => by walk_at "rd"; exact hr) (fun _ R hr => by walk_at "rd"; exact hr) ?_
    rw [if_pos (by decide +kernel)]
    walk_at "rd"
    exact q
  | int n =>
    cases hd
    refine r_orP (a := kb "int" "bool") (b := !kb "int" "int") (fun R hr => by walk_at "rd"; exact hr) (fun _ R hr => by walk_at "rd"; exact hr) ?_
    rw [if_neg (by decide +kernel)]
    walk_at "rd"
    refine cases_b (decide (0 ≤ n)) (fun c => ?_) (fun c => ?_)
    · rw [if_pos c]
      walk_at "rd"
      have e : belowD k (.int n) = (decide (0 ≤ n) && decide (n < k)) := rfl
      rw [e, c, Bool.true_and] at q
      exact q
    · rw [if_neg (by rw [c]; exact Bool.false_ne_true)]
      have e : belowD k (.int n) = (decide (0 ≤ n) && decide (n < k)) := rfl
      rw [e, c, Bool.false_and] at q
      exact q
  | tuple ds =>
    cases hd with
    | tup hs ha =>
      refine r_orP (a := kb "tuple" "bool") (b := !kb "tuple" "int") (fun R hr => by walk_at "rd"; exact hr) (fun _ R hr => by walk_at "rd"; exact hr) ?_
      rw [if_pos (by decide +kernel)]
      walk_at "rd"
      exact q
  | list ds =>
    cases hd with
    | lst hs ha =>
      refine r_orP (a := kb "list" "bool") (b := !kb "list" "int") (fun R hr => by walk_at "rd"; exact hr) (fun _ R hr => by walk_at "rd"; exact hr) ?_
      rw [if_pos (by decide +kernel)]
      walk_at "rd"
      exact q
  | dict _ => cases hd
theorem okIsNumber {tk : Nat → Tok} (D : DefAt K mg "is_number" sis_number pis_number) (T : Nrs tk mg) (C_is_below : Callee P w K mg base "is_below" 1 pis_below (spIsBelow K)) :
    Callee P w K mg base "is_number" 2 pis_number (spIsNumber K) := by
  refine D.ok scis_number (fun vs H Q E h => ?_) (fun f cdv A outer s H vs Q E hr h => ?_)
  · obtain ⟨v, d, rfl, _⟩ := h
    rfl
  obtain ⟨v, d, rfl, hd, q⟩ := h
  refine ⟨_, (pss_one (ps_ret (pcall C_is_below (hr.mono (by omega)) rfl (pa_cons (pv 0) (pa_cons (pe_glob (v := .int 3) rfl T.NUMBERS ⟨_, rfl⟩) pa_nil))))), ?_⟩
  walk_at "rd"
  refine ask ⟨v, d, 3, rfl, hd, ?_⟩
  exact q
def shapedD (wd : PyData) (k : Int) : PyData → Bool
  | .tuple ds => decide ((ds.length : Int) = k) && ((ds.head?.map fun d => PyData.eqv d wd).getD false)
  | _ => false
def headOk : PyData → Prop
  | .tuple (d :: _) => SeqAt.shaped d = true
  | _ => True
def spIsShaped (K : PySem.W.Frag) : Sp := fun vs H Q _ => ∃ (v : V) (d : PyData) (x : Str) (k : Int), vs = [v, .str x, .int k] ∧ Dp K H v d ∧ headOk d ∧ SeqAt.shaped (.str x) = true ∧ 0 < k ∧ Q (.bl (shapedD (.str x) k d)) H
theorem okIsShaped (D : DefAt K mg "is_shaped" sis_shaped pis_shaped) (T : Blt mg) : Callee P w K mg base "is_shaped" 1 pis_shaped (spIsShaped K) := by
  refine D.ok scis_shaped (fun vs H Q E h => ?_) (fun f cdv A outer s H vs Q E hr h => ?_)
  · obtain ⟨v, d, x, k, rfl, _⟩ := h
    rfl
  obtain ⟨v, d, x, k, rfl, hd, ho, hw, k0, q⟩ := h
  refine ⟨_, (pss_one (ps_ret (pe_and (pe_callB (cIsi (K := K)) (by rfl) T.isinstance (by decide +kernel) (pa_cons (pv 0) (pa_cons (pe_bltn rfl T.tuple (by decide +kernel) (v := .ty "tuple") rfl) pa_nil))) (pe_and (pe_cmpR op_eq (pe_callB (cLen (K := K)) (by rfl) T.len PySem.boot_len (pa_cons (pv 0) pa_nil)) (pv 2) (nomark _)) (pe_one (pe_cmpR (opEqD (K := K) hr.units) (pe_ix (ixT (K := K)) (pv 0) pe_int (fun _ _ => rfl)) (pv 1) (nomark _))))))), ?_⟩
  walk_at "rd"
  cases d with
  | none =>
    cases hd
    walk_at "rd"
    exact q
  | bool b =>
    cases hd
    walk_at "rd"
    exact q
  | int n =>
    cases hd
    walk_at "rd"
    exact q
  | str y =>
    cases hd
    walk_at "rd"
    exact q
  | list ds =>
    cases hd with
    | lst hs ha =>
      walk_at "rd"
      exact q
  | tuple ds =>
    cases hd with
    | @tup p xs _ hs ha =>
      have len := DpAll.length ha
      walk_at "rd"
      by_cases c : (xs.length : Int) = k
      · rw [if_pos (decide_eq_true (congrArg V.int c))]
        cases ds with
        | nil =>
          rw [len] at c
          exact absurd c (by simp; omega)
        | cons d0 ds =>
          cases ha with
          | @cons v0 vs _ _ h0 h1 =>
            have e0 : atI (v0 :: vs) 0 = some v0 := atI_nat (xs := v0 :: vs) (j := 0) rfl
            walk_at "rd"
            refine ⟨d0, .str x, h0, .str x, ho, hw, ?_⟩
            have e : shapedD (.str x) k (.tuple (d0 :: ds)) = PyData.eqv d0 (.str x) := by
              rw [len] at c
              show (decide (((d0 :: ds).length : Int) = k) && _) = _
              rw [decide_eq_true c]
              rfl
            rw [e] at q
            exact q
      · rw [if_neg (by
          rw [decide_eq_false (fun z => c (V.int.inj z))]
          exact Bool.false_ne_true)]
        have e : shapedD (.str x) k (.tuple ds) = false := by
          rw [len] at c
          show (decide ((ds.length : Int) = k) && _) = _
          rw [decide_eq_false c]
          rfl
        rw [e] at q
        exact q
  | dict _ => cases hd
end
end Hw
namespace Hw
open PySem PySem.Spec PyProof.Rows L2
local macro_rules | `(tactic| walk_at "sz") => `(tactic| first | exact Nat.le_of_ble_eq_true rfl | exact small (by first | omega | (simp; done) | (simp; omega)))
local macro_rules | `(tactic| walk_at "szT") => `(tactic| first | exact Nat.lt_of_lt_of_le (Nat.lt_succ_self _) (Nat.le_of_ble_eq_true rfl) | exact smallT (by first | omega | (simp; done) | (simp; omega)))
local macro_rules | `(tactic| walk_at "cond") => `(tactic| first | decide | omega | (dsimp only; omega) | exact ⟨by omega, by omega⟩ | exact .inr ⟨by decide, by decide⟩)
local macro_rules | `(tactic| walk_at "sq") => `(tactic| first | assumption | exact SqL.of (by assumption) | exact SqT.of (by assumption))
local macro_rules | `(tactic| walk_at "ty") => `(tactic| first | (with_reducible assumption) | exact .base (.int _) | exact .base (.str _) | exact .base (.bl _) | exact .base .non | exact tyT (by walk_at "sq") | exact tyL (by walk_at "sq"))
local macro_rules | `(tactic| walk_at "rd1") => `(tactic| first
  | ((with_reducible apply r_seq))
  | ((with_reducible apply r_asg))
  | ((with_reducible apply r_name))
  | ((with_reducible apply r_op))
  | ((with_reducible apply r_var); exact rfl)
  | ((with_reducible apply r_c))
  | ((with_reducible apply r_ixT); (walk_at "sq"); first | exact rfl | assumption)
  | ((with_reducible apply r_ixL); (walk_at "sq"); first | exact rfl | assumption)
  | ((with_reducible apply r_ixA); (first | exact .inl (by walk_at "sq") | exact .inr (by walk_at "sq")); first | exact rfl | assumption)
  | ((with_reducible apply r_isi); (walk_at "ty"); (decide +kernel))
  | ((with_reducible apply r_isiT2); assumption; (walk_at "ty"); (decide +kernel); (decide +kernel))
  | ((with_reducible apply r_I0))
  | ((with_reducible apply r_I); (walk_at "cond"))
  | ((with_reducible apply r_eq); exact rfl)
  | ((with_reducible apply r_ne); exact rfl)
  | ((with_reducible apply r_test))
  | ((with_reducible apply r_bl))
  | ((with_reducible apply r_if))
  | ((with_reducible apply r_nil))
  | ((with_reducible apply r_cons))
  | ((with_reducible apply r_call))
  | ((with_reducible apply r_cb))
  | ((with_reducible apply r_tup))
  | ((with_reducible apply r_lst))
  | ((with_reducible apply new); (walk_at "sz"))
  | ((with_reducible apply r_ret))
  | ((with_reducible apply r_retN))
  | ((with_reducible apply r_next))
  | ((with_reducible apply r_drop))
  | ((with_reducible apply r_lenL); (walk_at "sq"))
  | ((with_reducible apply r_lenT); (walk_at "sq"))
  | ((with_reducible apply r_int))
  | ((with_reducible apply r_intB))
  | ((with_reducible apply r_isN))
  | ((with_reducible apply r_notN))
  | ((with_reducible apply r_B))
  | ((with_reducible apply r_not))
  | ((with_reducible apply r_notV))
  | ((with_reducible apply r_andV))
  | ((with_reducible apply r_orV))
  | ((with_reducible apply r_ifE))
  | ((with_reducible apply r_chain))
  | ((with_reducible apply ite_t); (first | (with_reducible exact nRN) | (with_reducible exact nIN) | (with_reducible exact dNN) | decide +kernel))
  | ((with_reducible apply ite_f); (first | (with_reducible exact dRN) | (with_reducible exact dIN) | (with_reducible exact nNN) | decide +kernel))
  | ((with_reducible apply r_in); (first | exact .inl (by walk_at "sq") | exact .inr (by walk_at "sq")); exact rfl; (first | exact nums_flat | exact rfl))
  | ((with_reducible apply turn))
  | ((with_reducible apply r_for))
  | ((with_reducible apply r_iRng1))
  | ((with_reducible apply r_rng); (first | decide | omega | (simp; omega)); (first | decide | omega | (simp; omega)))
  | ((with_reducible apply r_iList))
  | ((with_reducible apply r_iTup))
  | ((with_reducible apply r_overL); (walk_at "sq"))
  | ((with_reducible apply r_overT); (walk_at "sq"))
  | ((with_reducible apply r_lc))
  | ((with_reducible apply acc); assumption; (walk_at "szT"))
  | ((with_reducible apply r_sub))
  | ((with_reducible apply r_setL); assumption; exact rfl)
  | ((with_reducible apply r_gtup); (walk_at "sq"); rfl)
  | ((with_reducible apply r_gnil))
  | ((with_reducible apply r_gcons))
  | ((with_reducible apply r_par))
  | ((with_reducible apply r_par2))
  | ((with_reducible apply r_sl))
  | ((with_reducible apply r_part))
  | ((with_reducible apply r_part1))
  | ((with_reducible apply r_noPart))
  | ((with_reducible apply r_slL); (walk_at "sq"))
  | ((with_reducible apply r_slA); (walk_at "sq"))
  | ((with_reducible apply r_tupL); (walk_at "sq"))
  | ((with_reducible apply r_tupT); (walk_at "sq"))
  | ((with_reducible apply r_lstL); (walk_at "sq"))
  | ((with_reducible apply r_lstT); (walk_at "sq"))
  | ((with_reducible apply r_append))
  | ((with_reducible apply r_isL); (walk_at "sq"))
  | ((with_reducible apply r_app); assumption; (walk_at "szT"))
  | ((with_reducible apply r_dget))
  | ((with_reducible apply r_dgetS); assumption; (walk_at "dk"))
  | ((with_reducible apply r_dput))
  | ((with_reducible apply r_dputS); assumption; (walk_at "szT"))
  | ((with_reducible apply r_disp))
  | ((with_reducible apply r_pnil))
  | ((with_reducible apply r_pcons))
  | ((with_reducible apply r_fld))
  | ((with_reducible apply r_fld1); assumption; assumption; assumption; (first | exact rfl | assumption))
  | ((with_reducible apply r_sfld))
  | ((with_reducible apply r_sfld1); assumption; assumption; assumption; exact (by decide)))
local macro_rules | `(tactic| walk_at "rd") => `(tactic| repeat walk_at "rd1")
section
variable {P : Program} {w : World} {K : PySem.W.Frag} {mg : Str → Option Value} {base : Heap}
/-! ### programs.py: is_plain -/
def item1 : PyData → PyData
  | .tuple (_ :: d :: _) => d
  | _ => .none
theorem shaped2 {H : Hp} {v : V} {d wd : PyData} (hd : Dp K H v d) (e : shapedD wd 2 d = true) : ∃ (p : Addr) (v0 v1 : V), v = .ref p ∧ SqT K H p [v0, v1] ∧ atI [v0, v1] 1 = some v1 ∧ Dp K H v1 (item1 d) := by
  cases d with
  | tuple ds =>
    have e1 : (decide ((ds.length : Int) = 2) && ((ds.head?.map fun d => PyData.eqv d wd).getD false)) = true := e
    have e2 : (ds.length : Int) = 2 := of_decide_eq_true (Bool.and_eq_true_iff.mp e1).1
    cases hd with
    | @tup p xs _ hs ha =>
      cases ha with
      | nil => cases e2
      | @cons v0 vs _ _ h0 h1 =>
        cases h1 with
        | nil => cases e2
        | @cons v1 vs1 _ _ h1 h2 =>
          cases h2 with
          | nil => exact ⟨p, v0, v1, rfl, hs, atI_nat (xs := [v0, v1]) (j := 1) rfl, h1⟩
          | cons h2 h3 =>
            simp at e2
            omega
  | _ => cases e
def plainD (ps os : Int) (d : PyData) : Bool :=
  if shapedD (.str "num") 2 d then belowD 3 (item1 d) else if shapedD (.str "own") 2 d then belowD os (item1 d) else shapedD (.str "par") 2 d && belowD ps (item1 d)
def spIsPlain (K : PySem.W.Frag) : Sp := fun vs H Q _ => ∃ (wp : Addr) (v b : V) (d : PyData) (ps os : Int), vs = [.ref wp, v] ∧ SqT K H wp [.int ps, .int os, b] ∧ Dp K H v d ∧ headOk d ∧ Q (.bl (plainD ps os d)) H
abbrev sis_plain : Stmt := top 23
abbrev nis_plain : List Str := ["work", "thing"]
abbrev pis_plain : List Str := ["work", "thing"]
theorem scis_plain : FnScope nis_plain pis_plain (defScope sis_plain) := ⟨rfl, rfl, rfl, by decide +kernel, rfl, by decide +kernel, by decide +kernel⟩
theorem okIsPlain (D : DefAt K mg "is_plain" sis_plain pis_plain) (T : Blt mg) (C_is_below : Callee P w K mg base "is_below" 1 pis_below (spIsBelow K))
    (C_is_number : Callee P w K mg base "is_number" 2 pis_number (spIsNumber K)) (C_is_shaped : Callee P w K mg base "is_shaped" 1 pis_shaped (spIsShaped K)) :
    Callee P w K mg base "is_plain" 3 pis_plain (spIsPlain K) := by
  refine D.ok scis_plain (fun vs H Q E h => ?_) (fun f cdv A outer s H vs Q E hr h => ?_)
  · obtain ⟨wp, v, b, d, ps, os, rfl, _⟩ := h
    rfl
  obtain ⟨wp, v, b, d, ps, os, rfl, hW, hd, ho, q⟩ := h
  have a0 : atI [.int ps, .int os, b] 0 = some (.int ps) := atI_nat (xs := [.int ps, .int os, b]) (j := 0) rfl
  have a1 : atI [.int ps, .int os, b] 1 = some (.int os) := atI_nat (xs := [.int ps, .int os, b]) (j := 1) rfl
  refine ⟨_, (pss_cons (ps_if (pt_val (pcall C_is_shaped (hr.mono (by omega)) rfl (pa_cons (pv 1) (pa_cons pe_str (pa_cons pe_int pa_nil))))) (pss_one (ps_ret (pcall C_is_number (hr.mono (by omega)) rfl (pa_cons (pe_ix (ixT (K := K)) (pv 1) pe_int (fun _ _ => rfl)) pa_nil)))) pss_nil)
  (pss_cons (ps_if (pt_val (pcall C_is_shaped (hr.mono (by omega)) rfl (pa_cons (pv 1) (pa_cons pe_str (pa_cons pe_int pa_nil))))) (pss_one (ps_ret (pcall C_is_below (hr.mono (by omega)) rfl (pa_cons (pe_ix (ixT (K := K)) (pv 1) pe_int (fun _ _ => rfl)) (pa_cons (pe_ix (ixT (K := K)) (pv 0) pe_int (fun _ _ => rfl)) pa_nil))))) pss_nil)
  (pss_one (ps_ret (pe_and (pcall C_is_shaped (hr.mono (by omega)) rfl (pa_cons (pv 1) (pa_cons pe_str (pa_cons pe_int pa_nil)))) (pe_one (pcall C_is_below (hr.mono (by omega)) rfl (pa_cons (pe_ix (ixT (K := K)) (pv 1) pe_int (fun _ _ => rfl)) (pa_cons (pe_ix (ixT (K := K)) (pv 0) pe_int (fun _ _ => rfl)) pa_nil))))))))), ?_⟩
  walk_at "rd"
  refine ask ⟨v, d, "num", 2, rfl, hd, ho, by decide +kernel, by decide, ?_⟩
  walk_at "rd"
  refine ite2 (fun c => ?_) (fun c => ?_)
  · obtain ⟨p, v0, v1, rfl, hT, at1, h1⟩ := shaped2 hd c
    walk_at "rd"
    refine ask ⟨v1, item1 d, rfl, h1, ?_⟩
    have e : plainD ps os d = belowD 3 (item1 d) := if_pos c
    rw [e] at q
    walk_at "rd"
    exact q
  have e : plainD ps os d = if shapedD (.str "own") 2 d then belowD os (item1 d) else shapedD (.str "par") 2 d && belowD ps (item1 d) := if_neg c
  rw [e] at q
  walk_at "rd"
  refine ask ⟨v, d, "own", 2, rfl, hd, ho, by decide +kernel, by decide, ?_⟩
  walk_at "rd"
  refine ite2 (fun c => ?_) (fun c => ?_)
  · obtain ⟨p, v0, v1, rfl, hT, at1, h1⟩ := shaped2 hd c
    walk_at "rd"
    refine ask ⟨v1, item1 d, os, rfl, h1, ?_⟩
    rw [if_pos c] at q
    walk_at "rd"
    exact q
  rw [if_neg c] at q
  walk_at "rd"
  refine ask ⟨v, d, "par", 2, rfl, hd, ho, by decide +kernel, by decide, ?_⟩
  walk_at "rd"
  refine ite2 (fun c => ?_) (fun c => ?_)
  · obtain ⟨p, v0, v1, rfl, hT, at1, h1⟩ := shaped2 hd c
    rw [c, Bool.true_and] at q
    walk_at "rd"
    refine ask ⟨v1, item1 d, ps, rfl, h1, ?_⟩
    walk_at "rd"
    exact q
  · rw [Bool.eq_false_iff.mpr c, Bool.false_and] at q
    walk_at "rd"
    exact q
end
end Hw
namespace Hw
open PySem PySem.Spec PyProof.Rows L2
local macro_rules | `(tactic| walk_at "sz") => `(tactic| first | exact Nat.le_of_ble_eq_true rfl | exact small (by first | omega | (simp; done) | (simp; omega)))
local macro_rules | `(tactic| walk_at "szT") => `(tactic| first | exact Nat.lt_of_lt_of_le (Nat.lt_succ_self _) (Nat.le_of_ble_eq_true rfl) | exact smallT (by first | omega | (simp; done) | (simp; omega)))
local macro_rules | `(tactic| walk_at "cond") => `(tactic| first | decide | omega | (dsimp only; omega) | exact ⟨by omega, by omega⟩ | exact .inr ⟨by decide, by decide⟩)
local macro_rules | `(tactic| walk_at "sq") => `(tactic| first | assumption | exact SqL.of (by assumption) | exact SqT.of (by assumption))
local macro_rules | `(tactic| walk_at "ty") => `(tactic| first | (with_reducible assumption) | exact .base (.int _) | exact .base (.str _) | exact .base (.bl _) | exact .base .non | exact tyT (by walk_at "sq") | exact tyL (by walk_at "sq"))
local macro_rules | `(tactic| walk_at "rd1") => `(tactic| first
  | ((with_reducible apply r_seq))
  | ((with_reducible apply r_asg))
  | ((with_reducible apply r_name))
  | ((with_reducible apply r_op))
  | ((with_reducible apply r_var); exact rfl)
  | ((with_reducible apply r_c))
  | ((with_reducible apply r_ixT); (walk_at "sq"); first | exact rfl | assumption)
  | ((with_reducible apply r_ixL); (walk_at "sq"); first | exact rfl | assumption)
  | ((with_reducible apply r_ixA); (first | exact .inl (by walk_at "sq") | exact .inr (by walk_at "sq")); first | exact rfl | assumption)
  | ((with_reducible apply r_isi); (walk_at "ty"); (decide +kernel))
  | ((with_reducible apply r_isiT2); assumption; (walk_at "ty"); (decide +kernel); (decide +kernel))
  | ((with_reducible apply r_I0))
  | ((with_reducible apply r_I); (walk_at "cond"))
  | ((with_reducible apply r_eq); exact rfl)
  | ((with_reducible apply r_ne); exact rfl)
  | ((with_reducible apply r_test))
  | ((with_reducible apply r_bl))
  | ((with_reducible apply r_if))
  | ((with_reducible apply r_nil))
  | ((with_reducible apply r_cons))
  | ((with_reducible apply r_call))
  | ((with_reducible apply r_cb))
  | ((with_reducible apply r_tup))
  | ((with_reducible apply r_lst))
  | ((with_reducible apply new); (walk_at "sz"))
  | ((with_reducible apply r_ret))
  | ((with_reducible apply r_retN))
  | ((with_reducible apply r_next))
  | ((with_reducible apply r_drop))
  | ((with_reducible apply r_lenL); (walk_at "sq"))
  | ((with_reducible apply r_lenT); (walk_at "sq"))
  | ((with_reducible apply r_int))
  | ((with_reducible apply r_intB))
  | ((with_reducible apply r_isN))
  | ((with_reducible apply r_notN))
  | ((with_reducible apply r_B))
  | ((with_reducible apply r_not))
  | ((with_reducible apply r_notV))
  | ((with_reducible apply r_andV))
  | ((with_reducible apply r_orV))
  | ((with_reducible apply r_ifE))
  | ((with_reducible apply r_chain))
  | ((with_reducible apply ite_t); (first | (with_reducible exact nRN) | (with_reducible exact nIN) | (with_reducible exact dNN) | decide +kernel))
  | ((with_reducible apply ite_f); (first | (with_reducible exact dRN) | (with_reducible exact dIN) | (with_reducible exact nNN) | decide +kernel))
  | ((with_reducible apply r_in); (first | exact .inl (by walk_at "sq") | exact .inr (by walk_at "sq")); exact rfl; (first | exact nums_flat | exact rfl))
  | ((with_reducible apply turn))
  | ((with_reducible apply r_for))
  | ((with_reducible apply r_iRng1))
  | ((with_reducible apply r_rng); (first | decide | omega | (simp; omega)); (first | decide | omega | (simp; omega)))
  | ((with_reducible apply r_iList))
  | ((with_reducible apply r_iTup))
  | ((with_reducible apply r_overL); (walk_at "sq"))
  | ((with_reducible apply r_overT); (walk_at "sq"))
  | ((with_reducible apply r_lc))
  | ((with_reducible apply acc); assumption; (walk_at "szT"))
  | ((with_reducible apply r_sub))
  | ((with_reducible apply r_setL); assumption; exact rfl)
  | ((with_reducible apply r_gtup); (walk_at "sq"); rfl)
  | ((with_reducible apply r_gnil))
  | ((with_reducible apply r_gcons))
  | ((with_reducible apply r_par))
  | ((with_reducible apply r_par2))
  | ((with_reducible apply r_sl))
  | ((with_reducible apply r_part))
  | ((with_reducible apply r_part1))
  | ((with_reducible apply r_noPart))
  | ((with_reducible apply r_slL); (walk_at "sq"))
  | ((with_reducible apply r_slA); (walk_at "sq"))
  | ((with_reducible apply r_tupL); (walk_at "sq"))
  | ((with_reducible apply r_tupT); (walk_at "sq"))
  | ((with_reducible apply r_lstL); (walk_at "sq"))
  | ((with_reducible apply r_lstT); (walk_at "sq"))
  | ((with_reducible apply r_append))
  | ((with_reducible apply r_isL); (walk_at "sq"))
  | ((with_reducible apply r_app); assumption; (walk_at "szT"))
  | ((with_reducible apply r_dget))
  | ((with_reducible apply r_dgetS); assumption; (walk_at "dk"))
  | ((with_reducible apply r_dput))
  | ((with_reducible apply r_dputS); assumption; (walk_at "szT"))
  | ((with_reducible apply r_disp))
  | ((with_reducible apply r_pnil))
  | ((with_reducible apply r_pcons))
  | ((with_reducible apply r_fld))
  | ((with_reducible apply r_fld1); assumption; assumption; assumption; (first | exact rfl | assumption))
  | ((with_reducible apply r_sfld))
  | ((with_reducible apply r_sfld1); assumption; assumption; assumption; exact (by decide)))
local macro_rules | `(tactic| walk_at "rd") => `(tactic| repeat walk_at "rd1")
section
variable {P : Program} {w : World} {K : PySem.W.Frag} {mg : Str → Option Value} {base : Heap}
/-! ### programs.py: need_thing, of what is a thing -/
section
variable {H : Hp}
mutual
theorem Rp.dp : ∀ {d : PyData} {v : V}, Rp K H v d → Dp K H v d
  | .none, _, h => by cases h; exact .non
  | .bool b, _, h => by cases h; exact .bl b
  | .int i, _, h => by cases h; exact .int i
  | .str x, _, h => by cases h; exact .str x
  | .tuple ds, _, h => by
    cases h with
    | tup hs ha => exact .tup hs (Rps.dp ha)
  | .list _, _, h => by cases h
  | .dict _, _, h => by cases h
theorem Rps.dp : ∀ {ds : List PyData} {vs : List V}, Rps K H vs ds → DpAll K H vs ds
  | [], _, h => by cases h; exact .nil
  | d :: ds, _, h => by
    cases h with
    | cons h1 h2 => exact .cons (Rp.dp h1) (Rps.dp h2)
end
end
def Th.size : Th → Int
  | .sum _ _ => 3
  | _ => 2
theorem shapedD_str {y x : Str} {ds : List PyData} {k : Int} : shapedD (.str x) k (.tuple (.str y :: ds)) = (decide (((PyData.str y :: ds).length : Int) = k) && (y == x)) := rfl
theorem Th.shaped {x : Str} {k : Int} : ∀ t : Th, shapedD (.str x) k t.enc = (decide (t.size = k) && (t.word == x))
  | .num _ => shapedD_str
  | .sum _ _ => shapedD_str
  | .cell _ => shapedD_str
  | .own _ => shapedD_str
  | .par _ => shapedD_str
theorem Th.headOk : ∀ t : Th, headOk t.enc
  | .num _ => (by decide +kernel : SeqAt.shaped (.str "num") = true)
  | .sum _ _ => (by decide +kernel : SeqAt.shaped (.str "sum") = true)
  | .cell _ => (by decide +kernel : SeqAt.shaped (.str "cell") = true)
  | .own _ => (by decide +kernel : SeqAt.shaped (.str "own") = true)
  | .par _ => (by decide +kernel : SeqAt.shaped (.str "par") = true)
theorem sd_sum_sum (a b : Th) : shapedD (.str "sum") 3 (Th.sum a b).enc = true :=
  (Th.shaped _).trans (show (decide ((3 : Int) = 3) && (("sum" : Str) == "sum")) = true by decide +kernel)
theorem sd_sum_cell (a b : Th) : shapedD (.str "cell") 2 (Th.sum a b).enc = false :=
  (Th.shaped _).trans (show (decide ((3 : Int) = 2) && (("sum" : Str) == "cell")) = false by decide +kernel)
theorem sd_sum_num (a b : Th) : shapedD (.str "num") 2 (Th.sum a b).enc = false :=
  (Th.shaped _).trans (show (decide ((3 : Int) = 2) && (("sum" : Str) == "num")) = false by decide +kernel)
theorem sd_sum_own (a b : Th) : shapedD (.str "own") 2 (Th.sum a b).enc = false :=
  (Th.shaped _).trans (show (decide ((3 : Int) = 2) && (("sum" : Str) == "own")) = false by decide +kernel)
theorem sd_sum_par (a b : Th) : shapedD (.str "par") 2 (Th.sum a b).enc = false :=
  (Th.shaped _).trans (show (decide ((3 : Int) = 2) && (("sum" : Str) == "par")) = false by decide +kernel)
theorem sd_cell_sum (a : Th) : shapedD (.str "sum") 3 (Th.cell a).enc = false :=
  (Th.shaped _).trans (show (decide ((2 : Int) = 3) && (("cell" : Str) == "sum")) = false by decide +kernel)
theorem sd_cell_cell (a : Th) : shapedD (.str "cell") 2 (Th.cell a).enc = true :=
  (Th.shaped _).trans (show (decide ((2 : Int) = 2) && (("cell" : Str) == "cell")) = true by decide +kernel)
theorem sd_cell_num (a : Th) : shapedD (.str "num") 2 (Th.cell a).enc = false :=
  (Th.shaped _).trans (show (decide ((2 : Int) = 2) && (("cell" : Str) == "num")) = false by decide +kernel)
theorem sd_cell_own (a : Th) : shapedD (.str "own") 2 (Th.cell a).enc = false :=
  (Th.shaped _).trans (show (decide ((2 : Int) = 2) && (("cell" : Str) == "own")) = false by decide +kernel)
theorem sd_cell_par (a : Th) : shapedD (.str "par") 2 (Th.cell a).enc = false :=
  (Th.shaped _).trans (show (decide ((2 : Int) = 2) && (("cell" : Str) == "par")) = false by decide +kernel)
theorem sd_num_sum (k : Nat) : shapedD (.str "sum") 3 (Th.num k).enc = false :=
  (Th.shaped _).trans (show (decide ((2 : Int) = 3) && (("num" : Str) == "sum")) = false by decide +kernel)
theorem sd_num_cell (k : Nat) : shapedD (.str "cell") 2 (Th.num k).enc = false :=
  (Th.shaped _).trans (show (decide ((2 : Int) = 2) && (("num" : Str) == "cell")) = false by decide +kernel)
theorem sd_num_num (k : Nat) : shapedD (.str "num") 2 (Th.num k).enc = true :=
  (Th.shaped _).trans (show (decide ((2 : Int) = 2) && (("num" : Str) == "num")) = true by decide +kernel)
theorem sd_num_own (k : Nat) : shapedD (.str "own") 2 (Th.num k).enc = false :=
  (Th.shaped _).trans (show (decide ((2 : Int) = 2) && (("num" : Str) == "own")) = false by decide +kernel)
theorem sd_num_par (k : Nat) : shapedD (.str "par") 2 (Th.num k).enc = false :=
  (Th.shaped _).trans (show (decide ((2 : Int) = 2) && (("num" : Str) == "par")) = false by decide +kernel)
theorem sd_own_sum (k : Nat) : shapedD (.str "sum") 3 (Th.own k).enc = false :=
  (Th.shaped _).trans (show (decide ((2 : Int) = 3) && (("own" : Str) == "sum")) = false by decide +kernel)
theorem sd_own_cell (k : Nat) : shapedD (.str "cell") 2 (Th.own k).enc = false :=
  (Th.shaped _).trans (show (decide ((2 : Int) = 2) && (("own" : Str) == "cell")) = false by decide +kernel)
theorem sd_own_num (k : Nat) : shapedD (.str "num") 2 (Th.own k).enc = false :=
  (Th.shaped _).trans (show (decide ((2 : Int) = 2) && (("own" : Str) == "num")) = false by decide +kernel)
theorem sd_own_own (k : Nat) : shapedD (.str "own") 2 (Th.own k).enc = true :=
  (Th.shaped _).trans (show (decide ((2 : Int) = 2) && (("own" : Str) == "own")) = true by decide +kernel)
theorem sd_own_par (k : Nat) : shapedD (.str "par") 2 (Th.own k).enc = false :=
  (Th.shaped _).trans (show (decide ((2 : Int) = 2) && (("own" : Str) == "par")) = false by decide +kernel)
theorem sd_par_sum (k : Nat) : shapedD (.str "sum") 3 (Th.par k).enc = false :=
  (Th.shaped _).trans (show (decide ((2 : Int) = 3) && (("par" : Str) == "sum")) = false by decide +kernel)
theorem sd_par_cell (k : Nat) : shapedD (.str "cell") 2 (Th.par k).enc = false :=
  (Th.shaped _).trans (show (decide ((2 : Int) = 2) && (("par" : Str) == "cell")) = false by decide +kernel)
theorem sd_par_num (k : Nat) : shapedD (.str "num") 2 (Th.par k).enc = false :=
  (Th.shaped _).trans (show (decide ((2 : Int) = 2) && (("par" : Str) == "num")) = false by decide +kernel)
theorem sd_par_own (k : Nat) : shapedD (.str "own") 2 (Th.par k).enc = false :=
  (Th.shaped _).trans (show (decide ((2 : Int) = 2) && (("par" : Str) == "own")) = false by decide +kernel)
theorem sd_par_par (k : Nat) : shapedD (.str "par") 2 (Th.par k).enc = true :=
  (Th.shaped _).trans (show (decide ((2 : Int) = 2) && (("par" : Str) == "par")) = true by decide +kernel)
theorem below_nat {k m : Nat} (h : k < m) : belowD (m : Int) (.int (k : Int)) = true :=
  (show (decide (0 ≤ (k : Int)) && decide ((k : Int) < m)) = true from Bool.and_eq_true_iff.mpr ⟨decide_eq_true (by omega), decide_eq_true (by omega)⟩)
theorem plain_num {p o k : Nat} (h : k < 3) : plainD (p : Int) (o : Int) (Th.num k).enc = true := by
  unfold plainD
  rw [sd_num_num, if_pos rfl]
  exact below_nat h
theorem plain_own {p o k : Nat} (h : k < o) : plainD (p : Int) (o : Int) (Th.own k).enc = true := by
  unfold plainD
  rw [sd_own_num, if_neg Bool.false_ne_true, sd_own_own, if_pos rfl]
  exact below_nat h
theorem plain_par {p o k : Nat} (h : k < p) : plainD (p : Int) (o : Int) (Th.par k).enc = true := by
  unfold plainD
  rw [sd_par_num, if_neg Bool.false_ne_true, sd_par_own, if_neg Bool.false_ne_true, sd_par_par, Bool.true_and]
  exact below_nat h
def spNeedThing (K : PySem.W.Frag) (n : Nat) : Sp := fun vs H Q _ => ∃ (wp : Addr) (v b : V) (t : Th) (p o i d : Nat), vs = [.ref wp, v, .int (i : Int)] ∧ SqT K H wp [.int (p : Int), .int (o : Int), b] ∧ Rp K H v t.enc ∧ Th.ok p o d t ∧ i + d ≤ 4 ∧ d < n ∧ Q .non H
abbrev sneed_thing : Stmt := top 22
abbrev nneed_thing : List Str := ["work", "thing", "others"]
abbrev pneed_thing : List Str := ["work", "thing", "others"]
theorem scneed_thing : FnScope nneed_thing pneed_thing (defScope sneed_thing) := ⟨rfl, rfl, rfl, by decide +kernel, rfl, by decide +kernel, by decide +kernel⟩
theorem okNeedThing {tk : Nat → Tok} (D : DefAt K mg "need_thing" sneed_thing pneed_thing) (T : Nrs tk mg) (C_is_shaped : Callee P w K mg base "is_shaped" 1 pis_shaped (spIsShaped K))
    (C_is_plain : Callee P w K mg base "is_plain" 3 pis_plain (spIsPlain K)) : ∀ n : Nat, Callee P w K mg base "need_thing" (n + 4) pneed_thing (spNeedThing K n)
  | 0 => D.none fun vs H Q E h => by
    obtain ⟨wp, v, b, t, p, o, i, d, rfl, _, _, _, _, h, _⟩ := h
    omega
  | n + 1 => by
    have C_need_thing := okNeedThing D T C_is_shaped C_is_plain n
    refine D.ok scneed_thing (fun vs H Q E h => ?_) (fun f cdv A outer s H vs Q E hr h => ?_)
    · obtain ⟨wp, v, b, t, p, o, i, d, rfl, _⟩ := h
      rfl
    obtain ⟨wp, v, b, t, p, o, i, d, rfl, hW, hR, ok, id, dn, q⟩ := h
    refine ⟨_, (pss_cons (ps_if (pt_cmpR op_gt (pv 2) (pe_glob (v := .int 4) rfl T.MOST_OTHERS ⟨_, rfl⟩) (nomark _)) pss_never pss_nil)
  (pss_one (ps_if (pt_val (pcall C_is_shaped (hr.mono (by omega)) rfl (pa_cons (pv 1) (pa_cons pe_str (pa_cons pe_int pa_nil))))) (pss_cons (ps_expr (pcall C_need_thing (hr.mono (by omega)) rfl (pa_cons (pv 0) (pa_cons (pe_ix (ixT (K := K)) (pv 1) pe_int (fun _ _ => rfl)) (pa_cons (pe_op op_add (pv 2) pe_int) pa_nil)))))
  (pss_one (ps_expr (pcall C_need_thing (hr.mono (by omega)) rfl (pa_cons (pv 0) (pa_cons (pe_ix (ixT (K := K)) (pv 1) pe_int (fun _ _ => rfl)) (pa_cons (pe_op op_add (pv 2) pe_int) pa_nil))))))) (pss_one (ps_if (pt_val (pcall C_is_shaped (hr.mono (by omega)) rfl (pa_cons (pv 1) (pa_cons pe_str (pa_cons pe_int pa_nil))))) (pss_one (ps_expr (pcall C_need_thing (hr.mono (by omega)) rfl (pa_cons (pv 0) (pa_cons (pe_ix (ixT (K := K)) (pv 1) pe_int (fun _ _ => rfl)) (pa_cons (pe_op op_add (pv 2) pe_int) pa_nil)))))) (pss_one (ps_if (pt_not (pt_val (pcall C_is_plain (hr.mono (by omega)) rfl (pa_cons (pv 0) (pa_cons (pv 1) pa_nil))))) pss_never pss_nil))))))), ?_⟩
    walk_at "rd"
    refine ite2 (fun c => absurd (of_decide_eq_true c) (by omega)) (fun _ => ?_)
    walk_at "rd"
    refine ask ⟨v, t.enc, "sum", 3, rfl, hR.dp, t.headOk, by decide +kernel, by decide, ?_⟩
    walk_at "rd"
    have step : ∀ (x : V) (u : Th) (e : Nat) (Q0 : VK), Rp K H x u.enc → Th.ok p o e u → e < d → Q0 .non H → spNeedThing K n [.ref wp, x, .int ((i : Int) + 1)] H Q0 E0 := fun x u e Q0 hx hu he hq =>
      ⟨wp, x, b, u, p, o, i + 1, e, by rw [Int.natCast_add]; rfl, hW, hx, hu, by omega, by omega, hq⟩
    cases t with
    | sum t1 t2 =>
      obtain ⟨a, v1, v2, rfl, hT, h1, h2⟩ := Th.inv_sum hR
      cases d with
      | zero => exact ok.elim
      | succ d =>
        have at1 : atI [.str "sum", v1, v2] 1 = some v1 := atI_nat (xs := [.str "sum", v1, v2]) (j := 1) rfl
        have at2 : atI [.str "sum", v1, v2] 2 = some v2 := atI_nat (xs := [.str "sum", v1, v2]) (j := 2) rfl
        rw [sd_sum_sum, if_pos rfl]
        walk_at "rd"
        refine ask (step v1 t1 d _ h1 ok.1 (by omega) ?_)
        walk_at "rd"
        refine ask (step v2 t2 d _ h2 ok.2 (by omega) ?_)
        walk_at "rd"
        exact q
    | cell t1 =>
      obtain ⟨a, v1, rfl, hT, h1⟩ := Th.inv_cell hR
      cases d with
      | zero => exact ok.elim
      | succ d =>
        have at1 : atI [.str "cell", v1] 1 = some v1 := atI_nat (xs := [.str "cell", v1]) (j := 1) rfl
        rw [sd_cell_sum, if_neg Bool.false_ne_true]
        walk_at "rd"
        refine ask ⟨_, _, "cell", 2, rfl, hR.dp, Th.headOk _, by decide +kernel, by decide, ?_⟩
        walk_at "rd"
        rw [sd_cell_cell, if_pos rfl]
        walk_at "rd"
        refine ask (step v1 t1 d _ h1 ok (by omega) ?_)
        walk_at "rd"
        exact q
    | num k =>
      rw [sd_num_sum, if_neg Bool.false_ne_true]
      walk_at "rd"
      refine ask ⟨_, _, "cell", 2, rfl, hR.dp, Th.headOk _, by decide +kernel, by decide, ?_⟩
      walk_at "rd"
      rw [sd_num_cell, if_neg Bool.false_ne_true]
      walk_at "rd"
      refine ask ⟨wp, v, b, _, p, o, rfl, hW, hR.dp, Th.headOk _, ?_⟩
      walk_at "rd"
      rw [if_neg (by rw [plain_num (by cases d <;> exact ok)]; exact Bool.false_ne_true)]
      walk_at "rd"
      exact q
    | own k =>
      rw [sd_own_sum, if_neg Bool.false_ne_true]
      walk_at "rd"
      refine ask ⟨_, _, "cell", 2, rfl, hR.dp, Th.headOk _, by decide +kernel, by decide, ?_⟩
      walk_at "rd"
      rw [sd_own_cell, if_neg Bool.false_ne_true]
      walk_at "rd"
      refine ask ⟨wp, v, b, _, p, o, rfl, hW, hR.dp, Th.headOk _, ?_⟩
      walk_at "rd"
      rw [if_neg (by rw [plain_own (by cases d <;> exact ok)]; exact Bool.false_ne_true)]
      walk_at "rd"
      exact q
    | par k =>
      rw [sd_par_sum, if_neg Bool.false_ne_true]
      walk_at "rd"
      refine ask ⟨_, _, "cell", 2, rfl, hR.dp, Th.headOk _, by decide +kernel, by decide, ?_⟩
      walk_at "rd"
      rw [sd_par_cell, if_neg Bool.false_ne_true]
      walk_at "rd"
      refine ask ⟨wp, v, b, _, p, o, rfl, hW, hR.dp, Th.headOk _, ?_⟩
      walk_at "rd"
      rw [if_neg (by rw [plain_par (by cases d <;> exact ok)]; exact Bool.false_ne_true)]
      walk_at "rd"
      exact q
end
end Hw
namespace Hw
open PySem PySem.Spec PyProof.Rows L2
local macro_rules | `(tactic| walk_at "sz") => `(tactic| first | exact Nat.le_of_ble_eq_true rfl | exact small (by first | omega | (simp; done) | (simp; omega)))
local macro_rules | `(tactic| walk_at "szT") => `(tactic| first | exact Nat.lt_of_lt_of_le (Nat.lt_succ_self _) (Nat.le_of_ble_eq_true rfl) | exact smallT (by first | omega | (simp; done) | (simp; omega)))
local macro_rules | `(tactic| walk_at "cond") => `(tactic| first | decide | omega | (dsimp only; omega) | exact ⟨by omega, by omega⟩ | exact .inr ⟨by decide, by decide⟩)
local macro_rules | `(tactic| walk_at "sq") => `(tactic| first | assumption | exact SqL.of (by assumption) | exact SqT.of (by assumption))
local macro_rules | `(tactic| walk_at "ty") => `(tactic| first | (with_reducible assumption) | exact .base (.int _) | exact .base (.str _) | exact .base (.bl _) | exact .base .non | exact tyT (by walk_at "sq") | exact tyL (by walk_at "sq"))
local macro_rules | `(tactic| walk_at "rd1") => `(tactic| first
  | ((with_reducible apply r_seq))
  | ((with_reducible apply r_asg))
  | ((with_reducible apply r_name))
  | ((with_reducible apply r_op))
  | ((with_reducible apply r_var); exact rfl)
  | ((with_reducible apply r_c))
  | ((with_reducible apply r_ixT); (walk_at "sq"); first | exact rfl | assumption)
  | ((with_reducible apply r_ixL); (walk_at "sq"); first | exact rfl | assumption)
  | ((with_reducible apply r_ixA); (first | exact .inl (by walk_at "sq") | exact .inr (by walk_at "sq")); first | exact rfl | assumption)
  | ((with_reducible apply r_isi); (walk_at "ty"); (decide +kernel))
  | ((with_reducible apply r_isiT2); assumption; (walk_at "ty"); (decide +kernel); (decide +kernel))
  | ((with_reducible apply r_I0))
  | ((with_reducible apply r_I); (walk_at "cond"))
  | ((with_reducible apply r_eq); exact rfl)
  | ((with_reducible apply r_ne); exact rfl)
  | ((with_reducible apply r_test))
  | ((with_reducible apply r_bl))
  | ((with_reducible apply r_if))
  | ((with_reducible apply r_nil))
  | ((with_reducible apply r_cons))
  | ((with_reducible apply r_call))
  | ((with_reducible apply r_cb))
  | ((with_reducible apply r_tup))
  | ((with_reducible apply r_lst))
  | ((with_reducible apply new); (walk_at "sz"))
  | ((with_reducible apply r_ret))
  | ((with_reducible apply r_retN))
  | ((with_reducible apply r_next))
  | ((with_reducible apply r_drop))
  | ((with_reducible apply r_lenL); (walk_at "sq"))
  | ((with_reducible apply r_lenT); (walk_at "sq"))
  | ((with_reducible apply r_int))
  | ((with_reducible apply r_intB))
  | ((with_reducible apply r_isN))
  | ((with_reducible apply r_notN))
  | ((with_reducible apply r_B))
  | ((with_reducible apply r_not))
  | ((with_reducible apply r_notV))
  | ((with_reducible apply r_andV))
  | ((with_reducible apply r_orV))
  | ((with_reducible apply r_ifE))
  | ((with_reducible apply r_chain))
  | ((with_reducible apply ite_t); (first | (with_reducible exact nRN) | (with_reducible exact nIN) | (with_reducible exact dNN) | decide +kernel))
  | ((with_reducible apply ite_f); (first | (with_reducible exact dRN) | (with_reducible exact dIN) | (with_reducible exact nNN) | decide +kernel))
  | ((with_reducible apply r_in); (first | exact .inl (by walk_at "sq") | exact .inr (by walk_at "sq")); exact rfl; (first | exact nums_flat | exact rfl))
  | ((with_reducible apply turn))
  | ((with_reducible apply r_for))
  | ((with_reducible apply r_iRng1))
  | ((with_reducible apply r_rng); (first | decide | omega | (simp; omega)); (first | decide | omega | (simp; omega)))
  | ((with_reducible apply r_iList))
  | ((with_reducible apply r_iTup))
  | ((with_reducible apply r_overL); (walk_at "sq"))
  | ((with_reducible apply r_overT); (walk_at "sq"))
  | ((with_reducible apply r_lc))
  | ((with_reducible apply acc); assumption; (walk_at "szT"))
  | ((with_reducible apply r_sub))
  | ((with_reducible apply r_setL); assumption; exact rfl)
  | ((with_reducible apply r_gtup); (walk_at "sq"); rfl)
  | ((with_reducible apply r_gnil))
  | ((with_reducible apply r_gcons))
  | ((with_reducible apply r_par))
  | ((with_reducible apply r_par2))
  | ((with_reducible apply r_sl))
  | ((with_reducible apply r_part))
  | ((with_reducible apply r_part1))
  | ((with_reducible apply r_noPart))
  | ((with_reducible apply r_slL); (walk_at "sq"))
  | ((with_reducible apply r_slA); (walk_at "sq"))
  | ((with_reducible apply r_tupL); (walk_at "sq"))
  | ((with_reducible apply r_tupT); (walk_at "sq"))
  | ((with_reducible apply r_lstL); (walk_at "sq"))
  | ((with_reducible apply r_lstT); (walk_at "sq"))
  | ((with_reducible apply r_append))
  | ((with_reducible apply r_isL); (walk_at "sq"))
  | ((with_reducible apply r_app); assumption; (walk_at "szT"))
  | ((with_reducible apply r_dget))
  | ((with_reducible apply r_dgetS); assumption; (walk_at "dk"))
  | ((with_reducible apply r_dput))
  | ((with_reducible apply r_dputS); assumption; (walk_at "szT"))
  | ((with_reducible apply r_disp))
  | ((with_reducible apply r_pnil))
  | ((with_reducible apply r_pcons))
  | ((with_reducible apply r_fld))
  | ((with_reducible apply r_fld1); assumption; assumption; assumption; (first | exact rfl | assumption))
  | ((with_reducible apply r_sfld))
  | ((with_reducible apply r_sfld1); assumption; assumption; assumption; exact (by decide)))
local macro_rules | `(tactic| walk_at "rd") => `(tactic| repeat walk_at "rd1")
section
variable {P : Program} {w : World} {K : PySem.W.Frag} {mg : Str → Option Value} {base : Heap}
/-! ### programs.py: need_place, need_call, of what is well -/
/-- the program's own numbers and tuples -/
structure Cst (K : PySem.W.Frag) (tk : Nat → Tok) (aP aW : Addr) (mg : Str → Option Value) : Prop extends Nrs tk mg where
  PLACES : mg "PLACES" = some (.ref aP)
  WAYS : mg "WAYS" = some (.ref aW)
  sqP : SqT K (fun _ => none) aP [.str "cell", .str "own", .str "par"]
  sqW : SqT K (fun _ => none) aW [.str "copy", .str "place", .str "back", .str "want"]
theorem sqT_of_none {a : Addr} {xs : List V} {H : Hp} (h : SqT K (fun _ => none) a xs) : SqT K H a xs := by
  rcases h with (h | ⟨o, h⟩) | h
  · cases h
  · cases h
  · exact .inr h
def spNeedPlace (K : PySem.W.Frag) : Sp := fun vs H Q _ => ∃ (wp : Addr) (v b : V) (t : Th) (p o : Nat), vs = [.ref wp, v] ∧ SqT K H wp [.int (p : Int), .int (o : Int), b] ∧ Rp K H v t.enc ∧ Th.ok p o 4 t ∧ t.isPlace = true ∧ Q .non H
abbrev sneed_place : Stmt := top 21
abbrev nneed_place : List Str := ["work", "place"]
abbrev pneed_place : List Str := ["work", "place"]
theorem scneed_place : FnScope nneed_place pneed_place (defScope sneed_place) := ⟨rfl, rfl, rfl, by decide +kernel, rfl, by decide +kernel, by decide +kernel⟩
abbrev sneed_call : Stmt := top 20
abbrev nneed_call : List Str := ["program", "at", "called", "things", "thing"]
abbrev pneed_call : List Str := ["program", "at", "called", "things"]
theorem scneed_call : FnScope nneed_call pneed_call (defScope sneed_call) := ⟨rfl, rfl, rfl, by decide +kernel, rfl, by decide +kernel, by decide +kernel⟩
theorem okNeedPlace {tk : Nat → Tok} {aP aW : Addr} (D : DefAt K mg "need_place" sneed_place pneed_place) (T : Cst K tk aP aW mg) (C_need_thing : Callee P w K mg base "need_thing" 9 pneed_thing (spNeedThing K 5)) :
    Callee P w K mg base "need_place" 10 pneed_place (spNeedPlace K) := by
  refine D.ok scneed_place (fun vs H Q E h => ?_) (fun f cdv A outer s H vs Q E hr h => ?_)
  · obtain ⟨wp, v, b, t, p, o, rfl, _⟩ := h
    rfl
  obtain ⟨wp, v, b, t, p, o, rfl, hW, hR, ok, ip, q⟩ := h
  refine ⟨_, (pss_cons (ps_expr (pcall C_need_thing (hr.mono (by omega)) rfl (pa_cons (pv 0) (pa_cons (pv 1) (pa_cons pe_int pa_nil)))))
  (pss_one (ps_if (pt_cmpR (opNotIn (K := K)) (pe_ix (ixT (K := K)) (pv 1) pe_int (fun _ _ => rfl)) (pe_glob (v := .ref _) rfl T.PLACES rfl) (by with_unfolding_all rfl)) pss_never pss_nil))), ?_⟩
  walk_at "rd"
  refine ask ⟨wp, v, b, t, p, o, 0, 4, rfl, hW, hR, ok, by omega, by omega, ?_⟩
  obtain ⟨a, r, rfl, hT⟩ := Th.head hR
  have hP : SqT K H aP [.str "cell", .str "own", .str "par"] := sqT_of_none T.sqP
  have at0 : atI (.str t.word :: r) 0 = some (.str t.word) := atI_nat (xs := .str t.word :: r) (j := 0) rfl
  walk_at "rd"
  rw [if_pos rfl, if_neg (by cases t <;> first | (cases ip; done) | exact (by decide +kernel : ¬ (!inV (V.str "cell") [V.str "cell", V.str "own", V.str "par"]) = true) | exact (by decide +kernel : ¬ (!inV (V.str "own") [V.str "cell", V.str "own", V.str "par"]) = true) | exact (by decide +kernel : ¬ (!inV (V.str "par") [V.str "cell", V.str "own", V.str "par"]) = true))]
  walk_at "rd"
  exact q
theorem encP_at {H : Hp} {v : V} {P : List Wk} (h : Rp K H v (encP P)) : ∃ a xs, v = .ref a ∧ SqT K H a xs ∧ xs.length = P.length ∧ ∀ (i : Nat) (wk : Wk), P[i]? = some wk → ∃ wp b, atI xs (i : Int) = some (.ref wp) ∧ SqT K H wp [.int (wk.params : Int), .int (wk.owns : Int), b] ∧ Rp K H b (.tuple wk.body.encs) := by
  obtain ⟨a, xs, rfl, hT, hx⟩ := h.tup_inv
  refine ⟨a, xs, rfl, hT, hx.length.trans (List.length_map _), fun i wk e => ?_⟩
  obtain ⟨u, eu, hu⟩ := hx.get (i := i) (d := wk.enc) (by rw [List.getElem?_map, e]; rfl)
  obtain ⟨wp, ys, rfl, hW, hy⟩ := Rp.tup_inv hu
  obtain ⟨v0, r0, rfl, g0, gr⟩ := hy.inv
  obtain ⟨v1, r1, rfl, g1, gr1⟩ := gr.inv
  obtain ⟨v2, r2, rfl, g2, gr2⟩ := gr1.inv
  cases gr2.inv0
  cases g0.int_inv
  cases g1.int_inv
  exact ⟨wp, v2, atI_nat eu, hW, g2⟩
def spNeedCall (K : PySem.W.Frag) : Sp := fun vs H Q _ => ∃ (pp : Addr) (P : List Wk) (i c : Nat) (wk wc : Wk) (v : V) (ts : List Th), vs = [.ref pp, .int (i : Int), .int (c : Int), v] ∧ Rp K H (.ref pp) (encP P) ∧ P[i]? = some wk ∧ P[c]? = some wc ∧ i < c ∧ Rp K H v (.tuple (ts.map Th.enc)) ∧ ts.length = wc.params ∧
  (∀ t ∈ ts, Th.ok wk.params wk.owns 4 t) ∧ Q .non H
theorem okNeedCall {tk : Nat → Tok} {aP aW : Addr} (D : DefAt K mg "need_call" sneed_call pneed_call) (T : Cst K tk aP aW mg) (C_is_below : Callee P w K mg base "is_below" 1 pis_below (spIsBelow K)) (C_need_thing : Callee P w K mg base "need_thing" 9 pneed_thing (spNeedThing K 5)) :
    Callee P w K mg base "need_call" 10 pneed_call (spNeedCall K) := by
  refine D.ok scneed_call (fun vs H Q E h => ?_) (fun f cdv A outer s H vs Q E hr h => ?_)
  · obtain ⟨pp, P, i, c, wk, wc, v, ts, rfl, _⟩ := h
    rfl
  obtain ⟨pp, P, i, c, wk, wc, v, ts, rfl, hP, ei, ec, ic, hR, lt, okt, q⟩ := h
  obtain ⟨a, xs, eA, hT, hl, hat⟩ := encP_at hP
  cases eA
  obtain ⟨wp, b, eW, hW, _⟩ := hat i wk ei
  obtain ⟨cp, bc, eC, hC, _⟩ := hat c wc ec
  obtain ⟨tp, vs, rfl, hV, hvs⟩ := hR.tup_inv
  have cl : c < xs.length := by
    rw [hl]
    exact (List.getElem?_eq_some_iff.mp ec).1
  have at0 : atI [.int (wc.params : Int), .int (wc.owns : Int), bc] 0 = some (.int (wc.params : Int)) := atI_nat (xs := [.int (wc.params : Int), .int (wc.owns : Int), bc]) (j := 0) rfl
  refine ⟨_, (pss_cons (ps_if (PW.pt (pw_or (pt_not (pt_val (pcall C_is_below (hr.mono (by omega)) rfl (pa_cons (pv 2) (pa_cons (pe_callB (cLen (K := K)) (by rfl) T.len PySem.boot_len (pa_cons (pv 0) pa_nil)) pa_nil))))) (pw_or1 (pt_cmpR op_le (pv 2) (pv 1) (nomark _))))) pss_never pss_nil)
  (pss_cons (ps_if (PW.pt (pw_or (pt_not (pt_val (pe_callB (cIsi (K := K)) (by rfl) T.isinstance (by decide +kernel) (pa_cons (pv 3) (pa_cons (pe_bltn rfl T.tuple (by decide +kernel) (v := .ty "tuple") rfl) pa_nil))))) (pw_or1 (pt_cmpR op_ne (pe_callB (cLen (K := K)) (by rfl) T.len PySem.boot_len (pa_cons (pv 3) pa_nil)) (pe_ix (ixT (K := K)) (pe_ix (ixT (K := K)) (pv 0) (pv 2) (fun _ _ => rfl)) pe_int (fun _ _ => rfl)) (nomark _))))) pss_never pss_nil)
  (pss_one (ps_for PassesOwn.never rfl (piTup (K := K) (pv 3)) (pg_name (i := 4) scneed_call.nd rfl (Or.inl rfl))
   (pss_one (ps_expr (pcall C_need_thing (hr.mono (by omega)) rfl (pa_cons (pe_ix (ixT (K := K)) (pv 0) (pv 1) (fun _ _ => rfl)) (pa_cons (pv 4) (pa_cons pe_int pa_nil)))))))))), ?_⟩
  walk_at "rd"
  refine r_orI (a := false) (fun R hr => ?_) (fun _ => ?_) (fun z => nomatch z)
  · walk_at "rd"
    refine ask ⟨.int (c : Int), .int (c : Int), ((xs.length : Nat) : Int), rfl, .int _, ?_⟩
    rw [below_nat cl]
    walk_at "rd"
    exact hr
  walk_at "rd"
  rw [if_neg (by rw [decide_eq_false (by omega)]; exact Bool.false_ne_true)]
  walk_at "rd"
  have lv : vs.length = wc.params := by
    rw [hvs.length, List.length_map, lt]
  refine r_orP (a := !kb "tuple" "tuple") (b := !decide ((V.int (vs.length : Int)) = V.int (wc.params : Int))) (fun R hr => by walk_at "rd"; exact hr) (fun _ R hr => by walk_at "rd"; exact hr) ?_
  rw [if_neg (by
    rw [decide_eq_true (by rw [lv])]
    exact (by decide +kernel : ¬ (!kb "tuple" "tuple" || !true) = true))]
  walk_at "rd"
  refine forT (xs := vs) (fun j σ H' => H' = H ∧ ∃ x4 : Option V, σ = [some (.ref pp), some (.int (i : Int)), some (.int (c : Int)), some (.ref tp), x4]) ⟨rfl, none, rfl⟩ (fun j σ H' _ hp => ?_) (fun j x σ H' hx hp => ?_) (fun σ H' hp => ?_)
  · obtain ⟨rfl, x4, rfl⟩ := hp
    exact hV
  · obtain ⟨rfl, x4, rfl⟩ := hp
    obtain ⟨d, ed, rd⟩ := hvs.get' hx
    rw [List.getElem?_map] at ed
    obtain ⟨t, et, rfl⟩ := Option.map_eq_some_iff.mp ed
    walk_at "rd"
    refine ask ⟨wp, x, b, t, wk.params, wk.owns, 0, 4, rfl, hW, rd, okt t (List.mem_of_getElem? et), by omega, by omega, ?_⟩
    walk_at "rd"
    exact ⟨rfl, _, rfl⟩
  · obtain ⟨rfl, x4, rfl⟩ := hp
    exact q
end
end Hw
namespace Hw
open PySem PySem.Spec PyProof.Rows L2
local macro_rules | `(tactic| walk_at "sz") => `(tactic| first | exact Nat.le_of_ble_eq_true rfl | exact small (by first | omega | (simp; done) | (simp; omega)))
local macro_rules | `(tactic| walk_at "szT") => `(tactic| first | exact Nat.lt_of_lt_of_le (Nat.lt_succ_self _) (Nat.le_of_ble_eq_true rfl) | exact smallT (by first | omega | (simp; done) | (simp; omega)))
local macro_rules | `(tactic| walk_at "cond") => `(tactic| first | decide | omega | (dsimp only; omega) | exact ⟨by omega, by omega⟩ | exact .inr ⟨by decide, by decide⟩)
local macro_rules | `(tactic| walk_at "sq") => `(tactic| first | assumption | exact SqL.of (by assumption) | exact SqT.of (by assumption))
local macro_rules | `(tactic| walk_at "ty") => `(tactic| first | (with_reducible assumption) | exact .base (.int _) | exact .base (.str _) | exact .base (.bl _) | exact .base .non | exact tyT (by walk_at "sq") | exact tyL (by walk_at "sq"))
local macro_rules | `(tactic| walk_at "rd1") => `(tactic| first
  | ((with_reducible apply r_seq))
  | ((with_reducible apply r_asg))
  | ((with_reducible apply r_name))
  | ((with_reducible apply r_op))
  | ((with_reducible apply r_var); exact rfl)
  | ((with_reducible apply r_c))
  | ((with_reducible apply r_ixT); (walk_at "sq"); first | exact rfl | assumption)
  | ((with_reducible apply r_ixL); (walk_at "sq"); first | exact rfl | assumption)
  | ((with_reducible apply r_ixA); (first | exact .inl (by walk_at "sq") | exact .inr (by walk_at "sq")); first | exact rfl | assumption)
  | ((with_reducible apply r_isi); (walk_at "ty"); (decide +kernel))
  | ((with_reducible apply r_isiT2); assumption; (walk_at "ty"); (decide +kernel); (decide +kernel))
  | ((with_reducible apply r_I0))
  | ((with_reducible apply r_I); (walk_at "cond"))
  | ((with_reducible apply r_eq); exact rfl)
  | ((with_reducible apply r_ne); exact rfl)
  | ((with_reducible apply r_test))
  | ((with_reducible apply r_bl))
  | ((with_reducible apply r_if))
  | ((with_reducible apply r_nil))
  | ((with_reducible apply r_cons))
  | ((with_reducible apply r_call))
  | ((with_reducible apply r_cb))
  | ((with_reducible apply r_tup))
  | ((with_reducible apply r_lst))
  | ((with_reducible apply new); (walk_at "sz"))
  | ((with_reducible apply r_ret))
  | ((with_reducible apply r_retN))
  | ((with_reducible apply r_next))
  | ((with_reducible apply r_drop))
  | ((with_reducible apply r_lenL); (walk_at "sq"))
  | ((with_reducible apply r_lenT); (walk_at "sq"))
  | ((with_reducible apply r_int))
  | ((with_reducible apply r_intB))
  | ((with_reducible apply r_isN))
  | ((with_reducible apply r_notN))
  | ((with_reducible apply r_B))
  | ((with_reducible apply r_not))
  | ((with_reducible apply r_notV))
  | ((with_reducible apply r_andV))
  | ((with_reducible apply r_orV))
  | ((with_reducible apply r_ifE))
  | ((with_reducible apply r_chain))
  | ((with_reducible apply ite_t); (first | (with_reducible exact nRN) | (with_reducible exact nIN) | (with_reducible exact dNN) | decide +kernel))
  | ((with_reducible apply ite_f); (first | (with_reducible exact dRN) | (with_reducible exact dIN) | (with_reducible exact nNN) | decide +kernel))
  | ((with_reducible apply r_in); (first | exact .inl (by walk_at "sq") | exact .inr (by walk_at "sq")); exact rfl; (first | exact nums_flat | exact rfl))
  | ((with_reducible apply turn))
  | ((with_reducible apply r_for))
  | ((with_reducible apply r_iRng1))
  | ((with_reducible apply r_rng); (first | decide | omega | (simp; omega)); (first | decide | omega | (simp; omega)))
  | ((with_reducible apply r_iList))
  | ((with_reducible apply r_iTup))
  | ((with_reducible apply r_overL); (walk_at "sq"))
  | ((with_reducible apply r_overT); (walk_at "sq"))
  | ((with_reducible apply r_lc))
  | ((with_reducible apply acc); assumption; (walk_at "szT"))
  | ((with_reducible apply r_sub))
  | ((with_reducible apply r_setL); assumption; exact rfl)
  | ((with_reducible apply r_gtup); (walk_at "sq"); rfl)
  | ((with_reducible apply r_gnil))
  | ((with_reducible apply r_gcons))
  | ((with_reducible apply r_par))
  | ((with_reducible apply r_par2))
  | ((with_reducible apply r_sl))
  | ((with_reducible apply r_part))
  | ((with_reducible apply r_part1))
  | ((with_reducible apply r_noPart))
  | ((with_reducible apply r_slL); (walk_at "sq"))
  | ((with_reducible apply r_slA); (walk_at "sq"))
  | ((with_reducible apply r_tupL); (walk_at "sq"))
  | ((with_reducible apply r_tupT); (walk_at "sq"))
  | ((with_reducible apply r_lstL); (walk_at "sq"))
  | ((with_reducible apply r_lstT); (walk_at "sq"))
  | ((with_reducible apply r_append))
  | ((with_reducible apply r_isL); (walk_at "sq"))
  | ((with_reducible apply r_app); assumption; (walk_at "szT"))
  | ((with_reducible apply r_dget))
  | ((with_reducible apply r_dgetS); assumption; (walk_at "dk"))
  | ((with_reducible apply r_dput))
  | ((with_reducible apply r_dputS); assumption; (walk_at "szT"))
  | ((with_reducible apply r_disp))
  | ((with_reducible apply r_pnil))
  | ((with_reducible apply r_pcons))
  | ((with_reducible apply r_fld))
  | ((with_reducible apply r_fld1); assumption; assumption; assumption; (first | exact rfl | assumption))
  | ((with_reducible apply r_sfld))
  | ((with_reducible apply r_sfld1); assumption; assumption; assumption; exact (by decide)))
local macro_rules | `(tactic| walk_at "rd") => `(tactic| repeat walk_at "rd1")
section
variable {P : Program} {w : World} {K : PySem.W.Frag} {mg : Str → Option Value} {base : Heap}
/-! ### programs.py: need_step, need_body, of what is well -/
theorem St.headOk : ∀ s : St, headOk s.enc
  | .set _ _ => (by decide +kernel : SeqAt.shaped (.str "set") = true)
  | .say _ => (by decide +kernel : SeqAt.shaped (.str "say") = true)
  | .ite _ _ _ => (by decide +kernel : SeqAt.shaped (.str "if") = true)
  | .call _ _ => (by decide +kernel : SeqAt.shaped (.str "call") = true)
theorem ss_set_set (p t : Th) : shapedD (.str "set") 3 (St.set p t).enc = true :=
  shapedD_str.trans (show (decide ((3 : Int) = 3) && (("set" : Str) == "set")) = true by decide +kernel)
theorem ss_set_say (p t : Th) : shapedD (.str "say") 2 (St.set p t).enc = false :=
  shapedD_str.trans (show (decide ((3 : Int) = 2) && (("set" : Str) == "say")) = false by decide +kernel)
theorem ss_set_ite (p t : Th) : shapedD (.str "if") 4 (St.set p t).enc = false :=
  shapedD_str.trans (show (decide ((3 : Int) = 4) && (("set" : Str) == "if")) = false by decide +kernel)
theorem ss_set_call (p t : Th) : shapedD (.str "call") 3 (St.set p t).enc = false :=
  shapedD_str.trans (show (decide ((3 : Int) = 3) && (("set" : Str) == "call")) = false by decide +kernel)
theorem ss_say_set (t : Th) : shapedD (.str "set") 3 (St.say t).enc = false :=
  shapedD_str.trans (show (decide ((2 : Int) = 3) && (("say" : Str) == "set")) = false by decide +kernel)
theorem ss_say_say (t : Th) : shapedD (.str "say") 2 (St.say t).enc = true :=
  shapedD_str.trans (show (decide ((2 : Int) = 2) && (("say" : Str) == "say")) = true by decide +kernel)
theorem ss_say_ite (t : Th) : shapedD (.str "if") 4 (St.say t).enc = false :=
  shapedD_str.trans (show (decide ((2 : Int) = 4) && (("say" : Str) == "if")) = false by decide +kernel)
theorem ss_say_call (t : Th) : shapedD (.str "call") 3 (St.say t).enc = false :=
  shapedD_str.trans (show (decide ((2 : Int) = 3) && (("say" : Str) == "call")) = false by decide +kernel)
theorem ss_ite_set (t : Th) (a b : Sts) : shapedD (.str "set") 3 (St.ite t a b).enc = false :=
  shapedD_str.trans (show (decide ((4 : Int) = 3) && (("if" : Str) == "set")) = false by decide +kernel)
theorem ss_ite_say (t : Th) (a b : Sts) : shapedD (.str "say") 2 (St.ite t a b).enc = false :=
  shapedD_str.trans (show (decide ((4 : Int) = 2) && (("if" : Str) == "say")) = false by decide +kernel)
theorem ss_ite_ite (t : Th) (a b : Sts) : shapedD (.str "if") 4 (St.ite t a b).enc = true :=
  shapedD_str.trans (show (decide ((4 : Int) = 4) && (("if" : Str) == "if")) = true by decide +kernel)
theorem ss_ite_call (t : Th) (a b : Sts) : shapedD (.str "call") 3 (St.ite t a b).enc = false :=
  shapedD_str.trans (show (decide ((4 : Int) = 3) && (("if" : Str) == "call")) = false by decide +kernel)
theorem ss_call_set (k : Nat) (ts : List Th) : shapedD (.str "set") 3 (St.call k ts).enc = false :=
  shapedD_str.trans (show (decide ((3 : Int) = 3) && (("call" : Str) == "set")) = false by decide +kernel)
theorem ss_call_say (k : Nat) (ts : List Th) : shapedD (.str "say") 2 (St.call k ts).enc = false :=
  shapedD_str.trans (show (decide ((3 : Int) = 2) && (("call" : Str) == "say")) = false by decide +kernel)
theorem ss_call_ite (k : Nat) (ts : List Th) : shapedD (.str "if") 4 (St.call k ts).enc = false :=
  shapedD_str.trans (show (decide ((3 : Int) = 4) && (("call" : Str) == "if")) = false by decide +kernel)
theorem ss_call_call (k : Nat) (ts : List Th) : shapedD (.str "call") 3 (St.call k ts).enc = true :=
  shapedD_str.trans (show (decide ((3 : Int) = 3) && (("call" : Str) == "call")) = true by decide +kernel)
theorem shapes_at {P : List Wk} {i : Nat} {wk : Wk} (e : P[i]? = some wk) : (shapes P).getD i (0, 0) = (wk.params, wk.owns) := by
  rw [List.getD_eq_getElem?_getD]
  unfold shapes
  rw [List.getElem?_map, e]
  rfl
theorem St.ok_set' {sh : List (Nat × Nat)} {i d : Nat} {p t : Th} (h : St.ok sh i d (.set p t)) : p.isPlace = true ∧ Th.ok (sh.getD i (0, 0)).1 (sh.getD i (0, 0)).2 4 p ∧ Th.ok (sh.getD i (0, 0)).1 (sh.getD i (0, 0)).2 4 t := by
  cases d <;> (unfold St.ok at h; exact h)
theorem St.ok_say' {sh : List (Nat × Nat)} {i d : Nat} {t : Th} (h : St.ok sh i d (.say t)) : Th.ok (sh.getD i (0, 0)).1 (sh.getD i (0, 0)).2 4 t := by
  cases d <;> (unfold St.ok at h; exact h)
theorem St.ok_call' {sh : List (Nat × Nat)} {i d k : Nat} {ts : List Th} (h : St.ok sh i d (.call k ts)) : i < k ∧ k < sh.length ∧ ts.length = (sh.getD k (0, 0)).1 ∧ ∀ t ∈ ts, Th.ok (sh.getD i (0, 0)).1 (sh.getD i (0, 0)).2 4 t := by
  cases d <;> (unfold St.ok at h; exact h)
def spNeedStep (K : PySem.W.Frag) (n : Nat) : Sp := fun vs H Q _ => ∃ (pp : Addr) (P : List Wk) (i d h c : Nat) (wk : Wk) (v : V) (s : St), vs = [.ref pp, .int (i : Int), v, .int (h : Int), .int ((c : Int) + 1)] ∧ Rp K H (.ref pp) (encP P) ∧ P[i]? = some wk ∧ Rp K H v s.enc ∧
  St.ok (shapes P) i d s ∧ h + d ≤ 4 ∧ d < n ∧ c + s.many ≤ 100 ∧ Q (.int ((c + s.many : Nat) : Int)) H
def spNeedBody (K : PySem.W.Frag) (n : Nat) : Sp := fun vs H Q _ => ∃ (pp : Addr) (P : List Wk) (i d h c : Nat) (wk : Wk) (v : V) (s : Sts), vs = [.ref pp, .int (i : Int), v, .int (h : Int), .int (c : Int)] ∧ Rp K H (.ref pp) (encP P) ∧ P[i]? = some wk ∧ Rp K H v (.tuple s.encs) ∧
  Sts.ok (shapes P) i d s ∧ h + d ≤ 4 ∧ d < n ∧ c + s.many ≤ 100 ∧ Q (.int ((c + s.many : Nat) : Int)) H
abbrev sneed_step : Stmt := top 19
abbrev nneed_step : List Str := ["program", "at", "step", "others", "count", "work"]
abbrev pneed_step : List Str := ["program", "at", "step", "others", "count"]
theorem scneed_step : FnScope nneed_step pneed_step (defScope sneed_step) := ⟨rfl, rfl, rfl, by decide +kernel, rfl, by decide +kernel, by decide +kernel⟩
abbrev sneed_body : Stmt := top 18
abbrev nneed_body : List Str := ["program", "at", "body", "others", "count", "step"]
abbrev pneed_body : List Str := ["program", "at", "body", "others", "count"]
theorem scneed_body : FnScope nneed_body pneed_body (defScope sneed_body) := ⟨rfl, rfl, rfl, by decide +kernel, rfl, by decide +kernel, by decide +kernel⟩
theorem okNeedStep {tk : Nat → Tok} {aP aW : Addr} {n : Nat} (D : DefAt K mg "need_step" sneed_step pneed_step) (T : Cst K tk aP aW mg) (C_is_shaped : Callee P w K mg base "is_shaped" 1 pis_shaped (spIsShaped K))
    (C_need_thing : Callee P w K mg base "need_thing" 9 pneed_thing (spNeedThing K 5)) (C_need_place : Callee P w K mg base "need_place" 10 pneed_place (spNeedPlace K)) (C_need_call : Callee P w K mg base "need_call" 10 pneed_call (spNeedCall K))
    (C_need_body : Callee P w K mg base "need_body" (2 * n + 11) pneed_body (spNeedBody K n)) : Callee P w K mg base "need_step" (2 * n + 12) pneed_step (spNeedStep K (n + 1)) := by
  refine D.ok scneed_step (fun vs H Q E h => ?_) (fun f cdv A outer s H vs Q E hr h => ?_)
  · obtain ⟨pp, P, i, d, h, c, wk, v, st, rfl, _⟩ := h
    rfl
  obtain ⟨pp, P, i, d, h, c, wk, v, st, rfl, hP, ei, hR, ok, hd, dn, cm, q⟩ := h
  obtain ⟨a, xs, eA, hT, hl, hat⟩ := encP_at hP
  cases eA
  obtain ⟨wp, b, eW, hW, _⟩ := hat i wk ei
  have sa := shapes_at ei
  have m1 : 1 ≤ st.many := by cases st <;> (unfold St.many; omega)
  refine ⟨_, (pss_cons (ps_if (PW.pt (pw_or (pt_cmpR op_gt (pv 3) (pe_glob (v := .int 4) rfl T.MOST_OTHERS ⟨_, rfl⟩) (nomark _)) (pw_or1 (pt_cmpR op_gt (pv 4) (pe_glob (v := .int 100) rfl T.MOST_STEPS ⟨_, rfl⟩) (nomark _))))) pss_never pss_nil)
  (pss_cons (ps_set (i := 5) scneed_step.nd rfl (Or.inl rfl) (pe_ix (ixT (K := K)) (pv 0) (pv 1) (fun _ _ => rfl)))
  (pss_cons (ps_if (pt_val (pcall C_is_shaped (hr.mono (by omega)) rfl (pa_cons (pv 2) (pa_cons pe_str (pa_cons pe_int pa_nil))))) (pss_cons (ps_expr (pcall C_need_place (hr.mono (by omega)) rfl (pa_cons (pv 5) (pa_cons (pe_ix (ixT (K := K)) (pv 2) pe_int (fun _ _ => rfl)) pa_nil))))
  (pss_one (ps_expr (pcall C_need_thing (hr.mono (by omega)) rfl (pa_cons (pv 5) (pa_cons (pe_ix (ixT (K := K)) (pv 2) pe_int (fun _ _ => rfl)) (pa_cons pe_int pa_nil))))))) (pss_one (ps_if (pt_val (pcall C_is_shaped (hr.mono (by omega)) rfl (pa_cons (pv 2) (pa_cons pe_str (pa_cons pe_int pa_nil))))) (pss_one (ps_expr (pcall C_need_thing (hr.mono (by omega)) rfl (pa_cons (pv 5) (pa_cons (pe_ix (ixT (K := K)) (pv 2) pe_int (fun _ _ => rfl)) (pa_cons pe_int pa_nil)))))) (pss_one (ps_if (pt_val (pcall C_is_shaped (hr.mono (by omega)) rfl (pa_cons (pv 2) (pa_cons pe_str (pa_cons pe_int pa_nil))))) (pss_cons (ps_expr (pcall C_need_thing (hr.mono (by omega)) rfl (pa_cons (pv 5) (pa_cons (pe_ix (ixT (K := K)) (pv 2) pe_int (fun _ _ => rfl)) (pa_cons pe_int pa_nil)))))
  (pss_cons (ps_set (i := 4) scneed_step.nd rfl (Or.inl rfl) (pcall C_need_body (hr.mono (by omega)) rfl (pa_cons (pv 0) (pa_cons (pv 1) (pa_cons (pe_ix (ixT (K := K)) (pv 2) pe_int (fun _ _ => rfl)) (pa_cons (pe_op op_add (pv 3) pe_int) (pa_cons (pv 4) pa_nil)))))))
  (pss_one (ps_set (i := 4) scneed_step.nd rfl (Or.inl rfl) (pcall C_need_body (hr.mono (by omega)) rfl (pa_cons (pv 0) (pa_cons (pv 1) (pa_cons (pe_ix (ixT (K := K)) (pv 2) pe_int (fun _ _ => rfl)) (pa_cons (pe_op op_add (pv 3) pe_int) (pa_cons (pv 4) pa_nil)))))))))) (pss_one (ps_if (pt_val (pcall C_is_shaped (hr.mono (by omega)) rfl (pa_cons (pv 2) (pa_cons pe_str (pa_cons pe_int pa_nil))))) (pss_one (ps_expr (pcall C_need_call (hr.mono (by omega)) rfl (pa_cons (pv 0) (pa_cons (pv 1) (pa_cons (pe_ix (ixT (K := K)) (pv 2) pe_int (fun _ _ => rfl)) (pa_cons (pe_ix (ixT (K := K)) (pv 2) pe_int (fun _ _ => rfl)) pa_nil))))))) pss_never)))))))
  (pss_one (ps_ret (pv 4)))))), ?_⟩
  walk_at "rd"
  refine r_orP (a := decide ((4 : Int) < (h : Int))) (b := decide ((100 : Int) < (c : Int) + 1)) (fun R hr => by walk_at "rd"; exact hr) (fun _ R hr => by walk_at "rd"; exact hr) ?_
  rw [if_neg (by
    rw [decide_eq_false (by omega), decide_eq_false (by omega)]
    exact Bool.false_ne_true)]
  walk_at "rd"
  refine ask ⟨v, st.enc, "set", 3, rfl, hR.dp, st.headOk, by decide +kernel, by decide, ?_⟩
  walk_at "rd"
  have thing : ∀ (x : V) (u : Th) (Q0 : VK), Rp K H x u.enc → Th.ok wk.params wk.owns 4 u → Q0 .non H → spNeedThing K 5 [.ref wp, x, .int 0] H Q0 E0 := fun x u Q0 hx hu hq =>
    ⟨wp, x, b, u, wk.params, wk.owns, 0, 4, rfl, hW, hx, hu, by omega, by omega, hq⟩
  cases st with
  | set p t =>
    obtain ⟨a1, u, x, rfl, hS, hu, hx⟩ := St.inv_set hR
    obtain ⟨ip, okp, okt⟩ := St.ok_set' ok
    rw [sa] at okp okt
    have at1 : atI [.str "set", u, x] 1 = some u := atI_nat (xs := [.str "set", u, x]) (j := 1) rfl
    have at2 : atI [.str "set", u, x] 2 = some x := atI_nat (xs := [.str "set", u, x]) (j := 2) rfl
    rw [ss_set_set, if_pos rfl]
    walk_at "rd"
    refine ask ⟨wp, u, b, p, wk.params, wk.owns, rfl, hW, hu, okp, ip, ?_⟩
    walk_at "rd"
    refine ask (thing x t _ hx okt ?_)
    walk_at "rd"
    exact q
  | say t =>
    obtain ⟨a1, u, rfl, hS, hu⟩ := St.inv_say hR
    have okt := St.ok_say' ok
    rw [sa] at okt
    have at1 : atI [.str "say", u] 1 = some u := atI_nat (xs := [.str "say", u]) (j := 1) rfl
    rw [ss_say_set, if_neg Bool.false_ne_true]
    walk_at "rd"
    refine ask ⟨_, _, "say", 2, rfl, hR.dp, St.headOk _, by decide +kernel, by decide, ?_⟩
    walk_at "rd"
    rw [ss_say_say, if_pos rfl]
    walk_at "rd"
    refine ask (thing u t _ hu okt ?_)
    walk_at "rd"
    exact q
  | ite t b1 b2 =>
    cases d with
    | zero => exact (by unfold St.ok at ok; exact ok : False).elim
    | succ d =>
      obtain ⟨a1, u, x, y, rfl, hS, hu, hx, hy⟩ := St.inv_ite hR
      have ok' : Th.ok ((shapes P).getD i (0, 0)).1 ((shapes P).getD i (0, 0)).2 4 t ∧ Sts.ok (shapes P) i d b1 ∧ Sts.ok (shapes P) i d b2 := by
        unfold St.ok at ok
        exact ok
      obtain ⟨okt, o1, o2⟩ := ok'
      rw [sa] at okt
      have many : (St.ite t b1 b2).many = 1 + b1.many + b2.many := by unfold St.many; rfl
      rw [many] at cm q
      have at1 : atI [.str "if", u, x, y] 1 = some u := atI_nat (xs := [.str "if", u, x, y]) (j := 1) rfl
      have at2 : atI [.str "if", u, x, y] 2 = some x := atI_nat (xs := [.str "if", u, x, y]) (j := 2) rfl
      have at3 : atI [.str "if", u, x, y] 3 = some y := atI_nat (xs := [.str "if", u, x, y]) (j := 3) rfl
      rw [ss_ite_set, if_neg Bool.false_ne_true]
      walk_at "rd"
      refine ask ⟨_, _, "say", 2, rfl, hR.dp, St.headOk _, by decide +kernel, by decide, ?_⟩
      walk_at "rd"
      rw [ss_ite_say, if_neg Bool.false_ne_true]
      walk_at "rd"
      refine ask ⟨_, _, "if", 4, rfl, hR.dp, St.headOk _, by decide +kernel, by decide, ?_⟩
      walk_at "rd"
      rw [ss_ite_ite, if_pos rfl]
      walk_at "rd"
      refine ask (thing u t _ hu okt ?_)
      walk_at "rd"
      refine ask ⟨pp, P, i, d, h + 1, c + 1, wk, x, b1, by rw [Int.natCast_add, Int.natCast_add]; rfl, hP, ei, hx, o1, by omega, by omega, by omega, ?_⟩
      walk_at "rd"
      refine ask ⟨pp, P, i, d, h + 1, c + 1 + b1.many, wk, y, b2, by rw [Int.natCast_add h 1]; rfl, hP, ei, hy, o2, by omega, by omega, by omega, ?_⟩
      walk_at "rd"
      have e : c + 1 + b1.many + b2.many = c + (1 + b1.many + b2.many) := by omega
      rw [← e] at q
      exact q
  | call k ts =>
    obtain ⟨a1, x, rfl, hS, hx⟩ := St.inv_call hR
    obtain ⟨ik, kl, lt, okt⟩ := St.ok_call' ok
    rw [sa] at okt
    have kl' : k < P.length := by
      unfold shapes at kl
      rw [List.length_map] at kl
      exact kl
    have ek : P[k]? = some P[k] := List.getElem?_eq_getElem kl'
    rw [shapes_at ek] at lt
    have at1 : atI [.str "call", .int (k : Int), x] 1 = some (.int (k : Int)) := atI_nat (xs := [.str "call", .int (k : Int), x]) (j := 1) rfl
    have at2 : atI [.str "call", .int (k : Int), x] 2 = some x := atI_nat (xs := [.str "call", .int (k : Int), x]) (j := 2) rfl
    rw [ss_call_set, if_neg Bool.false_ne_true]
    walk_at "rd"
    refine ask ⟨_, _, "say", 2, rfl, hR.dp, St.headOk _, by decide +kernel, by decide, ?_⟩
    walk_at "rd"
    rw [ss_call_say, if_neg Bool.false_ne_true]
    walk_at "rd"
    refine ask ⟨_, _, "if", 4, rfl, hR.dp, St.headOk _, by decide +kernel, by decide, ?_⟩
    walk_at "rd"
    rw [ss_call_ite, if_neg Bool.false_ne_true]
    walk_at "rd"
    refine ask ⟨_, _, "call", 3, rfl, hR.dp, St.headOk _, by decide +kernel, by decide, ?_⟩
    walk_at "rd"
    rw [ss_call_call, if_pos rfl]
    walk_at "rd"
    refine ask ⟨pp, P, i, k, wk, P[k], x, ts, rfl, hP, ei, ek, ik, hx, lt, okt, ?_⟩
    walk_at "rd"
    exact q
theorem many_cons {s : St} {r : Sts} : (Sts.cons s r).many = s.many + r.many := rfl
theorem okNeedBody {tk : Nat → Tok} {n : Nat} (D : DefAt K mg "need_body" sneed_body pneed_body) (T : Nrs tk mg) (C_need_step : Callee P w K mg base "need_step" (2 * n + 12) pneed_step (spNeedStep K (n + 1))) :
    Callee P w K mg base "need_body" (2 * n + 13) pneed_body (spNeedBody K (n + 1)) := by
  refine D.ok scneed_body (fun vs H Q E h => ?_) (fun f cdv A outer s H vs Q E hr h => ?_)
  · obtain ⟨pp, P, i, d, h, c, wk, v, st, rfl, _⟩ := h
    rfl
  obtain ⟨pp, P, i, d, h, c, wk, v, ss, rfl, hP, ei, hR, ok, hd, dn, cm, q⟩ := h
  obtain ⟨tp, vs, rfl, hV, hvs⟩ := hR.tup_inv
  refine ⟨_, (pss_cons (ps_if (pt_not (pt_val (pe_callB (cIsi (K := K)) (by rfl) T.isinstance (by decide +kernel) (pa_cons (pv 2) (pa_cons (pe_bltn rfl T.tuple (by decide +kernel) (v := .ty "tuple") rfl) pa_nil))))) pss_never pss_nil)
  (pss_cons (ps_for PassesOwn.never rfl (piTup (K := K) (pv 2)) (pg_name (i := 5) scneed_body.nd rfl (Or.inl rfl))
   (pss_one (ps_set (i := 4) scneed_body.nd rfl (Or.inl rfl) (pcall C_need_step (hr.mono (by omega)) rfl (pa_cons (pv 0) (pa_cons (pv 1) (pa_cons (pv 5) (pa_cons (pv 3) (pa_cons (pe_op op_add (pv 4) pe_int) pa_nil)))))))))
  (pss_one (ps_ret (pv 4))))), ?_⟩
  walk_at "rd"
  refine forT (xs := vs) (fun j σ H' => H' = H ∧ ∃ (x5 : Option V) (c' : Nat), σ = [some (.ref pp), some (.int (i : Int)), some (.ref tp), some (.int (h : Int)), some (.int (c' : Int)), x5] ∧ c' + (ss.drop j).many = c + ss.many ∧ Sts.ok (shapes P) i d (ss.drop j)) ⟨rfl, none, c, rfl, rfl, ok⟩ (fun j σ H' _ hp => ?_) (fun j x σ H' hx hp => ?_) (fun σ H' hp => ?_)
  · obtain ⟨rfl, x5, c', rfl, ec, okd⟩ := hp
    exact hV
  · obtain ⟨rfl, x5, c', rfl, ec, okd⟩ := hp
    obtain ⟨dd, ed, rd⟩ := hvs.get' hx
    obtain ⟨st, rfl, est⟩ := Sts.drop_get ed
    rw [est] at ec okd
    have okd' : St.ok (shapes P) i d st ∧ Sts.ok (shapes P) i d (ss.drop (j + 1)) := by
      unfold Sts.ok at okd
      exact okd
    have mc : (Sts.cons st (ss.drop (j + 1))).many = st.many + (ss.drop (j + 1)).many := many_cons
    rw [mc] at ec
    walk_at "rd"
    refine ask ⟨pp, P, i, d, h, c', wk, x, st, rfl, hP, ei, rd, okd'.1, hd, dn, by omega, ?_⟩
    walk_at "rd"
    exact ⟨rfl, _, c' + st.many, rfl, by omega, okd'.2⟩
  · obtain ⟨rfl, x5, c', rfl, ec, okd⟩ := hp
    have lv : vs.length = ss.encs.length := hvs.length
    rw [lv, Sts.drop_all] at ec
    have e0 : Sts.nil.many = 0 := by unfold Sts.many; rfl
    rw [e0] at ec
    have e1 : c' = c + ss.many := by omega
    walk_at "rd"
    rw [e1]
    exact q
end
end Hw
namespace Hw
open PySem PySem.Spec PyProof.Rows L2
local macro_rules | `(tactic| walk_at "sz") => `(tactic| first | exact Nat.le_of_ble_eq_true rfl | exact small (by first | omega | (simp; done) | (simp; omega)))
local macro_rules | `(tactic| walk_at "szT") => `(tactic| first | exact Nat.lt_of_lt_of_le (Nat.lt_succ_self _) (Nat.le_of_ble_eq_true rfl) | exact smallT (by first | omega | (simp; done) | (simp; omega)))
local macro_rules | `(tactic| walk_at "cond") => `(tactic| first | decide | omega | (dsimp only; omega) | exact ⟨by omega, by omega⟩ | exact .inr ⟨by decide, by decide⟩)
local macro_rules | `(tactic| walk_at "sq") => `(tactic| first | assumption | exact SqL.of (by assumption) | exact SqT.of (by assumption))
local macro_rules | `(tactic| walk_at "ty") => `(tactic| first | (with_reducible assumption) | exact .base (.int _) | exact .base (.str _) | exact .base (.bl _) | exact .base .non | exact tyT (by walk_at "sq") | exact tyL (by walk_at "sq"))
local macro_rules | `(tactic| walk_at "rd1") => `(tactic| first
  | ((with_reducible apply r_seq))
  | ((with_reducible apply r_asg))
  | ((with_reducible apply r_name))
  | ((with_reducible apply r_op))
  | ((with_reducible apply r_var); exact rfl)
  | ((with_reducible apply r_c))
  | ((with_reducible apply r_ixT); (walk_at "sq"); first | exact rfl | assumption)
  | ((with_reducible apply r_ixL); (walk_at "sq"); first | exact rfl | assumption)
  | ((with_reducible apply r_ixA); (first | exact .inl (by walk_at "sq") | exact .inr (by walk_at "sq")); first | exact rfl | assumption)
  | ((with_reducible apply r_isi); (walk_at "ty"); (decide +kernel))
  | ((with_reducible apply r_isiT2); assumption; (walk_at "ty"); (decide +kernel); (decide +kernel))
  | ((with_reducible apply r_I0))
  | ((with_reducible apply r_I); (walk_at "cond"))
  | ((with_reducible apply r_eq); exact rfl)
  | ((with_reducible apply r_ne); exact rfl)
  | ((with_reducible apply r_test))
  | ((with_reducible apply r_bl))
  | ((with_reducible apply r_if))
  | ((with_reducible apply r_nil))
  | ((with_reducible apply r_cons))
  | ((with_reducible apply r_call))
  | ((with_reducible apply r_cb))
  | ((with_reducible apply r_tup))
  | ((with_reducible apply r_lst))
  | ((with_reducible apply new); (walk_at "sz"))
  | ((with_reducible apply r_ret))
  | ((with_reducible apply r_retN))
  | ((with_reducible apply r_next))
  | ((with_reducible apply r_drop))
  | ((with_reducible apply r_lenL); (walk_at "sq"))
  | ((with_reducible apply r_lenT); (walk_at "sq"))
  | ((with_reducible apply r_int))
  | ((with_reducible apply r_intB))
  | ((with_reducible apply r_isN))
  | ((with_reducible apply r_notN))
  | ((with_reducible apply r_B))
  | ((with_reducible apply r_not))
  | ((with_reducible apply r_notV))
  | ((with_reducible apply r_andV))
  | ((with_reducible apply r_orV))
  | ((with_reducible apply r_ifE))
  | ((with_reducible apply r_chain))
  | ((with_reducible apply ite_t); (first | (with_reducible exact nRN) | (with_reducible exact nIN) | (with_reducible exact dNN) | decide +kernel))
  | ((with_reducible apply ite_f); (first | (with_reducible exact dRN) | (with_reducible exact dIN) | (with_reducible exact nNN) | decide +kernel))
  | ((with_reducible apply r_in); (first | exact .inl (by walk_at "sq") | exact .inr (by walk_at "sq")); exact rfl; (first | exact nums_flat | exact rfl))
  | ((with_reducible apply turn))
  | ((with_reducible apply r_for))
  | ((with_reducible apply r_iRng1))
  | ((with_reducible apply r_rng); (first | decide | omega | (simp; omega)); (first | decide | omega | (simp; omega)))
  | ((with_reducible apply r_iList))
  | ((with_reducible apply r_iTup))
  | ((with_reducible apply r_overL); (walk_at "sq"))
  | ((with_reducible apply r_overT); (walk_at "sq"))
  | ((with_reducible apply r_lc))
  | ((with_reducible apply acc); assumption; (walk_at "szT"))
  | ((with_reducible apply r_sub))
  | ((with_reducible apply r_setL); assumption; exact rfl)
  | ((with_reducible apply r_gtup); (walk_at "sq"); rfl)
  | ((with_reducible apply r_gnil))
  | ((with_reducible apply r_gcons))
  | ((with_reducible apply r_par))
  | ((with_reducible apply r_par2))
  | ((with_reducible apply r_sl))
  | ((with_reducible apply r_part))
  | ((with_reducible apply r_part1))
  | ((with_reducible apply r_noPart))
  | ((with_reducible apply r_slL); (walk_at "sq"))
  | ((with_reducible apply r_slA); (walk_at "sq"))
  | ((with_reducible apply r_tupL); (walk_at "sq"))
  | ((with_reducible apply r_tupT); (walk_at "sq"))
  | ((with_reducible apply r_lstL); (walk_at "sq"))
  | ((with_reducible apply r_lstT); (walk_at "sq"))
  | ((with_reducible apply r_append))
  | ((with_reducible apply r_isL); (walk_at "sq"))
  | ((with_reducible apply r_app); assumption; (walk_at "szT"))
  | ((with_reducible apply r_dget))
  | ((with_reducible apply r_dgetS); assumption; (walk_at "dk"))
  | ((with_reducible apply r_dput))
  | ((with_reducible apply r_dputS); assumption; (walk_at "szT"))
  | ((with_reducible apply r_disp))
  | ((with_reducible apply r_pnil))
  | ((with_reducible apply r_pcons))
  | ((with_reducible apply r_fld))
  | ((with_reducible apply r_fld1); assumption; assumption; assumption; (first | exact rfl | assumption))
  | ((with_reducible apply r_sfld))
  | ((with_reducible apply r_sfld1); assumption; assumption; assumption; exact (by decide)))
local macro_rules | `(tactic| walk_at "rd") => `(tactic| repeat walk_at "rd1")
section
variable {P : Program} {w : World} {K : PySem.W.Frag} {mg : Str → Option Value} {base : Heap}
/-! ### programs.py: need_head, of what is well -/
theorem okNeedBodies {tk : Nat → Tok} {aP aW : Addr} (D : DefAt K mg "need_body" sneed_body pneed_body) (Ds : DefAt K mg "need_step" sneed_step pneed_step) (T : Cst K tk aP aW mg) (C_is_shaped : Callee P w K mg base "is_shaped" 1 pis_shaped (spIsShaped K))
    (C_need_thing : Callee P w K mg base "need_thing" 9 pneed_thing (spNeedThing K 5)) (C_need_place : Callee P w K mg base "need_place" 10 pneed_place (spNeedPlace K)) (C_need_call : Callee P w K mg base "need_call" 10 pneed_call (spNeedCall K)) :
    ∀ n : Nat, Callee P w K mg base "need_body" (2 * n + 11) pneed_body (spNeedBody K n)
  | 0 => D.none fun vs H Q E h => by
    obtain ⟨pp, P, i, d, h, c, wk, v, st, rfl, _, _, _, _, _, z, _⟩ := h
    omega
  | n + 1 => okNeedBody D T.toNrs (okNeedStep Ds T C_is_shaped C_need_thing C_need_place C_need_call (okNeedBodies D Ds T C_is_shaped C_need_thing C_need_place C_need_call n))
theorem below_int {k m : Int} (h : 0 ≤ k) (g : k < m) : belowD m (.int k) = true :=
  (show (decide (0 ≤ k) && decide (k < m)) = true from Bool.and_eq_true_iff.mpr ⟨decide_eq_true h, decide_eq_true g⟩)
def spNeedHead (K : PySem.W.Frag) : Sp := fun vs H Q _ => ∃ (wp : Addr) (b : V) (i p o : Nat), vs = [.int (i : Int), .ref wp] ∧ SqT K H wp [.int (p : Int), .int (o : Int), b] ∧ p ≤ 3 ∧ (i = 0 → p = 0) ∧ o ≤ 99 ∧ Q .non H
abbrev sneed_head : Stmt := top 17
abbrev nneed_head : List Str := ["at", "work", "most"]
abbrev pneed_head : List Str := ["at", "work"]
theorem scneed_head : FnScope nneed_head pneed_head (defScope sneed_head) := ⟨rfl, rfl, rfl, by decide +kernel, rfl, by decide +kernel, by decide +kernel⟩
theorem okNeedHead {tk : Nat → Tok} (D : DefAt K mg "need_head" sneed_head pneed_head) (T : Nrs tk mg) (C_is_below : Callee P w K mg base "is_below" 1 pis_below (spIsBelow K)) : Callee P w K mg base "need_head" 2 pneed_head (spNeedHead K) := by
  refine D.ok scneed_head (fun vs H Q E h => ?_) (fun f cdv A outer s H vs Q E hr h => ?_)
  · obtain ⟨wp, b, i, p, o, rfl, _⟩ := h
    rfl
  obtain ⟨wp, b, i, p, o, rfl, hW, p3, p0, o9, q⟩ := h
  have at0 : atI [.int (p : Int), .int (o : Int), b] 0 = some (.int (p : Int)) := atI_nat (xs := [.int (p : Int), .int (o : Int), b]) (j := 0) rfl
  have at1 : atI [.int (p : Int), .int (o : Int), b] 1 = some (.int (o : Int)) := atI_nat (xs := [.int (p : Int), .int (o : Int), b]) (j := 1) rfl
  refine ⟨_, (pss_cons (ps_if (PW.pt (pw_or (pt_not (pt_val (pe_callB (cIsi (K := K)) (by rfl) T.isinstance (by decide +kernel) (pa_cons (pv 1) (pa_cons (pe_bltn rfl T.tuple (by decide +kernel) (v := .ty "tuple") rfl) pa_nil))))) (pw_or1 (pt_cmpR op_ne (pe_callB (cLen (K := K)) (by rfl) T.len PySem.boot_len (pa_cons (pv 1) pa_nil)) pe_int (nomark _))))) pss_never pss_nil)
  (pss_cons (ps_set (i := 2) scneed_head.nd rfl (Or.inl rfl) (pe_ifExp (pt_cmpR op_eq (pv 0) pe_int (nomark _)) pe_int (pe_glob (v := .int 3) rfl T.MOST_PARAMS ⟨_, rfl⟩)))
  (pss_cons (ps_if (pt_not (pt_val (pcall C_is_below (hr.mono (by omega)) rfl (pa_cons (pe_ix (ixT (K := K)) (pv 1) pe_int (fun _ _ => rfl)) (pa_cons (pe_op op_add (pv 2) pe_int) pa_nil))))) pss_never pss_nil)
  (pss_one (ps_if (pt_not (pt_val (pcall C_is_below (hr.mono (by omega)) rfl (pa_cons (pe_ix (ixT (K := K)) (pv 1) pe_int (fun _ _ => rfl)) (pa_cons (pe_op op_add (pe_glob (v := .int 99) rfl T.MOST_OWNS ⟨_, rfl⟩) pe_int) pa_nil))))) pss_never pss_nil))))), ?_⟩
  walk_at "rd"
  refine r_orP (a := !kb "tuple" "tuple") (b := !decide ((V.int (([V.int (p : Int), V.int (o : Int), b] : List V).length : Int)) = V.int 3)) (fun R hr => by walk_at "rd"; exact hr) (fun _ R hr => by walk_at "rd"; exact hr) ?_
  rw [if_neg (by
    rw [decide_eq_true (by rfl)]
    exact (by decide +kernel : ¬ (!kb "tuple" "tuple" || !true) = true))]
  walk_at "rd"
  refine ite2 (fun c => ?_) (fun c => ?_)
  · walk_at "rd"
    refine ask ⟨.int (p : Int), .int (p : Int), 0 + 1, rfl, .int _, ?_⟩
    rw [below_int (k := (p : Int)) (m := 0 + 1) (by omega) (by have := V.int.inj (of_decide_eq_true c); have := p0 (by omega); omega)]
    walk_at "rd"
    refine ask ⟨.int (o : Int), .int (o : Int), 99 + 1, rfl, .int _, ?_⟩
    rw [below_int (k := (o : Int)) (m := 99 + 1) (by omega) (by omega)]
    walk_at "rd"
    exact q
  · walk_at "rd"
    refine ask ⟨.int (p : Int), .int (p : Int), 3 + 1, rfl, .int _, ?_⟩
    rw [below_int (k := (p : Int)) (m := 3 + 1) (by omega) (by omega)]
    walk_at "rd"
    refine ask ⟨.int (o : Int), .int (o : Int), 99 + 1, rfl, .int _, ?_⟩
    rw [below_int (k := (o : Int)) (m := 99 + 1) (by omega) (by omega)]
    walk_at "rd"
    exact q
end
end Hw
namespace Hw
open PySem PySem.Spec PyProof.Rows L2
local macro_rules | `(tactic| walk_at "sz") => `(tactic| first | exact Nat.le_of_ble_eq_true rfl | exact small (by first | omega | (simp; done) | (simp; omega)))
local macro_rules | `(tactic| walk_at "szT") => `(tactic| first | exact Nat.lt_of_lt_of_le (Nat.lt_succ_self _) (Nat.le_of_ble_eq_true rfl) | exact smallT (by first | omega | (simp; done) | (simp; omega)))
local macro_rules | `(tactic| walk_at "cond") => `(tactic| first | decide | omega | (dsimp only; omega) | exact ⟨by omega, by omega⟩ | exact .inr ⟨by decide, by decide⟩)
local macro_rules | `(tactic| walk_at "sq") => `(tactic| first | assumption | exact SqL.of (by assumption) | exact SqT.of (by assumption))
local macro_rules | `(tactic| walk_at "ty") => `(tactic| first | (with_reducible assumption) | exact .base (.int _) | exact .base (.str _) | exact .base (.bl _) | exact .base .non | exact tyT (by walk_at "sq") | exact tyL (by walk_at "sq"))
local macro_rules | `(tactic| walk_at "rd1") => `(tactic| first
  | ((with_reducible apply r_seq))
  | ((with_reducible apply r_asg))
  | ((with_reducible apply r_name))
  | ((with_reducible apply r_op))
  | ((with_reducible apply r_var); exact rfl)
  | ((with_reducible apply r_c))
  | ((with_reducible apply r_ixT); (walk_at "sq"); first | exact rfl | assumption)
  | ((with_reducible apply r_ixL); (walk_at "sq"); first | exact rfl | assumption)
  | ((with_reducible apply r_ixA); (first | exact .inl (by walk_at "sq") | exact .inr (by walk_at "sq")); first | exact rfl | assumption)
  | ((with_reducible apply r_isi); (walk_at "ty"); (decide +kernel))
  | ((with_reducible apply r_isiT2); assumption; (walk_at "ty"); (decide +kernel); (decide +kernel))
  | ((with_reducible apply r_I0))
  | ((with_reducible apply r_I); (walk_at "cond"))
  | ((with_reducible apply r_eq); exact rfl)
  | ((with_reducible apply r_ne); exact rfl)
  | ((with_reducible apply r_test))
  | ((with_reducible apply r_bl))
  | ((with_reducible apply r_if))
  | ((with_reducible apply r_nil))
  | ((with_reducible apply r_cons))
  | ((with_reducible apply r_call))
  | ((with_reducible apply r_cb))
  | ((with_reducible apply r_tup))
  | ((with_reducible apply r_lst))
  | ((with_reducible apply new); (walk_at "sz"))
  | ((with_reducible apply r_ret))
  | ((with_reducible apply r_retN))
  | ((with_reducible apply r_next))
  | ((with_reducible apply r_drop))
  | ((with_reducible apply r_lenL); (walk_at "sq"))
  | ((with_reducible apply r_lenT); (walk_at "sq"))
  | ((with_reducible apply r_int))
  | ((with_reducible apply r_intB))
  | ((with_reducible apply r_isN))
  | ((with_reducible apply r_notN))
  | ((with_reducible apply r_B))
  | ((with_reducible apply r_not))
  | ((with_reducible apply r_notV))
  | ((with_reducible apply r_andV))
  | ((with_reducible apply r_orV))
  | ((with_reducible apply r_ifE))
  | ((with_reducible apply r_chain))
  | ((with_reducible apply ite_t); (first | (with_reducible exact nRN) | (with_reducible exact nIN) | (with_reducible exact dNN) | decide +kernel))
  | ((with_reducible apply ite_f); (first | (with_reducible exact dRN) | (with_reducible exact dIN) | (with_reducible exact nNN) | decide +kernel))
  | ((with_reducible apply r_in); (first | exact .inl (by walk_at "sq") | exact .inr (by walk_at "sq")); exact rfl; (first | exact nums_flat | exact rfl))
  | ((with_reducible apply turn))
  | ((with_reducible apply r_for))
  | ((with_reducible apply r_iRng1))
  | ((with_reducible apply r_rng); (first | decide | omega | (simp; omega)); (first | decide | omega | (simp; omega)))
  | ((with_reducible apply r_iList))
  | ((with_reducible apply r_iTup))
  | ((with_reducible apply r_overL); (walk_at "sq"))
  | ((with_reducible apply r_overT); (walk_at "sq"))
  | ((with_reducible apply r_lc))
  | ((with_reducible apply acc); assumption; (walk_at "szT"))
  | ((with_reducible apply r_sub))
  | ((with_reducible apply r_setL); assumption; exact rfl)
  | ((with_reducible apply r_gtup); (walk_at "sq"); rfl)
  | ((with_reducible apply r_gnil))
  | ((with_reducible apply r_gcons))
  | ((with_reducible apply r_par))
  | ((with_reducible apply r_par2))
  | ((with_reducible apply r_sl))
  | ((with_reducible apply r_part))
  | ((with_reducible apply r_part1))
  | ((with_reducible apply r_noPart))
  | ((with_reducible apply r_slL); (walk_at "sq"))
  | ((with_reducible apply r_slA); (walk_at "sq"))
  | ((with_reducible apply r_tupL); (walk_at "sq"))
  | ((with_reducible apply r_tupT); (walk_at "sq"))
  | ((with_reducible apply r_lstL); (walk_at "sq"))
  | ((with_reducible apply r_lstT); (walk_at "sq"))
  | ((with_reducible apply r_append))
  | ((with_reducible apply r_isL); (walk_at "sq"))
  | ((with_reducible apply r_app); assumption; (walk_at "szT"))
  | ((with_reducible apply r_dget))
  | ((with_reducible apply r_dgetS); assumption; (walk_at "dk"))
  | ((with_reducible apply r_dput))
  | ((with_reducible apply r_dputS); assumption; (walk_at "szT"))
  | ((with_reducible apply r_disp))
  | ((with_reducible apply r_pnil))
  | ((with_reducible apply r_pcons))
  | ((with_reducible apply r_fld))
  | ((with_reducible apply r_fld1); assumption; assumption; assumption; (first | exact rfl | assumption))
  | ((with_reducible apply r_sfld))
  | ((with_reducible apply r_sfld1); assumption; assumption; assumption; exact (by decide)))
local macro_rules | `(tactic| walk_at "rd") => `(tactic| repeat walk_at "rd1")
local macro_rules | `(tactic| walk_at "lk") => `(tactic| first | (with_reducible exact cell_number) | (with_reducible exact cell_loans) | (with_reducible exact frame_owns) | (with_reducible exact frame_handed) | (with_reducible exact frame_roads) | (with_reducible exact want_thing) | (with_reducible exact want_frame) | (with_reducible exact run_program) | (with_reducible exact run_ways) | (with_reducible exact run_commons) | (with_reducible exact run_said) | (with_reducible exact run_lent) | (with_reducible exact run_mixed))
local macro_rules | `(tactic| walk_at "rd1") => `(tactic| first
  | ((with_reducible apply r_enumT))
  | ((with_reducible apply r_overE); (walk_at "sq"))
  | ((with_reducible apply r_zipA))
  | ((with_reducible apply r_zipT); (walk_at "sq"); (walk_at "sq"))
  | ((with_reducible apply r_zip3))
  | ((with_reducible apply r_overZ3); (walk_at "sq"); (walk_at "sq"); (walk_at "sq"))
  | ((with_reducible apply r_make))
  | ((with_reducible apply r_isiC); assumption; assumption; assumption)
  | ((with_reducible apply r_popM))
  | ((with_reducible apply r_pop); assumption)
  | ((with_reducible apply r_tru))
  | ((with_reducible apply r_truL); (walk_at "sq"))
  | ((with_reducible apply r_fld1); assumption; assumption; assumption; (walk_at "lk"))
  | ((with_reducible apply r_sfld1); assumption; assumption; assumption; exact Nat.le_of_ble_eq_true rfl))
section
variable {P : Program} {w : World} {K : PySem.W.Frag} {mg : Str → Option Value} {base : Heap}
/-! ### programs.py: need_program, of what is well -/
def spNeedProgram (K : PySem.W.Frag) : Sp := fun vs H Q _ => ∃ (v : V) (P : List Wk) (m : Nat), vs = [v] ∧ Rp K H v (encP P) ∧ Good P m ∧ m ≤ 100 ∧ ∀ H', Keep [] H H' → Q .non H'
abbrev sneed_program : Stmt := top 16
abbrev nneed_program : List Str := ["program", "at", "work"]
abbrev pneed_program : List Str := ["program"]
theorem scneed_program : FnScope nneed_program pneed_program (defScope sneed_program) := ⟨rfl, rfl, rfl, by decide +kernel, rfl, by decide +kernel, by decide +kernel⟩
theorem okNeedProgram {tk : Nat → Tok} {aP aW : Addr} (D : DefAt K mg "need_program" sneed_program pneed_program) (T : Cst K tk aP aW mg) (C_need_head : Callee P w K mg base "need_head" 2 pneed_head (spNeedHead K)) (C_need_body : Callee P w K mg base "need_body" 17 pneed_body (spNeedBody K 3)) :
    Callee P w K mg base "need_program" 18 pneed_program (spNeedProgram K) := by
  refine D.ok scneed_program (fun vs H Q E h => ?_) (fun f cdv A outer s H vs Q E hr h => ?_)
  · obtain ⟨v, P, m, rfl, _⟩ := h
    rfl
  obtain ⟨v, P, m, rfl, hP, gd, m1, q⟩ := h
  obtain ⟨a, xs, rfl, hT, hl, hat⟩ := encP_at hP
  refine ⟨_, (pss_cons (ps_if (PW.pt (pw_or (pt_not (pt_val (pe_callB (cIsi (K := K)) (by rfl) T.isinstance (by decide +kernel) (pa_cons (pv 0) (pa_cons (pe_bltn rfl T.tuple (by decide +kernel) (v := .ty "tuple") rfl) pa_nil))))) (pw_or1 (pt_not (pt_chain op_le op_le pe_int (pe_callB (cLen (K := K)) (by rfl) T.len PySem.boot_len (pa_cons (pv 0) pa_nil)) (pe_glob (v := .int 4) rfl T.MOST_WORKS ⟨_, rfl⟩)))))) pss_never pss_nil)
  (pss_cons (ps_for PassesOwn.never rfl (pi_enumT (K := K) rfl T.enumerate (pa_cons (pv 0) pa_nil)) (pgTup (K := K) (by rfl) (pgs_cons (pg_name (i := 1) scneed_program.nd rfl (Or.inl rfl)) (pgs_cons (pg_name (i := 2) scneed_program.nd rfl (Or.inl rfl)) pgs_nil)))
   (pss_one (ps_expr (pcall C_need_head (hr.mono (by omega)) rfl (pa_cons (pv 1) (pa_cons (pv 2) pa_nil))))))
  (pss_one (ps_for PassesOwn.never rfl (pi_enumT (K := K) rfl T.enumerate (pa_cons (pv 0) pa_nil)) (pgTup (K := K) (by rfl) (pgs_cons (pg_name (i := 1) scneed_program.nd rfl (Or.inl rfl)) (pgs_cons (pg_name (i := 2) scneed_program.nd rfl (Or.inl rfl)) pgs_nil)))
   (pss_one (ps_expr (pcall C_need_body (hr.mono (by omega)) rfl (pa_cons (pv 0) (pa_cons (pv 1) (pa_cons (pe_ix (ixT (K := K)) (pv 2) pe_int (fun _ _ => rfl)) (pa_cons pe_int (pa_cons pe_int pa_nil)))))))))))), ?_⟩
  have lx : ((xs.length : Nat) : Int) = (P.length : Int) := by rw [hl]
  have g1 := gd.one
  have g4 := gd.few
  walk_at "rd"
  refine r_orP (a := !kb "tuple" "tuple") (b := false) (fun R hr => by walk_at "rd"; exact hr) (fun _ R hr => ?_) ?_
  · walk_at "rd"
    rw [if_pos (decide_eq_true (by omega))]
    walk_at "rd"
    rw [decide_eq_true (by omega)]
    exact hr
  rw [if_neg (by decide +kernel : ¬ (!kb "tuple" "tuple" || false) = true)]
  walk_at "rd"
  have at_i : ∀ (i : Nat) (x : V), xs[i]? = some x → ∃ (wk : Wk) (wp : Addr) (b : V), P[i]? = some wk ∧ x = .ref wp ∧ SqT K H wp [.int (wk.params : Int), .int (wk.owns : Int), b] ∧ Rp K H b (.tuple wk.body.encs) := fun i x hx => by
    have hi : i < P.length := by
      have := (List.getElem?_eq_some_iff.mp hx).1
      omega
    obtain ⟨wp, b, e, h1, h2⟩ := hat i P[i] (List.getElem?_eq_getElem hi)
    rw [atI_nat hx] at e
    exact ⟨P[i], wp, b, List.getElem?_eq_getElem hi, Option.some.inj e, h1, h2⟩
  refine forE (xs := xs) (fun i σ H' => ∃ x1 x2 : Option V, σ = [some (.ref a), x1, x2] ∧ Keep [] H H') ⟨_, _, rfl, Keep.refl⟩ (fun i σ H' _ hp => ?_) (fun i x T σ H' H1 hx hp nT hT1 k1 => ?_) (fun σ H' hp => ?_)
  · obtain ⟨x1, x2, rfl, k⟩ := hp
    exact (keep_ts0 k).sqT hT
  · obtain ⟨x1, x2, rfl, k⟩ := hp
    obtain ⟨wk, wp, b, ei, rfl, hW, hB⟩ := at_i i x hx
    have hTT := SqT.of (K := K) hT1
    walk_at "rd"
    refine ask ⟨wp, b, i, wk.params, wk.owns, rfl, ((keep_ts0 k).trans (keep_ts0 k1)).sqT hW, gd.params wk (List.mem_of_getElem? ei), fun z => by rw [z] at ei; exact gd.first wk ei, by have := gd.owns wk (List.mem_of_getElem? ei); omega, ?_⟩
    exact ⟨_, _, rfl, k.trans k1⟩
  obtain ⟨x1, x2, rfl, k0⟩ := hp
  have hT0 := (keep_ts0 k0).sqT hT
  walk_at "rd"
  refine forE (xs := xs) (fun i σ H' => ∃ x1 x2 : Option V, σ = [some (.ref a), x1, x2] ∧ Keep [] H H') ⟨_, _, rfl, k0⟩ (fun i σ H' _ hp => ?_) (fun i x T σ H' H1 hx hp nT hT1 k1 => ?_) (fun σ H' hp => ?_)
  · obtain ⟨x1, x2, rfl, k⟩ := hp
    exact (keep_ts0 k).sqT hT
  · obtain ⟨x1, x2, rfl, k⟩ := hp
    obtain ⟨wk, wp, b, ei, rfl, hW, hB⟩ := at_i i x hx
    have hTT := SqT.of (K := K) hT1
    have t1 := (keep_ts0 k).trans (keep_ts0 k1)
    have hW1 := t1.sqT hW
    have at2 : atI [.int (wk.params : Int), .int (wk.owns : Int), b] 2 = some b := atI_nat (xs := [.int (wk.params : Int), .int (wk.owns : Int), b]) (j := 2) rfl
    walk_at "rd"
    refine ask ⟨a, P, i, 2, 0, 0, wk, b, wk.body, rfl, hP.ts t1, ei, hB.ts t1, gd.body i wk ei, by omega, by omega, by have := gd.many wk (List.mem_of_getElem? ei); omega, ?_⟩
    exact ⟨_, _, rfl, k.trans k1⟩
  obtain ⟨x3, x4, rfl, k2⟩ := hp
  exact q _ k2
end
end Hw
namespace Hw
open PySem PySem.Spec PyProof.Rows L2
local macro_rules | `(tactic| walk_at "sz") => `(tactic| first | exact Nat.le_of_ble_eq_true rfl | exact small (by first | omega | (simp; done) | (simp; omega)))
local macro_rules | `(tactic| walk_at "szT") => `(tactic| first | exact Nat.lt_of_lt_of_le (Nat.lt_succ_self _) (Nat.le_of_ble_eq_true rfl) | exact smallT (by first | omega | (simp; done) | (simp; omega)))
local macro_rules | `(tactic| walk_at "cond") => `(tactic| first | decide | omega | (dsimp only; omega) | exact ⟨by omega, by omega⟩ | exact .inr ⟨by decide, by decide⟩)
local macro_rules | `(tactic| walk_at "sq") => `(tactic| first | assumption | exact SqL.of (by assumption) | exact SqT.of (by assumption))
local macro_rules | `(tactic| walk_at "ty") => `(tactic| first | (with_reducible assumption) | exact .base (.int _) | exact .base (.str _) | exact .base (.bl _) | exact .base .non | exact tyT (by walk_at "sq") | exact tyL (by walk_at "sq"))
local macro_rules | `(tactic| walk_at "rd1") => `(tactic| first
  | ((with_reducible apply r_seq))
  | ((with_reducible apply r_asg))
  | ((with_reducible apply r_name))
  | ((with_reducible apply r_op))
  | ((with_reducible apply r_var); exact rfl)
  | ((with_reducible apply r_c))
  | ((with_reducible apply r_ixT); (walk_at "sq"); first | exact rfl | assumption)
  | ((with_reducible apply r_ixL); (walk_at "sq"); first | exact rfl | assumption)
  | ((with_reducible apply r_ixA); (first | exact .inl (by walk_at "sq") | exact .inr (by walk_at "sq")); first | exact rfl | assumption)
  | ((with_reducible apply r_isi); (walk_at "ty"); (decide +kernel))
  | ((with_reducible apply r_isiT2); assumption; (walk_at "ty"); (decide +kernel); (decide +kernel))
  | ((with_reducible apply r_I0))
  | ((with_reducible apply r_I); (walk_at "cond"))
  | ((with_reducible apply r_eq); exact rfl)
  | ((with_reducible apply r_ne); exact rfl)
  | ((with_reducible apply r_test))
  | ((with_reducible apply r_bl))
  | ((with_reducible apply r_if))
  | ((with_reducible apply r_nil))
  | ((with_reducible apply r_cons))
  | ((with_reducible apply r_call))
  | ((with_reducible apply r_cb))
  | ((with_reducible apply r_tup))
  | ((with_reducible apply r_lst))
  | ((with_reducible apply new); (walk_at "sz"))
  | ((with_reducible apply r_ret))
  | ((with_reducible apply r_retN))
  | ((with_reducible apply r_next))
  | ((with_reducible apply r_drop))
  | ((with_reducible apply r_lenL); (walk_at "sq"))
  | ((with_reducible apply r_lenT); (walk_at "sq"))
  | ((with_reducible apply r_int))
  | ((with_reducible apply r_intB))
  | ((with_reducible apply r_isN))
  | ((with_reducible apply r_notN))
  | ((with_reducible apply r_B))
  | ((with_reducible apply r_not))
  | ((with_reducible apply r_notV))
  | ((with_reducible apply r_andV))
  | ((with_reducible apply r_orV))
  | ((with_reducible apply r_ifE))
  | ((with_reducible apply r_chain))
  | ((with_reducible apply ite_t); (first | (with_reducible exact nRN) | (with_reducible exact nIN) | (with_reducible exact dNN) | decide +kernel))
  | ((with_reducible apply ite_f); (first | (with_reducible exact dRN) | (with_reducible exact dIN) | (with_reducible exact nNN) | decide +kernel))
  | ((with_reducible apply r_in); (first | exact .inl (by walk_at "sq") | exact .inr (by walk_at "sq")); exact rfl; (first | exact nums_flat | exact rfl))
  | ((with_reducible apply turn))
  | ((with_reducible apply r_for))
  | ((with_reducible apply r_iRng1))
  | ((with_reducible apply r_rng); (first | decide | omega | (simp; omega)); (first | decide | omega | (simp; omega)))
  | ((with_reducible apply r_iList))
  | ((with_reducible apply r_iTup))
  | ((with_reducible apply r_overL); (walk_at "sq"))
  | ((with_reducible apply r_overT); (walk_at "sq"))
  | ((with_reducible apply r_lc))
  | ((with_reducible apply acc); assumption; (walk_at "szT"))
  | ((with_reducible apply r_sub))
  | ((with_reducible apply r_setL); assumption; exact rfl)
  | ((with_reducible apply r_gtup); (walk_at "sq"); rfl)
  | ((with_reducible apply r_gnil))
  | ((with_reducible apply r_gcons))
  | ((with_reducible apply r_par))
  | ((with_reducible apply r_par2))
  | ((with_reducible apply r_sl))
  | ((with_reducible apply r_part))
  | ((with_reducible apply r_part1))
  | ((with_reducible apply r_noPart))
  | ((with_reducible apply r_slL); (walk_at "sq"))
  | ((with_reducible apply r_slA); (walk_at "sq"))
  | ((with_reducible apply r_tupL); (walk_at "sq"))
  | ((with_reducible apply r_tupT); (walk_at "sq"))
  | ((with_reducible apply r_lstL); (walk_at "sq"))
  | ((with_reducible apply r_lstT); (walk_at "sq"))
  | ((with_reducible apply r_append))
  | ((with_reducible apply r_isL); (walk_at "sq"))
  | ((with_reducible apply r_app); assumption; (walk_at "szT"))
  | ((with_reducible apply r_dget))
  | ((with_reducible apply r_dgetS); assumption; (walk_at "dk"))
  | ((with_reducible apply r_dput))
  | ((with_reducible apply r_dputS); assumption; (walk_at "szT"))
  | ((with_reducible apply r_disp))
  | ((with_reducible apply r_pnil))
  | ((with_reducible apply r_pcons))
  | ((with_reducible apply r_fld))
  | ((with_reducible apply r_fld1); assumption; assumption; assumption; (first | exact rfl | assumption))
  | ((with_reducible apply r_sfld))
  | ((with_reducible apply r_sfld1); assumption; assumption; assumption; exact (by decide)))
local macro_rules | `(tactic| walk_at "rd") => `(tactic| repeat walk_at "rd1")
local macro_rules | `(tactic| walk_at "lk") => `(tactic| first | (with_reducible exact cell_number) | (with_reducible exact cell_loans) | (with_reducible exact frame_owns) | (with_reducible exact frame_handed) | (with_reducible exact frame_roads) | (with_reducible exact want_thing) | (with_reducible exact want_frame) | (with_reducible exact run_program) | (with_reducible exact run_ways) | (with_reducible exact run_commons) | (with_reducible exact run_said) | (with_reducible exact run_lent) | (with_reducible exact run_mixed))
local macro_rules | `(tactic| walk_at "rd1") => `(tactic| first
  | ((with_reducible apply r_enumT))
  | ((with_reducible apply r_overE); (walk_at "sq"))
  | ((with_reducible apply r_zipA))
  | ((with_reducible apply r_zipT); (walk_at "sq"); (walk_at "sq"))
  | ((with_reducible apply r_zip3))
  | ((with_reducible apply r_overZ3); (walk_at "sq"); (walk_at "sq"); (walk_at "sq"))
  | ((with_reducible apply r_make))
  | ((with_reducible apply r_isiC); assumption; assumption; assumption)
  | ((with_reducible apply r_popM))
  | ((with_reducible apply r_pop); assumption)
  | ((with_reducible apply r_tru))
  | ((with_reducible apply r_truL); (walk_at "sq"))
  | ((with_reducible apply r_fld1); assumption; assumption; assumption; (walk_at "lk"))
  | ((with_reducible apply r_sfld1); assumption; assumption; assumption; exact Nat.le_of_ble_eq_true rfl))
section
variable {P : Program} {w : World} {K : PySem.W.Frag} {mg : Str → Option Value} {base : Heap}
/-! ### need_ways, need_cells, of what is well -/
def ways4 : List Str := ["copy", "place", "back", "want"]
theorem inV_way {x : Str} (h : x ∈ ways4) : inV (V.str x) [V.str "copy", V.str "place", V.str "back", V.str "want"] = true := by
  unfold ways4 at h
  rcases List.mem_cons.mp h with rfl | h
  · decide +kernel
  rcases List.mem_cons.mp h with rfl | h
  · decide +kernel
  rcases List.mem_cons.mp h with rfl | h
  · decide +kernel
  cases List.mem_singleton.mp h
  decide +kernel
def spNeedWays (K : PySem.W.Frag) : Sp := fun vs H Q _ => ∃ (v u : V) (P : List Wk) (W : List (List Str)) (m : Nat), vs = [v, u] ∧ Rp K H v (encP P) ∧ Rp K H u (encW W) ∧ Good P m ∧ m ≤ 100 ∧ WaysOk P W ways4 ∧ ∀ H', Keep [] H H' → Q .non H'
def spNeedCells (K : PySem.W.Frag) : Sp := fun vs H Q _ => ∃ (ca : Addr) (cells : List Nat), vs = [.ref ca] ∧ SqT K H ca (nums cells) ∧ cells.length = 3 ∧ (∀ n ∈ cells, n < 3) ∧ Q .non H
abbrev sneed_ways : Stmt := top 24
abbrev nneed_ways : List Str := ["program", "ways", "work", "row", "way"]
abbrev pneed_ways : List Str := ["program", "ways"]
theorem scneed_ways : FnScope nneed_ways pneed_ways (defScope sneed_ways) := ⟨rfl, rfl, rfl, by decide +kernel, rfl, by decide +kernel, by decide +kernel⟩
theorem okNeedWays {tk : Nat → Tok} {aP aW : Addr} (D : DefAt K mg "need_ways" sneed_ways pneed_ways) (T : Cst K tk aP aW mg) (C_need_program : Callee P w K mg base "need_program" 18 pneed_program (spNeedProgram K)) :
    Callee P w K mg base "need_ways" 19 pneed_ways (spNeedWays K) := by
  refine D.ok scneed_ways (fun vs H Q E h => ?_) (fun f cdv A outer s H vs Q E hr h => ?_)
  · obtain ⟨v, u, P, W, m, rfl, _⟩ := h
    rfl
  obtain ⟨v, u, P, W, m, rfl, hP, hU, gd, m1, wo, q⟩ := h
  obtain ⟨a, xs, rfl, hT, hl, hat⟩ := encP_at hP
  obtain ⟨b, ys, rfl, hT2, hy⟩ := hU.tup_inv
  have ly : ys.length = P.length := by rw [hy.length, List.length_map]; exact wo.1
  refine ⟨_, (pss_cons (ps_expr (pcall C_need_program (hr.mono (by omega)) rfl (pa_cons (pv 0) pa_nil)))
  (pss_cons (ps_if (PW.pt (pw_or (pt_not (pt_val (pe_callB (cIsi (K := K)) (by rfl) T.isinstance (by decide +kernel) (pa_cons (pv 1) (pa_cons (pe_bltn rfl T.tuple (by decide +kernel) (v := .ty "tuple") rfl) pa_nil))))) (pw_or1 (pt_cmpR op_ne (pe_callB (cLen (K := K)) (by rfl) T.len PySem.boot_len (pa_cons (pv 1) pa_nil)) (pe_callB (cLen (K := K)) (by rfl) T.len PySem.boot_len (pa_cons (pv 0) pa_nil)) (nomark _))))) pss_never pss_nil)
  (pss_one (ps_for PassesOwn.never rfl (piZip (K := K) rfl T.zip (pa_cons (pv 0) (pa_cons (pv 1) pa_nil))) (pgTup (K := K) (by rfl) (pgs_cons (pg_name (i := 2) scneed_ways.nd rfl (Or.inl rfl)) (pgs_cons (pg_name (i := 3) scneed_ways.nd rfl (Or.inl rfl)) pgs_nil)))
   (pss_cons (ps_if (PW.pt (pw_or (pt_not (pt_val (pe_callB (cIsi (K := K)) (by rfl) T.isinstance (by decide +kernel) (pa_cons (pv 3) (pa_cons (pe_bltn rfl T.tuple (by decide +kernel) (v := .ty "tuple") rfl) pa_nil))))) (pw_or1 (pt_cmpR op_ne (pe_callB (cLen (K := K)) (by rfl) T.len PySem.boot_len (pa_cons (pv 3) pa_nil)) (pe_ix (ixT (K := K)) (pv 2) pe_int (fun _ _ => rfl)) (nomark _))))) pss_never pss_nil)
  (pss_one (ps_for PassesOwn.never rfl (piTup (K := K) (pv 3)) (pg_name (i := 4) scneed_ways.nd rfl (Or.inl rfl))
   (pss_one (ps_if (pt_cmpR (opNotIn (K := K)) (pv 4) (pe_glob (v := .ref _) rfl T.WAYS rfl) (by with_unfolding_all rfl)) pss_never pss_nil))))))))), ?_⟩
  walk_at "rd"
  refine ask ⟨_, P, m, rfl, hP, gd, m1, fun H1 k1 => ?_⟩
  have t1 := keep_ts0 k1
  have hT' := t1.sqT hT
  have hT2' := t1.sqT hT2
  walk_at "rd"
  refine r_orP (a := !kb "tuple" "tuple") (b := !decide ((V.int (ys.length : Int)) = V.int (xs.length : Int))) (fun R hr => by walk_at "rd"; exact hr) (fun _ R hr => by walk_at "rd"; exact hr) ?_
  rw [if_neg (by
    rw [decide_eq_true (by rw [ly, hl])]
    exact (by decide +kernel : ¬ (!kb "tuple" "tuple" || !true) = true))]
  walk_at "rd"
  refine forZT (xs := xs) (ys := ys) (by omega) (fun i σ H' => ∃ x2 x3 x4 : Option V, σ = [some (.ref a), some (.ref b), x2, x3, x4] ∧ Keep [] H H') ⟨_, _, _, rfl, k1⟩ (fun i σ H' hp => ?_) (fun i x y T0 σ H' H2 hx hy2 hp nT hT1 k2 => ?_) (fun σ H' hp => ?_)
  · obtain ⟨x2, x3, x4, rfl, k⟩ := hp
    exact ⟨(keep_ts0 k).sqT hT, (keep_ts0 k).sqT hT2⟩
  · obtain ⟨x2, x3, x4, rfl, k⟩ := hp
    have t2 := (keep_ts0 k).trans (keep_ts0 k2)
    have hi : i < P.length := by
      have := (List.getElem?_eq_some_iff.mp hx).1
      omega
    obtain ⟨wp, bb, e, h1, h2⟩ := hat i P[i] (List.getElem?_eq_getElem hi)
    rw [atI_nat hx] at e
    cases e
    obtain ⟨d, ed, hd⟩ := hy.get' hy2
    rw [List.getElem?_map] at ed
    obtain ⟨ws, ew, rfl⟩ := Option.map_eq_some_iff.mp ed
    obtain ⟨wl, wi⟩ := wo.2 i P[i] ws (List.getElem?_eq_getElem hi) ew
    obtain ⟨rp, zs, rfl, hR, hz⟩ := hd.tup_inv
    have hR2 := t2.sqT hR
    have hW2 := t2.sqT h1
    have lz : zs.length = P[i].params := by rw [hz.length, List.length_map]; exact wl
    have at0 : atI [.int (P[i].params : Int), .int (P[i].owns : Int), bb] 0 = some (.int (P[i].params : Int)) := atI_nat (xs := [.int (P[i].params : Int), .int (P[i].owns : Int), bb]) (j := 0) rfl
    have hTT := SqT.of (K := K) hT1
    walk_at "rd"
    refine r_orP (a := !kb "tuple" "tuple") (b := !decide ((V.int (zs.length : Int)) = V.int (P[i].params : Int))) (fun R hr => by walk_at "rd"; exact hr) (fun _ R hr => by walk_at "rd"; exact hr) ?_
    rw [if_neg (by
      rw [decide_eq_true (by rw [lz])]
      exact (by decide +kernel : ¬ (!kb "tuple" "tuple" || !true) = true))]
    walk_at "rd"
    refine forT (xs := zs) (fun j σ H' => H' = H2 ∧ ∃ x4 : Option V, σ = [some (.ref a), some (.ref b), some (.ref wp), some (.ref rp), x4]) ⟨rfl, _, rfl⟩ (fun j σ H3 _ hp => ?_) (fun j x σ H3 hx3 hp => ?_) (fun σ H3 hp => ?_)
    · obtain ⟨rfl, x5, rfl⟩ := hp
      exact hR2
    · obtain ⟨rfl, x5, rfl⟩ := hp
      obtain ⟨d, ed, hd⟩ := hz.get' hx3
      rw [List.getElem?_map] at ed
      obtain ⟨way, eway, rfl⟩ := Option.map_eq_some_iff.mp ed
      cases hd.str_inv
      have hWW : SqT K H3 aW [.str "copy", .str "place", .str "back", .str "want"] := sqT_of_none T.sqW
      walk_at "rd"
      rw [if_pos rfl, inV_way (wi way (List.mem_of_getElem? eway))]
      walk_at "rd"
      exact ⟨rfl, _, rfl⟩
    · obtain ⟨rfl, x5, rfl⟩ := hp
      exact ⟨_, _, _, rfl, k.trans k2⟩
  · obtain ⟨x2, x3, x4, rfl, k⟩ := hp
    exact q _ k
end
end Hw
namespace Hw
open PySem PySem.Spec PyProof.Rows L2
local macro_rules | `(tactic| walk_at "sz") => `(tactic| first | exact Nat.le_of_ble_eq_true rfl | exact small (by first | omega | (simp; done) | (simp; omega)))
local macro_rules | `(tactic| walk_at "szT") => `(tactic| first | exact Nat.lt_of_lt_of_le (Nat.lt_succ_self _) (Nat.le_of_ble_eq_true rfl) | exact smallT (by first | omega | (simp; done) | (simp; omega)))
local macro_rules | `(tactic| walk_at "cond") => `(tactic| first | decide | omega | (dsimp only; omega) | exact ⟨by omega, by omega⟩ | exact .inr ⟨by decide, by decide⟩)
local macro_rules | `(tactic| walk_at "sq") => `(tactic| first | assumption | exact SqL.of (by assumption) | exact SqT.of (by assumption))
local macro_rules | `(tactic| walk_at "ty") => `(tactic| first | (with_reducible assumption) | exact .base (.int _) | exact .base (.str _) | exact .base (.bl _) | exact .base .non | exact tyT (by walk_at "sq") | exact tyL (by walk_at "sq"))
local macro_rules | `(tactic| walk_at "rd1") => `(tactic| first
  | ((with_reducible apply r_seq))
  | ((with_reducible apply r_asg))
  | ((with_reducible apply r_name))
  | ((with_reducible apply r_op))
  | ((with_reducible apply r_var); exact rfl)
  | ((with_reducible apply r_c))
  | ((with_reducible apply r_ixT); (walk_at "sq"); first | exact rfl | assumption)
  | ((with_reducible apply r_ixL); (walk_at "sq"); first | exact rfl | assumption)
  | ((with_reducible apply r_ixA); (first | exact .inl (by walk_at "sq") | exact .inr (by walk_at "sq")); first | exact rfl | assumption)
  | ((with_reducible apply r_isi); (walk_at "ty"); (decide +kernel))
  | ((with_reducible apply r_isiT2); assumption; (walk_at "ty"); (decide +kernel); (decide +kernel))
  | ((with_reducible apply r_I0))
  | ((with_reducible apply r_I); (walk_at "cond"))
  | ((with_reducible apply r_eq); exact rfl)
  | ((with_reducible apply r_ne); exact rfl)
  | ((with_reducible apply r_test))
  | ((with_reducible apply r_bl))
  | ((with_reducible apply r_if))
  | ((with_reducible apply r_nil))
  | ((with_reducible apply r_cons))
  | ((with_reducible apply r_call))
  | ((with_reducible apply r_cb))
  | ((with_reducible apply r_tup))
  | ((with_reducible apply r_lst))
  | ((with_reducible apply new); (walk_at "sz"))
  | ((with_reducible apply r_ret))
  | ((with_reducible apply r_retN))
  | ((with_reducible apply r_next))
  | ((with_reducible apply r_drop))
  | ((with_reducible apply r_lenL); (walk_at "sq"))
  | ((with_reducible apply r_lenT); (walk_at "sq"))
  | ((with_reducible apply r_int))
  | ((with_reducible apply r_intB))
  | ((with_reducible apply r_isN))
  | ((with_reducible apply r_notN))
  | ((with_reducible apply r_B))
  | ((with_reducible apply r_not))
  | ((with_reducible apply r_notV))
  | ((with_reducible apply r_andV))
  | ((with_reducible apply r_orV))
  | ((with_reducible apply r_ifE))
  | ((with_reducible apply r_chain))
  | ((with_reducible apply ite_t); (first | (with_reducible exact nRN) | (with_reducible exact nIN) | (with_reducible exact dNN) | decide +kernel))
  | ((with_reducible apply ite_f); (first | (with_reducible exact dRN) | (with_reducible exact dIN) | (with_reducible exact nNN) | decide +kernel))
  | ((with_reducible apply r_in); (first | exact .inl (by walk_at "sq") | exact .inr (by walk_at "sq")); exact rfl; (first | exact nums_flat | exact rfl))
  | ((with_reducible apply turn))
  | ((with_reducible apply r_for))
  | ((with_reducible apply r_iRng1))
  | ((with_reducible apply r_rng); (first | decide | omega | (simp; omega)); (first | decide | omega | (simp; omega)))
  | ((with_reducible apply r_iList))
  | ((with_reducible apply r_iTup))
  | ((with_reducible apply r_overL); (walk_at "sq"))
  | ((with_reducible apply r_overT); (walk_at "sq"))
  | ((with_reducible apply r_lc))
  | ((with_reducible apply acc); assumption; (walk_at "szT"))
  | ((with_reducible apply r_sub))
  | ((with_reducible apply r_setL); assumption; exact rfl)
  | ((with_reducible apply r_gtup); (walk_at "sq"); rfl)
  | ((with_reducible apply r_gnil))
  | ((with_reducible apply r_gcons))
  | ((with_reducible apply r_par))
  | ((with_reducible apply r_par2))
  | ((with_reducible apply r_sl))
  | ((with_reducible apply r_part))
  | ((with_reducible apply r_part1))
  | ((with_reducible apply r_noPart))
  | ((with_reducible apply r_slL); (walk_at "sq"))
  | ((with_reducible apply r_slA); (walk_at "sq"))
  | ((with_reducible apply r_tupL); (walk_at "sq"))
  | ((with_reducible apply r_tupT); (walk_at "sq"))
  | ((with_reducible apply r_lstL); (walk_at "sq"))
  | ((with_reducible apply r_lstT); (walk_at "sq"))
  | ((with_reducible apply r_append))
  | ((with_reducible apply r_isL); (walk_at "sq"))
  | ((with_reducible apply r_app); assumption; (walk_at "szT"))
  | ((with_reducible apply r_dget))
  | ((with_reducible apply r_dgetS); assumption; (walk_at "dk"))
  | ((with_reducible apply r_dput))
  | ((with_reducible apply r_dputS); assumption; (walk_at "szT"))
  | ((with_reducible apply r_disp))
  | ((with_reducible apply r_pnil))
  | ((with_reducible apply r_pcons))
  | ((with_reducible apply r_fld))
  | ((with_reducible apply r_fld1); assumption; assumption; assumption; (first | exact rfl | assumption))
  | ((with_reducible apply r_sfld))
  | ((with_reducible apply r_sfld1); assumption; assumption; assumption; exact (by decide)))
local macro_rules | `(tactic| walk_at "rd") => `(tactic| repeat walk_at "rd1")
local macro_rules | `(tactic| walk_at "lk") => `(tactic| first | (with_reducible exact cell_number) | (with_reducible exact cell_loans) | (with_reducible exact frame_owns) | (with_reducible exact frame_handed) | (with_reducible exact frame_roads) | (with_reducible exact want_thing) | (with_reducible exact want_frame) | (with_reducible exact run_program) | (with_reducible exact run_ways) | (with_reducible exact run_commons) | (with_reducible exact run_said) | (with_reducible exact run_lent) | (with_reducible exact run_mixed))
local macro_rules | `(tactic| walk_at "rd1") => `(tactic| first
  | ((with_reducible apply r_enumT))
  | ((with_reducible apply r_overE); (walk_at "sq"))
  | ((with_reducible apply r_zipA))
  | ((with_reducible apply r_zipT); (walk_at "sq"); (walk_at "sq"))
  | ((with_reducible apply r_zip3))
  | ((with_reducible apply r_overZ3); (walk_at "sq"); (walk_at "sq"); (walk_at "sq"))
  | ((with_reducible apply r_make))
  | ((with_reducible apply r_isiC); assumption; assumption; assumption)
  | ((with_reducible apply r_popM))
  | ((with_reducible apply r_pop); assumption)
  | ((with_reducible apply r_tru))
  | ((with_reducible apply r_truL); (walk_at "sq"))
  | ((with_reducible apply r_fld1); assumption; assumption; assumption; (walk_at "lk"))
  | ((with_reducible apply r_sfld1); assumption; assumption; assumption; exact Nat.le_of_ble_eq_true rfl))
local macro_rules | `(tactic| walk_at "rd1") => `(tactic| first
  | ((with_reducible apply r_revR))
  | ((with_reducible apply r_revOf); (first | omega | decide))
  | ((with_reducible apply r_zipT3))
  | ((with_reducible apply r_overZT3); (walk_at "sq"); (walk_at "sq"); (walk_at "sq"))
  | ((with_reducible apply r_rep1); assumption; (first | omega | (simp; omega))))
section
variable {P : Program} {w : World} {K : PySem.W.Frag} {mg : Str → Option Value} {base : Heap}
/-! ### sets.py: mark, mark_handed, mark_body -/
def bools (l : List Bool) : List V := l.map V.bl
theorem bools_len {l : List Bool} : (bools l).length = l.length := List.length_map _
theorem bools_get {l : List Bool} {i : Nat} {b : Bool} (h : l[i]? = some b) : (bools l)[i]? = some (.bl b) := by unfold bools; rw [List.getElem?_map, h]; rfl
theorem bools_set {l : List Bool} {i : Nat} {b : Bool} : (bools l).set i (.bl b) = bools (l.set i b) := by unfold bools; rw [List.map_set]
theorem keep_mark {m : Addr} {xs : List V} {H H1 : Hp} (k : Keep [m] H H1) (h : H m = some (.lst xs)) : Tst H H1 := k.ts fun x hx => by cases List.mem_singleton.mp hx; exact .inl ⟨_, h⟩
def spMark (K : PySem.W.Frag) : Sp := fun vs H Q _ => ∃ (vt : V) (m : Addr) (t : Th) (ms : List Bool), vs = [vt, .ref m] ∧ Rp K H vt t.enc ∧ H m = some (.lst (bools ms)) ∧ (∀ k, t = .par k → k < ms.length) ∧ ∀ H', Keep [m] H H' → H' m = some (.lst (bools (markT t ms))) → Q .non H'
def spMarkHanded (K : PySem.W.Frag) : Sp := fun vs H Q _ => ∃ (ra sa ta m : Addr) (ts : List Th) (ws : List Str) (bs ms : List Bool), vs = [.ref ra, .ref sa, .ref ta, .ref m] ∧ SqT K H ra (ws.map V.str) ∧ SqT K H sa (bools bs) ∧ Rp K H (.ref ta) (.tuple (ts.map Th.enc)) ∧ H m = some (.lst (bools ms)) ∧
  ws.length = ts.length ∧ bs.length = ts.length ∧ (∀ t ∈ ts, ∀ k, t = .par k → k < ms.length) ∧ ∀ H', Keep [m] H H' → H' m = some (.lst (bools (markH ts ws bs ms))) → Q .non H'
/-- what is told of the works -/
def TRel (K : PySem.W.Frag) (H : Hp) (tv : List V) (told : List (List Bool)) : Prop := tv.length = told.length ∧ ∀ (k : Nat) (bs : List Bool), told[k]? = some bs → ∃ a, tv[k]? = some (.ref a) ∧ SqT K H a (bools bs)
theorem TRel.ts {H H1 : Hp} {tv : List V} {told : List (List Bool)} (r : TRel K H tv told) (t : Tst H H1) : TRel K H1 tv told := ⟨r.1, fun k bs e => by
  obtain ⟨a, h1, h2⟩ := r.2 k bs e
  exact ⟨a, h1, t.sqT h2⟩⟩
def spMarkBody (K : PySem.W.Frag) (n : Nat) : Sp := fun vs H Q _ => ∃ (vw vb : V) (ta m : Addr) (W : List (List Str)) (sh : List (Nat × Nat)) (i d : Nat) (b : Sts) (told : List (List Bool)) (tv : List V) (ms : List Bool), vs = [vw, .ref ta, vb, .ref m] ∧ Rp K H vw (encW W) ∧
  H ta = some (.lst tv) ∧ TRel K H tv told ∧ Rp K H vb (.tuple b.encs) ∧ H m = some (.lst (bools ms)) ∧ ta ≠ m ∧ d < n ∧ Sts.ok sh i d b ∧ (sh.getD i (0, 0)).1 = ms.length ∧ (∀ w, i < w → w < sh.length → (W.getD w []).length = (sh.getD w (0, 0)).1 ∧ (told.getD w []).length = (sh.getD w (0, 0)).1) ∧
  W.length = sh.length ∧ told.length = sh.length ∧ ∀ H', Keep [m] H H' → H' m = some (.lst (bools (markB W told b ms))) → Q .non H'
abbrev smark : Stmt := top 29
abbrev nmark : List Str := ["thing", "marks"]
abbrev pmark : List Str := ["thing", "marks"]
theorem scmark : FnScope nmark pmark (defScope smark) := ⟨rfl, rfl, rfl, by decide +kernel, rfl, by decide +kernel, by decide +kernel⟩
abbrev smark_handed : Stmt := top 28
abbrev nmark_handed : List Str := ["row", "sets", "things", "marks", "thing", "way", "is_set"]
abbrev pmark_handed : List Str := ["row", "sets", "things", "marks"]
theorem scmark_handed : FnScope nmark_handed pmark_handed (defScope smark_handed) := ⟨rfl, rfl, rfl, by decide +kernel, rfl, by decide +kernel, by decide +kernel⟩
abbrev smark_body : Stmt := top 27
abbrev nmark_body : List Str := ["ways", "told", "body", "marks", "step"]
abbrev pmark_body : List Str := ["ways", "told", "body", "marks"]
theorem scmark_body : FnScope nmark_body pmark_body (defScope smark_body) := ⟨rfl, rfl, rfl, by decide +kernel, rfl, by decide +kernel, by decide +kernel⟩
theorem okMark (D : DefAt K mg "mark" smark pmark) : Callee P w K mg base "mark" 1 pmark (spMark K) := by
  refine D.ok scmark (fun vs H Q E h => ?_) (fun f cdv A outer s H vs Q E hr h => ?_)
  · obtain ⟨vt, m, t, ms, rfl, _⟩ := h
    rfl
  obtain ⟨vt, m, t, ms, rfl, ht, hm, hk, q⟩ := h
  refine ⟨_, (pss_one (ps_if (pt_cmpR op_eq (pe_ix (ixT (K := K)) (pv 0) pe_int (fun _ _ => rfl)) pe_str (nomark _)) (pss_one (ps_asg pe_bl (pg_sub (pv 1) (pe_ix (ixT (K := K)) (pv 0) pe_int (fun _ _ => rfl)) set_list))) pss_nil)), ?_⟩
  cases t with
  | par k =>
    obtain ⟨a, rfl, hT⟩ := Th.inv_par ht
    have a0 : atI [V.str "par", .int (k : Int)] 0 = some (.str "par") := at0
    have a1 : atI [V.str "par", .int (k : Int)] 1 = some (.int (k : Int)) := at1
    have kl := hk k rfl
    walk_at "rd"
    refine r_setL (j := k) hm (Evl.ixN_nat (by rw [bools_len]; exact kl)) fun H1 h1 k1 => ?_
    rw [bools_set] at h1
    exact q H1 k1 h1
  | num k =>
    obtain ⟨a, rfl, hT⟩ := Th.inv_num ht
    have a0 : atI [V.str "num", .int (k : Int)] 0 = some (.str "num") := at0
    walk_at "rd"
    exact q H Keep.refl hm
  | own k =>
    obtain ⟨a, rfl, hT⟩ := Th.inv_own ht
    have a0 : atI [V.str "own", .int (k : Int)] 0 = some (.str "own") := at0
    walk_at "rd"
    exact q H Keep.refl hm
  | cell u =>
    obtain ⟨a, x, rfl, hT, _⟩ := Th.inv_cell ht
    have a0 : atI [V.str "cell", x] 0 = some (.str "cell") := at0
    walk_at "rd"
    exact q H Keep.refl hm
  | sum u v =>
    obtain ⟨a, x, y, rfl, hT, _, _⟩ := Th.inv_sum ht
    have a0 : atI [V.str "sum", x, y] 0 = some (.str "sum") := at0
    walk_at "rd"
    exact q H Keep.refl hm
theorem okMarkHanded (D : DefAt K mg "mark_handed" smark_handed pmark_handed) (T : Blt mg) (C_mark : Callee P w K mg base "mark" 1 pmark (spMark K)) : Callee P w K mg base "mark_handed" 2 pmark_handed (spMarkHanded K) := by
  refine D.ok scmark_handed (fun vs H Q E h => ?_) (fun f cdv A outer s H vs Q E hr h => ?_)
  · obtain ⟨ra, sa, ta, m, ts, ws, bs, ms, rfl, _⟩ := h
    rfl
  obtain ⟨ra, sa, ta, m, ts, ws, bs, ms, rfl, hra, hsa, hta, hm, lw, lb, hk, q⟩ := h
  obtain ⟨_, xs, ea, hT, hxs⟩ := hta.tup_inv
  cases ea
  have lx : xs.length = ts.length := by rw [hxs.length, List.length_map]
  generalize eG : markH ts ws bs ms = G at q
  refine ⟨_, (pss_one (ps_for PassesOwn.never rfl (pi_zipT3 (K := K) rfl T.zip (pa_cons (pv 2) (pa_cons (pv 0) (pa_cons (pv 1) pa_nil)))) (pgTup (K := K) (by rfl) (pgs_cons (pg_name (i := 4) scmark_handed.nd rfl (Or.inl rfl)) (pgs_cons (pg_name (i := 5) scmark_handed.nd rfl (Or.inl rfl)) (pgs_cons (pg_name (i := 6) scmark_handed.nd rfl (Or.inl rfl)) pgs_nil))))
   (pss_one (ps_if (PW.pt (pw_and (pt_val (pv 6)) (pw_and1 (pt_cmpR op_ne (pv 5) pe_str (nomark _))))) (pss_one (ps_expr (pcall C_mark (hr.mono (by omega)) rfl (pa_cons (pv 4) (pa_cons (pv 3) pa_nil))))) pss_nil)))), ?_⟩
  walk_at "rd"
  refine forZT3 (xs := xs) (ys := ws.map V.str) (zs := bools bs) (by rw [List.length_map]; omega) (by rw [bools_len]; omega) (fun i σ H' => ∃ (x4 x5 x6 : Option V) (cur : List Bool), σ = [some (.ref ra), some (.ref sa), some (.ref ta), some (.ref m), x4, x5, x6] ∧ Keep [m] H H' ∧ H' m = some (.lst (bools cur)) ∧ cur.length = ms.length ∧
    markH (ts.drop i) (ws.drop i) (bs.drop i) cur = G) ⟨_, _, _, ms, rfl, Keep.refl, hm, rfl, eG⟩ (fun i σ H' hp => ?_) (fun i x y z Tp σ H' H1 hx hy hz hp nT hTp k1 => ?_) (fun σ H' hp => ?_)
  · obtain ⟨x4, x5, x6, cur, rfl, k, h, _, _⟩ := hp
    have t := keep_mark k hm
    exact ⟨t.sqT hT, t.sqT hra, t.sqT hsa⟩
  · obtain ⟨x4, x5, x6, cur, rfl, k, h, lc, e⟩ := hp
    have t := keep_mark k hm
    obtain ⟨dd, ed, rd⟩ := hxs.get' hx
    rw [List.getElem?_map] at ed hy
    obtain ⟨tt, ett, rfl⟩ := Option.map_eq_some_iff.mp ed
    obtain ⟨ww, eww, rfl⟩ := Option.map_eq_some_iff.mp hy
    unfold bools at hz
    rw [List.getElem?_map] at hz
    obtain ⟨bb, ebb, rfl⟩ := Option.map_eq_some_iff.mp hz
    have h1 := k1 _ _ h (by simp)
    obtain ⟨l1, e1⟩ := List.getElem?_eq_some_iff.mp ett
    obtain ⟨l2, e2⟩ := List.getElem?_eq_some_iff.mp eww
    obtain ⟨l3, e3⟩ := List.getElem?_eq_some_iff.mp ebb
    rw [List.drop_eq_getElem_cons l1, List.drop_eq_getElem_cons l2, List.drop_eq_getElem_cons l3, e1, e2, e3] at e
    unfold markH at e
    have k01 : Keep [m] H H1 := k.by0 k1
    walk_at "rd"
    refine r_andP (a := bb) (b := !decide (V.str ww = V.str "copy")) (fun R hr => by walk_at "rd"; exact hr) (fun _ R hr => by walk_at "rd"; exact hr) ?_
    have ec : (bb && !decide (V.str ww = V.str "copy")) = decide (bb = true ∧ ww ≠ "copy") := by
      cases bb with
      | false => simp
      | true => simp
    rw [ec]
    by_cases c : bb = true ∧ ww ≠ "copy"
    · rw [if_pos c] at e
      rw [if_pos (decide_eq_true c)]
      walk_at "rd"
      refine ask ⟨x, m, tt, cur, rfl, (rd.ts t).ts (kts0 k1), h1, fun j ej => by rw [lc]; exact hk tt (List.mem_of_getElem? ett) j ej, fun H2 k2 h2 => ?_⟩
      walk_at "rd"
      exact ⟨_, _, _, _, rfl, k01.trans k2, h2, by rw [markT_len]; exact lc, e⟩
    · rw [if_neg c] at e
      rw [if_neg (by rw [decide_eq_false c]; exact Bool.false_ne_true)]
      walk_at "rd"
      exact ⟨_, _, _, _, rfl, k01, h1, lc, e⟩
  · obtain ⟨x4, x5, x6, cur, rfl, k, h, lc, e⟩ := hp
    rw [lx, List.drop_length] at e
    unfold markH at e
    rw [e] at h
    walk_at "rd"
    exact q H' k h
theorem Th.ok_par_lt {p o d k : Nat} (h : Th.ok p o d (.par k)) : k < p := by cases d <;> exact h
theorem okMarkBody {n : Nat} (D : DefAt K mg "mark_body" smark_body pmark_body) (C_mark : Callee P w K mg base "mark" 1 pmark (spMark K)) (C_mark_handed : Callee P w K mg base "mark_handed" 2 pmark_handed (spMarkHanded K)) (C_mark_body : Callee P w K mg base "mark_body" (n + 2) pmark_body (spMarkBody K n)) :
    Callee P w K mg base "mark_body" (n + 3) pmark_body (spMarkBody K (n + 1)) := by
  refine D.ok scmark_body (fun vs H Q E h => ?_) (fun f cdv A outer s H vs Q E hr h => ?_)
  · obtain ⟨vw, vb, ta, m, W, sh, i, d, b, told, tv, ms, rfl, _⟩ := h
    rfl
  obtain ⟨vw, vb, ta, m, W, sh, i, d, b, told, tv, ms, rfl, hw, hta, tr, hb, hm, nt, dn, ok, hi, hl, lW, lT, q⟩ := h
  obtain ⟨bp, xs, rfl, hT, hxs⟩ := hb.tup_inv
  generalize eG : markB W told b ms = G at q
  refine ⟨_, (pss_one (ps_for PassesOwn.never rfl (piTup (K := K) (pv 2)) (pg_name (i := 4) scmark_body.nd rfl (Or.inl rfl))
   (pss_one (ps_if (pt_cmpR op_eq (pe_ix (ixT (K := K)) (pv 4) pe_int (fun _ _ => rfl)) pe_str (nomark _)) (pss_one (ps_expr (pcall C_mark (hr.mono (by omega)) rfl (pa_cons (pe_ix (ixT (K := K)) (pv 4) pe_int (fun _ _ => rfl)) (pa_cons (pv 3) pa_nil))))) (pss_one (ps_if (pt_cmpR op_eq (pe_ix (ixT (K := K)) (pv 4) pe_int (fun _ _ => rfl)) pe_str (nomark _)) (pss_cons (ps_expr (pcall C_mark_body (hr.mono (by omega)) rfl (pa_cons (pv 0) (pa_cons (pv 1) (pa_cons (pe_ix (ixT (K := K)) (pv 4) pe_int (fun _ _ => rfl)) (pa_cons (pv 3) pa_nil))))))
  (pss_one (ps_expr (pcall C_mark_body (hr.mono (by omega)) rfl (pa_cons (pv 0) (pa_cons (pv 1) (pa_cons (pe_ix (ixT (K := K)) (pv 4) pe_int (fun _ _ => rfl)) (pa_cons (pv 3) pa_nil)))))))) (pss_one (ps_if (pt_cmpR op_eq (pe_ix (ixT (K := K)) (pv 4) pe_int (fun _ _ => rfl)) pe_str (nomark _)) (pss_one (ps_expr (pcall C_mark_handed (hr.mono (by omega)) rfl (pa_cons (pe_ix (ixT (K := K)) (pv 0) (pe_ix (ixT (K := K)) (pv 4) pe_int (fun _ _ => rfl)) (fun _ _ => rfl)) (pa_cons (pe_ix (ixL (K := K)) (pv 1) (pe_ix (ixT (K := K)) (pv 4) pe_int (fun _ _ => rfl)) (fun _ _ => rfl)) (pa_cons (pe_ix (ixT (K := K)) (pv 4) pe_int (fun _ _ => rfl)) (pa_cons (pv 3) pa_nil))))))) pss_nil)))))))), ?_⟩
  walk_at "rd"
  refine forT (xs := xs) (fun j σ H' => ∃ (x4 : Option V) (cur : List Bool), σ = [some vw, some (.ref ta), some (.ref bp), some (.ref m), x4] ∧ Keep [m] H H' ∧ H' m = some (.lst (bools cur)) ∧ cur.length = ms.length ∧ markB W told (b.drop j) cur = G ∧ Sts.ok sh i d (b.drop j)) ⟨_, ms, rfl, Keep.refl, hm, rfl, eG, ok⟩ (fun j σ H' _ hp => ?_) (fun j x σ H' hx hp => ?_) (fun σ H' hp => ?_)
  · obtain ⟨x4, cur, rfl, k, h, _, _, _⟩ := hp
    exact (keep_mark k hm).sqT hT
  · obtain ⟨x4, cur, rfl, k, h, lc, e, okd⟩ := hp
    have t := keep_mark k hm
    obtain ⟨dd, ed, rd⟩ := hxs.get' hx
    obtain ⟨st, rfl, est⟩ := Sts.drop_get ed
    rw [est] at e okd
    unfold Sts.ok at okd
    unfold markB at e
    obtain ⟨oks, okr⟩ := okd
    have hw' := hw.ts t
    have rd' := rd.ts t
    have hta' := k _ _ hta (by simpa using nt)
    have tr' := tr.ts t
    cases st with
    | set p u =>
      obtain ⟨a, x1, x2, rfl, hS, h1, h2⟩ := St.inv_set rd'
      have b0 : atI [V.str "set", x1, x2] 0 = some (.str "set") := at0
      have b1 : atI [V.str "set", x1, x2] 1 = some x1 := at1
      unfold markS at e
      obtain ⟨_, okp, _⟩ := St.ok_set' oks
      walk_at "rd"
      refine ask ⟨x1, m, p, cur, rfl, h1, h, fun kk ek => by subst ek; rw [lc, ← hi]; exact Th.ok_par_lt okp, fun H2 k2 h2 => ?_⟩
      walk_at "rd"
      exact ⟨_, _, rfl, k.trans k2, h2, by rw [markT_len]; exact lc, e, okr⟩
    | say u =>
      obtain ⟨a, x1, rfl, hS, h1⟩ := St.inv_say rd'
      have b0 : atI [V.str "say", x1] 0 = some (.str "say") := at0
      unfold markS at e
      walk_at "rd"
      exact ⟨_, _, rfl, k, h, lc, e, okr⟩
    | ite u b1 b2 =>
      cases d with
      | zero => exact (by unfold St.ok at oks; exact oks : False).elim
      | succ d =>
        unfold St.ok at oks
        obtain ⟨a, x1, x2, x3, rfl, hS, h1, h2, h3⟩ := St.inv_ite rd'
        have c0 : atI [V.str "if", x1, x2, x3] 0 = some (.str "if") := at0
        have c2 : atI [V.str "if", x1, x2, x3] 2 = some x2 := at2
        have c3 : atI [V.str "if", x1, x2, x3] 3 = some x3 := at3
        unfold markS at e
        walk_at "rd"
        refine ask ⟨vw, x2, ta, m, W, sh, i, d, b1, told, tv, cur, rfl, hw', hta', tr', h2, h, nt, by omega, oks.2.1, by rw [lc]; exact hi, hl, lW, lT, fun H2 k2 m2 => ?_⟩
        have t2 := keep_mark k2 h
        have hS2 := t2.sqT hS
        walk_at "rd"
        refine ask ⟨vw, x3, ta, m, W, sh, i, d, b2, told, tv, _, rfl, hw'.ts t2, k2 _ _ hta' (by simpa using nt), tr'.ts t2, h3.ts t2, m2, nt, by omega, oks.2.2, by rw [markB_len, lc]; exact hi, hl, lW, lT, fun H3 k3 m3 => ?_⟩
        walk_at "rd"
        exact ⟨_, _, rfl, (k.trans k2).trans k3, m3, by rw [markB_len, markB_len]; exact lc, e, okr⟩
    | call kk ts =>
      obtain ⟨a, x1, rfl, hS, h1⟩ := St.inv_call rd'
      have c0 : atI [V.str "call", .int (kk : Int), x1] 0 = some (.str "call") := at0
      have c1 : atI [V.str "call", .int (kk : Int), x1] 1 = some (.int (kk : Int)) := at1
      have c2 : atI [V.str "call", .int (kk : Int), x1] 2 = some x1 := at2
      unfold markS at e
      obtain ⟨ik, kl, lt, okt⟩ := St.ok_call' oks
      obtain ⟨l1, l2⟩ := hl kk ik kl
      obtain ⟨tp, ys, rfl, hTy, hys⟩ := h1.tup_inv
      obtain ⟨wp, zs, rfl, hTz, hzs⟩ := hw'.tup_inv
      have kW : kk < W.length := by omega
      have kT : kk < told.length := by omega
      have eW : W[kk]? = some W[kk] := List.getElem?_eq_getElem kW
      have eT : told[kk]? = some told[kk] := List.getElem?_eq_getElem kT
      have gW : W.getD kk [] = W[kk] := by rw [List.getD_eq_getElem?_getD, eW]; rfl
      have gT : told.getD kk [] = told[kk] := by rw [List.getD_eq_getElem?_getD, eT]; rfl
      rw [gW] at l1 e
      rw [gT] at l2 e
      obtain ⟨v1, ev1, rv1⟩ := hzs.get (i := kk) (d := .tuple (W[kk].map PyData.str)) (by rw [List.getElem?_map, eW]; rfl)
      obtain ⟨ra, us, rfl, hTu, hus⟩ := rv1.tup_inv
      have eus := rps_strs hus
      subst eus
      obtain ⟨sa, es, hTs⟩ := tr'.2 kk _ eT
      have d1 := atI_nat ev1
      have d2 := atI_nat es
      walk_at "rd"
      refine ask ⟨ra, sa, tp, m, ts, W[kk], told[kk], cur, rfl, hTu, hTs, h1, h, by rw [l1, lt], by rw [l2, lt], fun u hu j ej => by subst ej; rw [lc, ← hi]; exact Th.ok_par_lt (okt _ hu), fun H2 k2 m2 => ?_⟩
      walk_at "rd"
      exact ⟨_, _, rfl, k.trans k2, m2, by rw [markH_len]; exact lc, e, okr⟩
  · obtain ⟨x4, cur, rfl, k, h, lc, e, okd⟩ := hp
    have lv : xs.length = b.encs.length := hxs.length
    rw [lv, Sts.drop_all] at e
    unfold markB at e
    rw [e] at h
    walk_at "rd"
    exact q H' k h
theorem okMarkBodies (D : DefAt K mg "mark_body" smark_body pmark_body) (C_mark : Callee P w K mg base "mark" 1 pmark (spMark K)) (C_mark_handed : Callee P w K mg base "mark_handed" 2 pmark_handed (spMarkHanded K)) : ∀ n, Callee P w K mg base "mark_body" (n + 2) pmark_body (spMarkBody K n)
  | 0 => D.none fun vs H Q E h => by
    obtain ⟨_, _, _, _, _, _, _, d, _, _, _, _, _, _, _, _, _, _, _, dn, _⟩ := h
    omega
  | n + 1 => okMarkBody D C_mark C_mark_handed (okMarkBodies D C_mark C_mark_handed n)
end
end Hw
namespace Hw
open PySem PySem.Spec PyProof.Rows L2
local macro_rules | `(tactic| walk_at "sz") => `(tactic| first | exact Nat.le_of_ble_eq_true rfl | exact small (by first | omega | (simp; done) | (simp; omega)))
local macro_rules | `(tactic| walk_at "szT") => `(tactic| first | exact Nat.lt_of_lt_of_le (Nat.lt_succ_self _) (Nat.le_of_ble_eq_true rfl) | exact smallT (by first | omega | (simp; done) | (simp; omega)))
local macro_rules | `(tactic| walk_at "cond") => `(tactic| first | decide | omega | (dsimp only; omega) | exact ⟨by omega, by omega⟩ | exact .inr ⟨by decide, by decide⟩)
local macro_rules | `(tactic| walk_at "sq") => `(tactic| first | assumption | exact SqL.of (by assumption) | exact SqT.of (by assumption))
local macro_rules | `(tactic| walk_at "ty") => `(tactic| first | (with_reducible assumption) | exact .base (.int _) | exact .base (.str _) | exact .base (.bl _) | exact .base .non | exact tyT (by walk_at "sq") | exact tyL (by walk_at "sq"))
local macro_rules | `(tactic| walk_at "rd1") => `(tactic| first
  | ((with_reducible apply r_seq))
  | ((with_reducible apply r_asg))
  | ((with_reducible apply r_name))
  | ((with_reducible apply r_op))
  | ((with_reducible apply r_var); exact rfl)
  | ((with_reducible apply r_c))
  | ((with_reducible apply r_ixT); (walk_at "sq"); first | exact rfl | assumption)
  | ((with_reducible apply r_ixL); (walk_at "sq"); first | exact rfl | assumption)
  | ((with_reducible apply r_ixA); (first | exact .inl (by walk_at "sq") | exact .inr (by walk_at "sq")); first | exact rfl | assumption)
  | ((with_reducible apply r_isi); (walk_at "ty"); (decide +kernel))
  | ((with_reducible apply r_isiT2); assumption; (walk_at "ty"); (decide +kernel); (decide +kernel))
  | ((with_reducible apply r_I0))
  | ((with_reducible apply r_I); (walk_at "cond"))
  | ((with_reducible apply r_eq); exact rfl)
  | ((with_reducible apply r_ne); exact rfl)
  | ((with_reducible apply r_test))
  | ((with_reducible apply r_bl))
  | ((with_reducible apply r_if))
  | ((with_reducible apply r_nil))
  | ((with_reducible apply r_cons))
  | ((with_reducible apply r_call))
  | ((with_reducible apply r_cb))
  | ((with_reducible apply r_tup))
  | ((with_reducible apply r_lst))
  | ((with_reducible apply new); (walk_at "sz"))
  | ((with_reducible apply r_ret))
  | ((with_reducible apply r_retN))
  | ((with_reducible apply r_next))
  | ((with_reducible apply r_drop))
  | ((with_reducible apply r_lenL); (walk_at "sq"))
  | ((with_reducible apply r_lenT); (walk_at "sq"))
  | ((with_reducible apply r_int))
  | ((with_reducible apply r_intB))
  | ((with_reducible apply r_isN))
  | ((with_reducible apply r_notN))
  | ((with_reducible apply r_B))
  | ((with_reducible apply r_not))
  | ((with_reducible apply r_notV))
  | ((with_reducible apply r_andV))
  | ((with_reducible apply r_orV))
  | ((with_reducible apply r_ifE))
  | ((with_reducible apply r_chain))
  | ((with_reducible apply ite_t); (first | (with_reducible exact nRN) | (with_reducible exact nIN) | (with_reducible exact dNN) | decide +kernel))
  | ((with_reducible apply ite_f); (first | (with_reducible exact dRN) | (with_reducible exact dIN) | (with_reducible exact nNN) | decide +kernel))
  | ((with_reducible apply r_in); (first | exact .inl (by walk_at "sq") | exact .inr (by walk_at "sq")); exact rfl; (first | exact nums_flat | exact rfl))
  | ((with_reducible apply turn))
  | ((with_reducible apply r_for))
  | ((with_reducible apply r_iRng1))
  | ((with_reducible apply r_rng); (first | decide | omega | (simp; omega)); (first | decide | omega | (simp; omega)))
  | ((with_reducible apply r_iList))
  | ((with_reducible apply r_iTup))
  | ((with_reducible apply r_overL); (walk_at "sq"))
  | ((with_reducible apply r_overT); (walk_at "sq"))
  | ((with_reducible apply r_lc))
  | ((with_reducible apply acc); assumption; (walk_at "szT"))
  | ((with_reducible apply r_sub))
  | ((with_reducible apply r_setL); assumption; exact rfl)
  | ((with_reducible apply r_gtup); (walk_at "sq"); rfl)
  | ((with_reducible apply r_gnil))
  | ((with_reducible apply r_gcons))
  | ((with_reducible apply r_par))
  | ((with_reducible apply r_par2))
  | ((with_reducible apply r_sl))
  | ((with_reducible apply r_part))
  | ((with_reducible apply r_part1))
  | ((with_reducible apply r_noPart))
  | ((with_reducible apply r_slL); (walk_at "sq"))
  | ((with_reducible apply r_slA); (walk_at "sq"))
  | ((with_reducible apply r_tupL); (walk_at "sq"))
  | ((with_reducible apply r_tupT); (walk_at "sq"))
  | ((with_reducible apply r_lstL); (walk_at "sq"))
  | ((with_reducible apply r_lstT); (walk_at "sq"))
  | ((with_reducible apply r_append))
  | ((with_reducible apply r_isL); (walk_at "sq"))
  | ((with_reducible apply r_app); assumption; (walk_at "szT"))
  | ((with_reducible apply r_dget))
  | ((with_reducible apply r_dgetS); assumption; (walk_at "dk"))
  | ((with_reducible apply r_dput))
  | ((with_reducible apply r_dputS); assumption; (walk_at "szT"))
  | ((with_reducible apply r_disp))
  | ((with_reducible apply r_pnil))
  | ((with_reducible apply r_pcons))
  | ((with_reducible apply r_fld))
  | ((with_reducible apply r_fld1); assumption; assumption; assumption; (first | exact rfl | assumption))
  | ((with_reducible apply r_sfld))
  | ((with_reducible apply r_sfld1); assumption; assumption; assumption; exact (by decide)))
local macro_rules | `(tactic| walk_at "rd") => `(tactic| repeat walk_at "rd1")
local macro_rules | `(tactic| walk_at "lk") => `(tactic| first | (with_reducible exact cell_number) | (with_reducible exact cell_loans) | (with_reducible exact frame_owns) | (with_reducible exact frame_handed) | (with_reducible exact frame_roads) | (with_reducible exact want_thing) | (with_reducible exact want_frame) | (with_reducible exact run_program) | (with_reducible exact run_ways) | (with_reducible exact run_commons) | (with_reducible exact run_said) | (with_reducible exact run_lent) | (with_reducible exact run_mixed))
local macro_rules | `(tactic| walk_at "rd1") => `(tactic| first
  | ((with_reducible apply r_enumT))
  | ((with_reducible apply r_overE); (walk_at "sq"))
  | ((with_reducible apply r_zipA))
  | ((with_reducible apply r_zipT); (walk_at "sq"); (walk_at "sq"))
  | ((with_reducible apply r_zip3))
  | ((with_reducible apply r_overZ3); (walk_at "sq"); (walk_at "sq"); (walk_at "sq"))
  | ((with_reducible apply r_make))
  | ((with_reducible apply r_isiC); assumption; assumption; assumption)
  | ((with_reducible apply r_popM))
  | ((with_reducible apply r_pop); assumption)
  | ((with_reducible apply r_tru))
  | ((with_reducible apply r_truL); (walk_at "sq"))
  | ((with_reducible apply r_fld1); assumption; assumption; assumption; (walk_at "lk"))
  | ((with_reducible apply r_sfld1); assumption; assumption; assumption; exact Nat.le_of_ble_eq_true rfl))
local macro_rules | `(tactic| walk_at "rd1") => `(tactic| first
  | ((with_reducible apply r_revR))
  | ((with_reducible apply r_revOf); (first | omega | decide))
  | ((with_reducible apply r_zipT3))
  | ((with_reducible apply r_overZT3); (walk_at "sq"); (walk_at "sq"); (walk_at "sq"))
  | ((with_reducible apply r_rep1); assumption; (first | omega | (simp; omega))))
section
variable {P : Program} {w : World} {K : PySem.W.Frag} {mg : Str → Option Value} {base : Heap}
/-! ### sets.py: may_set -/
def encB (T : List (List Bool)) : PyData := .tuple (T.map fun bs => .tuple (bs.map PyData.bool))
theorem bools_rps {H : Hp} : ∀ {l : List Bool}, Rps K H (bools l) (l.map PyData.bool)
  | [] => .nil
  | b :: l => .cons (.bl b) bools_rps
theorem TRel.rps {H : Hp} : ∀ {tv : List V} {told : List (List Bool)}, TRel K H tv told → Rps K H tv (told.map fun bs => PyData.tuple (bs.map PyData.bool))
  | [], [], _ => .nil
  | v :: tv, bs :: told, r => by
    obtain ⟨a, h1, h2⟩ := r.2 0 bs rfl
    cases h1
    exact .cons (.tup h2 bools_rps) (TRel.rps ⟨Nat.succ.inj r.1, fun k bs e => r.2 (k + 1) bs e⟩)
  | [], _ :: _, r => by cases r.1
  | _ :: _, [], r => by cases r.1
theorem TRel.set {H : Hp} {tv : List V} {told : List (List Bool)} {i : Nat} {a : Addr} {bs : List Bool} (r : TRel K H tv told) (h : SqT K H a (bools bs)) : TRel K H (tv.set i (.ref a)) (told.set i bs) := by
  refine ⟨by rw [List.length_set, List.length_set]; exact r.1, fun k cs e => ?_⟩
  rw [List.getElem?_set] at e ⊢
  have l := r.1
  by_cases c : i = k
  · rw [if_pos c] at e ⊢
    by_cases d : i < told.length
    · rw [if_pos d] at e
      cases e
      exact ⟨a, by rw [if_pos (by omega)], h⟩
    · rw [if_neg d] at e
      cases e
  · rw [if_neg c] at e ⊢
    exact r.2 k cs e
theorem shapes_params {P : List Wk} {i : Nat} : ((shapes P).getD i (0, 0)).1 = (P.getD i ⟨0, 0, .nil⟩).params := by
  unfold shapes
  rw [List.getD_eq_getElem?_getD, List.getD_eq_getElem?_getD, List.getElem?_map]
  cases P[i]? <;> rfl
def spMaySet (K : PySem.W.Frag) : Sp := fun vs H Q _ => ∃ (vp vw : V) (PP : List Wk) (W : List (List Str)) (mm : Nat), vs = [vp, vw] ∧ Rp K H vp (encP PP) ∧ Rp K H vw (encW W) ∧ Good PP mm ∧ mm ≤ 100 ∧ WaysOk PP W ways4 ∧
  ∀ (v : V) (H' : Hp), Keep [] H H' → Rp K H' v (encB (maySet PP W)) → Q v H'
abbrev smay_set : Stmt := top 26
abbrev nmay_set : List Str := ["program", "ways", "told", "at", "params", "owns", "body", "marks"]
abbrev pmay_set : List Str := ["program", "ways"]
theorem scmay_set : FnScope nmay_set pmay_set (defScope smay_set) := ⟨rfl, rfl, rfl, by decide +kernel, rfl, by decide +kernel, by decide +kernel⟩
theorem okMaySet (D : DefAt K mg "may_set" smay_set pmay_set) (T : Blt mg) (T2 : Blt2 mg) (C_need_ways : Callee P w K mg base "need_ways" 19 pneed_ways (spNeedWays K)) (C_mark_body : Callee P w K mg base "mark_body" 5 pmark_body (spMarkBody K 3)) :
    Callee P w K mg base "may_set" 20 pmay_set (spMaySet K) := by
  refine D.ok scmay_set (fun vs H Q E h => ?_) (fun f cdv A outer s H vs Q E hr h => ?_)
  · obtain ⟨vp, vw, PP, W, mm, rfl, _⟩ := h
    rfl
  obtain ⟨vp, vw, PP, W, mm, rfl, hp, hw, gd, m1, wo, q⟩ := h
  have few := gd.few
  refine ⟨_, (pss_cons (ps_expr (pcall C_need_ways (hr.mono (by omega)) rfl (pa_cons (pv 0) (pa_cons (pv 1) pa_nil))))
  (pss_cons (ps_set (i := 2) scmay_set.nd rfl (Or.inl rfl) (pe_op op_rep (pe_lst (pa_cons (pe_tup pa_nil) pa_nil)) (pe_callB (cLen (K := K)) (by rfl) T.len PySem.boot_len (pa_cons (pv 0) pa_nil))))
  (pss_cons (ps_for PassesOwn.never rfl (pi_revR rfl T2.reversed (prg_1 rfl T.range (pe_callB (cLen (K := K)) (by rfl) T.len PySem.boot_len (pa_cons (pv 0) pa_nil)))) (pg_name (i := 3) scmay_set.nd rfl (Or.inl rfl))
   (pss_cons (ps_asg (pe_ix (ixT (K := K)) (pv 0) (pv 3) (fun _ _ => rfl)) (pgTup (K := K) (by rfl) (pgs_cons (pg_name (i := 4) scmay_set.nd rfl (Or.inl rfl)) (pgs_cons (pg_name (i := 5) scmay_set.nd rfl (Or.inl rfl)) (pgs_cons (pg_name (i := 6) scmay_set.nd rfl (Or.inl rfl)) pgs_nil)))))
  (pss_cons (ps_set (i := 7) scmay_set.nd rfl (Or.inl rfl) (pe_op op_rep (pe_lst (pa_cons pe_bl pa_nil)) (pv 4)))
  (pss_cons (ps_expr (pcall C_mark_body (hr.mono (by omega)) rfl (pa_cons (pv 1) (pa_cons (pv 2) (pa_cons (pv 6) (pa_cons (pv 7) pa_nil))))))
  (pss_one (ps_asg (pe_callTy (cTuple (K := K)) (by rfl) T.tuple (by decide +kernel) (pa_cons (pv 7) pa_nil)) (pg_sub (pv 2) (pv 3) set_list)))))))
  (pss_one (ps_ret (pe_callTy (cTuple (K := K)) (by rfl) T.tuple (by decide +kernel) (pa_cons (pv 2) pa_nil))))))), ?_⟩
  walk_at "rd"
  refine ask ⟨vp, vw, PP, W, mm, rfl, hp, hw, gd, m1, wo, fun H1 k1 => ?_⟩
  obtain ⟨a1, xs1, rfl, hT, hl1, hat⟩ := encP_at (hp.ts (kts0 k1))
  have hw1 := hw.ts (kts0 k1)
  walk_at "rd"
  intro t0 H2 nt0 ht0 k2
  walk_at "rd"
  intro l0 H3 nl0 hl0 k3
  have hT3 := ((kts0 k2).trans (kts0 k3)).sqT hT
  have ht03 := k3 _ _ ht0 (by simp)
  walk_at "rd"
  intro ta H4 nta hta k4
  rw [hl1] at hta
  have hT4 := (kts0 k4).sqT hT3
  have ht04 := k4 _ _ ht03 (by simp)
  have k14 := (k2.trans k3).trans k4
  have k04 := k1.trans k14
  have n0 : H ta = none := free0 ((k1.trans k2).trans k3) nta
  walk_at "rd"
  have tr0 : TRel K H4 (List.replicate PP.length (V.ref t0)) (toldF PP W 0) := by
    unfold toldF
    refine ⟨by rw [List.length_replicate, List.length_replicate], fun k bs e => ?_⟩
    have hb := (List.mem_replicate.mp (List.mem_of_getElem? e)).2
    subst hb
    have hk := (List.getElem?_eq_some_iff.mp e).1
    rw [List.length_replicate] at hk
    exact ⟨t0, by rw [List.getElem?_replicate, if_pos hk], SqT.of ht04⟩
  refine forRev (m := xs1.length) (fun i σ H' => ∃ (x3 x4 x5 x6 x7 : Option V) (tv : List V), σ = [some (.ref a1), some vw, some (.ref ta), x3, x4, x5, x6, x7] ∧ Keep [ta] H4 H' ∧ H' ta = some (.lst tv) ∧ TRel K H' tv (toldF PP W i)) ⟨_, _, _, _, _, _, rfl, Keep.refl, hta, tr0⟩ (fun i σ H5 hi hp5 => ?_) (fun σ H5 hp5 => ?_)
  · obtain ⟨x3, x4, x5, x6, x7, tv, rfl, k5, hta5, tr5⟩ := hp5
    have t45 : Tst H4 H5 := keep_mark k5 hta
    have hj : xs1.length - 1 - i < PP.length := by omega
    generalize ej : xs1.length - 1 - i = j at hj
    rw [hl1] at ej
    have ew : PP[j]? = some PP[j] := List.getElem?_eq_getElem hj
    obtain ⟨wp, vb, ap1, hW1, hB⟩ := hat j PP[j] ew
    have t15 : Tst H1 H5 := (kts0 k14).trans t45
    have hT5 := t45.sqT hT4
    have hW5 := t15.sqT hW1
    have hB5 := hB.ts t15
    have p3 := gd.params _ (List.getElem_mem hj)
    walk_at "rd"
    intro lf H6 nlf hlf k6
    have hta6 := k6 _ _ hta5 (by simp)
    walk_at "rd"
    intro m H7 nm hm k7
    have hta7 := k7 _ _ hta6 (by simp)
    have tm : ta ≠ m := fun z => by rw [← z, hta6] at nm; cases nm
    have k57 := k6.trans k7
    have t57 := kts0 k57
    have tr7 := tr5.ts t57
    have hm' : H7 m = some (.lst (bools (List.replicate PP[j].params false))) := by
      rw [hm]; unfold bools; rw [List.map_replicate]
    have gsh : ((shapes PP).getD j (0, 0)).1 = PP[j].params := by rw [shapes_params, List.getD_eq_getElem?_getD, ew]; rfl
    have lsh : (shapes PP).length = PP.length := by unfold shapes; exact List.length_map _
    have ltold := toldF_len (P := PP) (W := W) i
    walk_at "rd"
    refine ask ⟨vw, vb, ta, m, W, shapes PP, j, 2, PP[j].body, toldF PP W i, tv, List.replicate PP[j].params false, rfl, (hw1.ts t15).ts t57, hta7, tr7, hB5.ts t57, hm', tm, by omega, gd.body j _ ew, by rw [gsh, List.length_replicate], fun w' h1 h2 => ?_, by rw [lsh]; exact wo.1, by rw [lsh]; exact ltold, fun H8 k8 h8 => ?_⟩
    · rw [lsh] at h2
      have ew' : PP[w']? = some PP[w'] := List.getElem?_eq_getElem h2
      have hwl : w' < W.length := by rw [wo.1]; exact h2
      have eW' : W[w']? = some W[w'] := List.getElem?_eq_getElem hwl
      refine ⟨?_, ?_⟩
      · rw [shapes_params, List.getD_eq_getElem?_getD, eW', List.getD_eq_getElem?_getD, ew']
        exact (wo.2 w' _ _ ew' eW').1
      · rw [shapes_params]
        exact toldF_row i w' (by omega) (by omega) h2
    have t78 := keep_mark k8 hm'
    have hta8 := k8 _ _ hta7 (by simpa using tm)
    walk_at "rd"
    intro tp H9 ntp htp k9
    have hta9 := k9 _ _ hta8 (by simp)
    have tr9 := (tr7.ts t78).ts (kts0 k9)
    have l9 : j < tv.length := by rw [tr5.1, ltold]; exact hj
    walk_at "rd"
    refine r_setL (j := j) hta9 (Evl.ixN_nat l9) fun H10 h10 k10 => ?_
    have t910 := keep_mark k10 hta9
    refine ⟨_, _, _, _, _, _, rfl, ?_, h10, ?_⟩
    · have k59 : Keep [] H5 H9 := ((k57.fresh1 k8 (free0 k6 nm))).trans k9
      exact (k5.by0 k59).trans k10
    · have e : toldF PP W (i + 1) = (toldF PP W i).set j (markB W (toldF PP W i) PP[j].body (List.replicate PP[j].params false)) := by
        subst ej
        show (match PP[PP.length - 1 - i]? with
          | some wk => (toldF PP W i).set (PP.length - 1 - i) (markB W (toldF PP W i) wk.body (List.replicate wk.params false))
          | none => toldF PP W i) = _
        rw [ew]
      rw [e]
      exact (tr9.ts t910).set (t910.sqT (SqT.of htp))
  · obtain ⟨x3, x4, x5, x6, x7, tv, rfl, k5, hta5, tr5⟩ := hp5
    rw [hl1] at tr5
    walk_at "rd"
    intro tr H6 ntr htr k6
    exact q _ H6 (k04.fresh1 (k5.by0 k6) n0) (.tup (SqT.of htr) (tr5.ts (kts0 k6)).rps)
end
end Hw
namespace Hw
open PySem PySem.Spec PyProof.Rows L2
local macro_rules | `(tactic| walk_at "sz") => `(tactic| first | exact Nat.le_of_ble_eq_true rfl | exact small (by first | omega | (simp; done) | (simp; omega)))
local macro_rules | `(tactic| walk_at "szT") => `(tactic| first | exact Nat.lt_of_lt_of_le (Nat.lt_succ_self _) (Nat.le_of_ble_eq_true rfl) | exact smallT (by first | omega | (simp; done) | (simp; omega)))
local macro_rules | `(tactic| walk_at "cond") => `(tactic| first | decide | omega | (dsimp only; omega) | exact ⟨by omega, by omega⟩ | exact .inr ⟨by decide, by decide⟩)
local macro_rules | `(tactic| walk_at "sq") => `(tactic| first | assumption | exact SqL.of (by assumption) | exact SqT.of (by assumption))
local macro_rules | `(tactic| walk_at "ty") => `(tactic| first | (with_reducible assumption) | exact .base (.int _) | exact .base (.str _) | exact .base (.bl _) | exact .base .non | exact tyT (by walk_at "sq") | exact tyL (by walk_at "sq"))
local macro_rules | `(tactic| walk_at "rd1") => `(tactic| first
  | ((with_reducible apply r_seq))
  | ((with_reducible apply r_asg))
  | ((with_reducible apply r_name))
  | ((with_reducible apply r_op))
  | ((with_reducible apply r_var); exact rfl)
  | ((with_reducible apply r_c))
  | ((with_reducible apply r_ixT); (walk_at "sq"); first | exact rfl | assumption)
  | ((with_reducible apply r_ixL); (walk_at "sq"); first | exact rfl | assumption)
  | ((with_reducible apply r_ixA); (first | exact .inl (by walk_at "sq") | exact .inr (by walk_at "sq")); first | exact rfl | assumption)
  | ((with_reducible apply r_isi); (walk_at "ty"); (decide +kernel))
  | ((with_reducible apply r_isiT2); assumption; (walk_at "ty"); (decide +kernel); (decide +kernel))
  | ((with_reducible apply r_I0))
  | ((with_reducible apply r_I); (walk_at "cond"))
  | ((with_reducible apply r_eq); exact rfl)
  | ((with_reducible apply r_ne); exact rfl)
  | ((with_reducible apply r_test))
  | ((with_reducible apply r_bl))
  | ((with_reducible apply r_if))
  | ((with_reducible apply r_nil))
  | ((with_reducible apply r_cons))
  | ((with_reducible apply r_call))
  | ((with_reducible apply r_cb))
  | ((with_reducible apply r_tup))
  | ((with_reducible apply r_lst))
  | ((with_reducible apply new); (walk_at "sz"))
  | ((with_reducible apply r_ret))
  | ((with_reducible apply r_retN))
  | ((with_reducible apply r_next))
  | ((with_reducible apply r_drop))
  | ((with_reducible apply r_lenL); (walk_at "sq"))
  | ((with_reducible apply r_lenT); (walk_at "sq"))
  | ((with_reducible apply r_int))
  | ((with_reducible apply r_intB))
  | ((with_reducible apply r_isN))
  | ((with_reducible apply r_notN))
  | ((with_reducible apply r_B))
  | ((with_reducible apply r_not))
  | ((with_reducible apply r_notV))
  | ((with_reducible apply r_andV))
  | ((with_reducible apply r_orV))
  | ((with_reducible apply r_ifE))
  | ((with_reducible apply r_chain))
  | ((with_reducible apply ite_t); (first | (with_reducible exact nRN) | (with_reducible exact nIN) | (with_reducible exact dNN) | decide +kernel))
  | ((with_reducible apply ite_f); (first | (with_reducible exact dRN) | (with_reducible exact dIN) | (with_reducible exact nNN) | decide +kernel))
  | ((with_reducible apply r_in); (first | exact .inl (by walk_at "sq") | exact .inr (by walk_at "sq")); exact rfl; (first | exact nums_flat | exact rfl))
  | ((with_reducible apply turn))
  | ((with_reducible apply r_for))
  | ((with_reducible apply r_iRng1))
  | ((with_reducible apply r_rng); (first | decide | omega | (simp; omega)); (first | decide | omega | (simp; omega)))
  | ((with_reducible apply r_iList))
  | ((with_reducible apply r_iTup))
  | ((with_reducible apply r_overL); (walk_at "sq"))
  | ((with_reducible apply r_overT); (walk_at "sq"))
  | ((with_reducible apply r_lc))
  | ((with_reducible apply acc); assumption; (walk_at "szT"))
  | ((with_reducible apply r_sub))
  | ((with_reducible apply r_setL); assumption; exact rfl)
  | ((with_reducible apply r_gtup); (walk_at "sq"); rfl)
  | ((with_reducible apply r_gnil))
  | ((with_reducible apply r_gcons))
  | ((with_reducible apply r_par))
  | ((with_reducible apply r_par2))
  | ((with_reducible apply r_sl))
  | ((with_reducible apply r_part))
  | ((with_reducible apply r_part1))
  | ((with_reducible apply r_noPart))
  | ((with_reducible apply r_slL); (walk_at "sq"))
  | ((with_reducible apply r_slA); (walk_at "sq"))
  | ((with_reducible apply r_tupL); (walk_at "sq"))
  | ((with_reducible apply r_tupT); (walk_at "sq"))
  | ((with_reducible apply r_lstL); (walk_at "sq"))
  | ((with_reducible apply r_lstT); (walk_at "sq"))
  | ((with_reducible apply r_append))
  | ((with_reducible apply r_isL); (walk_at "sq"))
  | ((with_reducible apply r_app); assumption; (walk_at "szT"))
  | ((with_reducible apply r_dget))
  | ((with_reducible apply r_dgetS); assumption; (walk_at "dk"))
  | ((with_reducible apply r_dput))
  | ((with_reducible apply r_dputS); assumption; (walk_at "szT"))
  | ((with_reducible apply r_disp))
  | ((with_reducible apply r_pnil))
  | ((with_reducible apply r_pcons))
  | ((with_reducible apply r_fld))
  | ((with_reducible apply r_fld1); assumption; assumption; assumption; (first | exact rfl | assumption))
  | ((with_reducible apply r_sfld))
  | ((with_reducible apply r_sfld1); assumption; assumption; assumption; exact (by decide)))
local macro_rules | `(tactic| walk_at "rd") => `(tactic| repeat walk_at "rd1")
local macro_rules | `(tactic| walk_at "lk") => `(tactic| first | (with_reducible exact cell_number) | (with_reducible exact cell_loans) | (with_reducible exact frame_owns) | (with_reducible exact frame_handed) | (with_reducible exact frame_roads) | (with_reducible exact want_thing) | (with_reducible exact want_frame) | (with_reducible exact run_program) | (with_reducible exact run_ways) | (with_reducible exact run_commons) | (with_reducible exact run_said) | (with_reducible exact run_lent) | (with_reducible exact run_mixed))
local macro_rules | `(tactic| walk_at "rd1") => `(tactic| first
  | ((with_reducible apply r_enumT))
  | ((with_reducible apply r_overE); (walk_at "sq"))
  | ((with_reducible apply r_zipA))
  | ((with_reducible apply r_zipT); (walk_at "sq"); (walk_at "sq"))
  | ((with_reducible apply r_zip3))
  | ((with_reducible apply r_overZ3); (walk_at "sq"); (walk_at "sq"); (walk_at "sq"))
  | ((with_reducible apply r_make))
  | ((with_reducible apply r_isiC); assumption; assumption; assumption)
  | ((with_reducible apply r_popM))
  | ((with_reducible apply r_pop); assumption)
  | ((with_reducible apply r_tru))
  | ((with_reducible apply r_truL); (walk_at "sq"))
  | ((with_reducible apply r_fld1); assumption; assumption; assumption; (walk_at "lk"))
  | ((with_reducible apply r_sfld1); assumption; assumption; assumption; exact Nat.le_of_ble_eq_true rfl))
local macro_rules | `(tactic| walk_at "rd1") => `(tactic| first
  | ((with_reducible apply r_revR))
  | ((with_reducible apply r_revOf); (first | omega | decide))
  | ((with_reducible apply r_zipT3))
  | ((with_reducible apply r_overZT3); (walk_at "sq"); (walk_at "sq"); (walk_at "sq"))
  | ((with_reducible apply r_rep1); assumption; (first | omega | (simp; omega))))
section
variable {P : Program} {w : World} {K : PySem.W.Frag} {mg : Str → Option Value} {base : Heap}
/-! ### the law of who may set what: handings -/
def hnV : Hn → List V
  | (p, none) => [.int (p : Int), .non, .non]
  | (p, some (w, k)) => [.int (p : Int), .int (w : Int), .int (k : Int)]
def HRel (K : PySem.W.Frag) (H : Hp) (xs : List V) (hs : List Hn) : Prop := xs.length = hs.length ∧ ∀ (j : Nat) (h : Hn), hs[j]? = some h → ∃ a, xs[j]? = some (.ref a) ∧ SqT K H a (hnV h)
theorem HRel.ts {H H1 : Hp} {xs : List V} {hs : List Hn} (r : HRel K H xs hs) (t : Tst H H1) : HRel K H1 xs hs := ⟨r.1, fun j h e => by
  obtain ⟨a, h1, h2⟩ := r.2 j h e
  exact ⟨a, h1, t.sqT h2⟩⟩
theorem HRel.app {H : Hp} {xs ys : List V} {hs gs : List Hn} (r : HRel K H xs hs) (s : HRel K H ys gs) : HRel K H (xs ++ ys) (hs ++ gs) := by
  refine ⟨by rw [List.length_append, List.length_append, r.1, s.1], fun j h e => ?_⟩
  by_cases c : j < hs.length
  · rw [List.getElem?_append_left c] at e
    rw [List.getElem?_append_left (by rw [r.1]; exact c)]
    exact r.2 j h e
  · rw [List.getElem?_append_right (by omega)] at e
    rw [List.getElem?_append_right (by rw [r.1]; omega), r.1]
    exact s.2 _ h e
theorem HRel.one {H : Hp} {a : Addr} {h : Hn} (s : SqT K H a (hnV h)) : HRel K H [.ref a] [h] := ⟨rfl, fun j g e => by
  cases j with
  | zero => cases e; exact ⟨a, rfl, s⟩
  | succ j => simp at e⟩
theorem hndT_len : ∀ {w k : Nat} {ts : List Th}, (hndT w k ts).length ≤ ts.length
  | w, k, [] => Nat.le_refl _
  | w, k, .par q :: r => by rw [hndT_par, List.length_cons, List.length_cons]; have := hndT_len (w := w) (k := k + 1) (ts := r); omega
  | w, k, .num _ :: r => by rw [hndT_num, List.length_cons]; have := hndT_len (w := w) (k := k + 1) (ts := r); omega
  | w, k, .sum _ _ :: r => by rw [hndT_sum, List.length_cons]; have := hndT_len (w := w) (k := k + 1) (ts := r); omega
  | w, k, .cell _ :: r => by rw [hndT_cell, List.length_cons]; have := hndT_len (w := w) (k := k + 1) (ts := r); omega
  | w, k, .own _ :: r => by rw [hndT_own, List.length_cons]; have := hndT_len (w := w) (k := k + 1) (ts := r); omega
mutual
theorem hndS_len {sh : List (Nat × Nat)} {i : Nat} (h3 : ∀ w, (sh.getD w (0, 0)).1 ≤ 3) : ∀ {s : St} {d : Nat}, St.ok sh i d s → (hndS s).length ≤ 3 * s.many
  | .set (.par k) t, d, _ => by unfold hndS St.many; show 1 ≤ 3; omega
  | .set (.num _) t, d, _ => by unfold hndS; exact Nat.zero_le _
  | .set (.sum _ _) t, d, _ => by unfold hndS; exact Nat.zero_le _
  | .set (.cell _) t, d, _ => by unfold hndS; exact Nat.zero_le _
  | .set (.own _) t, d, _ => by unfold hndS; exact Nat.zero_le _
  | .say t, d, _ => by unfold hndS; exact Nat.zero_le _
  | .ite t a b, 0, h => by unfold St.ok at h; exact h.elim
  | .ite t a b, d + 1, h => by
    unfold St.ok at h
    unfold hndS St.many
    have h1 := hndB_len h3 h.2.1
    have h2 := hndB_len h3 h.2.2
    rw [List.length_append]
    omega
  | .call k ts, d, h => by
    obtain ⟨_, _, lt, _⟩ := St.ok_call' h
    unfold hndS St.many
    have := hndT_len (w := k) (k := 0) (ts := ts)
    have := h3 k
    omega
theorem hndB_len {sh : List (Nat × Nat)} {i : Nat} (h3 : ∀ w, (sh.getD w (0, 0)).1 ≤ 3) : ∀ {b : Sts} {d : Nat}, Sts.ok sh i d b → (hndB b).length ≤ 3 * b.many
  | .nil, d, _ => by unfold hndB; exact Nat.zero_le _
  | .cons s r, d, h => by
    unfold Sts.ok at h
    unfold hndB Sts.many
    have h1 := hndS_len h3 h.1
    have h2 := hndB_len h3 h.2
    rw [List.length_append]
    omega
end
def spHandings (K : PySem.W.Frag) (n : Nat) : Sp := fun vs H Q _ => ∃ (vb : V) (b : Sts) (sh : List (Nat × Nat)) (i d : Nat), vs = [vb] ∧ Rp K H vb (.tuple b.encs) ∧ d < n ∧ Sts.ok sh i d b ∧ (∀ w, (sh.getD w (0, 0)).1 ≤ 3) ∧ b.many ≤ 100 ∧
  ∀ (p : Addr) (H' : Hp) (xs : List V), H p = none → Keep [] H H' → H' p = some (.lst xs) → HRel K H' xs (hndB b) → Q (.ref p) H'
abbrev sL_handings : Stmt := top 40
abbrev nL_handings : List Str := ["_law_body_here", "_law_found", "_law_step_here", "_law_k"]
abbrev pL_handings : List Str := ["_law_body_here"]
theorem scL_handings : FnScope nL_handings pL_handings (defScope sL_handings) := ⟨rfl, rfl, rfl, by decide +kernel, rfl, by decide +kernel, by decide +kernel⟩
theorem hndB_drop {b : Sts} {j : Nat} {s : St} (e : b.drop j = .cons s (b.drop (j + 1))) : hndB (b.drop j) = hndS s ++ hndB (b.drop (j + 1)) := by rw [e, hndB]
theorem okHandings {n : Nat} (D : DefAt K mg "_law_handings" sL_handings pL_handings) (T : Blt mg) (C_law_handings : Callee P w K mg base "_law_handings" n pL_handings (spHandings K n)) : Callee P w K mg base "_law_handings" (n + 1) pL_handings (spHandings K (n + 1)) := by
  refine D.ok scL_handings (fun vs H Q E h => ?_) (fun f cdv A outer s H vs Q E hr h => ?_)
  · obtain ⟨vb, b, sh, i, d, rfl, _⟩ := h
    rfl
  obtain ⟨vb, b, sh, i, d, rfl, hb, dn, ok, h3, mb, q⟩ := h
  obtain ⟨bp, xs, rfl, hT, hxs⟩ := hb.tup_inv
  have lG : (hndB b).length ≤ 300 := by have := hndB_len h3 ok; omega
  generalize eG : hndB b = G at q lG
  refine ⟨_, (pss_cons (ps_set (i := 1) scL_handings.nd rfl (Or.inl rfl) (pe_lst pa_nil))
  (pss_cons (ps_for PassesOwn.never rfl (piTup (K := K) (pv 0)) (pg_name (i := 2) scL_handings.nd rfl (Or.inl rfl))
   (pss_cons (ps_if (PW.pt (pw_and (pt_cmpR op_eq (pe_ix (ixT (K := K)) (pv 2) pe_int (fun _ _ => rfl)) pe_str (nomark _)) (pw_and1 (pt_cmpR op_eq (pe_ix (ixT (K := K)) (pe_ix (ixT (K := K)) (pv 2) pe_int (fun _ _ => rfl)) pe_int (fun _ _ => rfl)) pe_str (nomark _))))) (pss_one (ps_expr (peApp (K := K) (pv 1) (pe_tup (pa_cons (pe_ix (ixT (K := K)) (pe_ix (ixT (K := K)) (pv 2) pe_int (fun _ _ => rfl)) pe_int (fun _ _ => rfl)) (pa_cons pe_non (pa_cons pe_non pa_nil))))))) pss_nil)
  (pss_cons (ps_if (pt_cmpR op_eq (pe_ix (ixT (K := K)) (pv 2) pe_int (fun _ _ => rfl)) pe_str (nomark _)) (pss_one (ps_for PassesOwn.never rfl (pi_range1 rfl T.range (pa_cons (pe_callB (cLen (K := K)) (by rfl) T.len PySem.boot_len (pa_cons (pe_ix (ixT (K := K)) (pv 2) pe_int (fun _ _ => rfl)) pa_nil)) pa_nil)) (pg_name (i := 3) scL_handings.nd rfl (Or.inl rfl))
   (pss_one (ps_if (pt_cmpR op_eq (pe_ix (ixT (K := K)) (pe_ix (ixT (K := K)) (pe_ix (ixT (K := K)) (pv 2) pe_int (fun _ _ => rfl)) (pv 3) (fun _ _ => rfl)) pe_int (fun _ _ => rfl)) pe_str (nomark _)) (pss_one (ps_expr (peApp (K := K) (pv 1) (pe_tup (pa_cons (pe_ix (ixT (K := K)) (pe_ix (ixT (K := K)) (pe_ix (ixT (K := K)) (pv 2) pe_int (fun _ _ => rfl)) (pv 3) (fun _ _ => rfl)) pe_int (fun _ _ => rfl)) (pa_cons (pe_ix (ixT (K := K)) (pv 2) pe_int (fun _ _ => rfl)) (pa_cons (pv 3) pa_nil))))))) pss_nil)))) pss_nil)
  (pss_one (ps_if (pt_cmpR op_eq (pe_ix (ixT (K := K)) (pv 2) pe_int (fun _ _ => rfl)) pe_str (nomark _)) (pss_one (ps_set (i := 1) scL_handings.nd rfl (Or.inl rfl) (pe_op op_cat (pe_op op_cat (pv 1) (pcall C_law_handings (hr.mono (by omega)) rfl (pa_cons (pe_ix (ixT (K := K)) (pv 2) pe_int (fun _ _ => rfl)) pa_nil))) (pcall C_law_handings (hr.mono (by omega)) rfl (pa_cons (pe_ix (ixT (K := K)) (pv 2) pe_int (fun _ _ => rfl)) pa_nil))))) pss_nil)))))
  (pss_one (ps_ret (pv 1))))), ?_⟩
  walk_at "rd"
  intro p0 H1 np0 hp0 k1
  have hT1 := (kts0 k1).sqT hT
  walk_at "rd"
  refine forT (xs := xs) (fun j σ H' => ∃ (p : Addr) (x2 x3 : Option V) (ys : List V) (hs : List Hn), σ = [some (.ref bp), some (.ref p), x2, x3] ∧ H p = none ∧ Keep [] H H' ∧ H' p = some (.lst ys) ∧ HRel K H' ys hs ∧ hs ++ hndB (b.drop j) = G ∧ Sts.ok sh i d (b.drop j) ∧ (b.drop j).many ≤ 100) ⟨p0, _, _, [], [], rfl, np0, k1, hp0, ⟨rfl, fun j h e => by simp at e⟩, eG, ok, mb⟩ (fun j σ H' _ hp => ?_) (fun j x σ H' hx hp => ?_) (fun σ H' hp => ?_)
  · obtain ⟨p, x2, x3, ys, hs, rfl, np, k, h, r, e, okd, mbd⟩ := hp
    exact (kts0 k).sqT hT
  · obtain ⟨p, x2, x3, ys, hs, rfl, np, k, h, r, e, okd, mbd⟩ := hp
    have t := kts0 k
    obtain ⟨dd, ed, rd⟩ := hxs.get' hx
    obtain ⟨st, rfl, est⟩ := Sts.drop_get ed
    rw [hndB_drop est] at e
    rw [est] at okd mbd
    unfold Sts.ok at okd
    unfold Sts.many at mbd
    obtain ⟨oks, okr⟩ := okd
    have rd' := rd.ts t
    have lhs : ys.length + (hndS st).length ≤ 300 := by
      have := congrArg List.length e
      rw [List.length_append, List.length_append] at this
      rw [r.1]
      omega
    have mbr : (b.drop (j + 1)).many ≤ 100 := by omega
    cases st with
    | set pl u =>
      obtain ⟨a, y1, y2, rfl, hS, h1, h2⟩ := St.inv_set rd'
      have b0 : atI [V.str "set", y1, y2] 0 = some (.str "set") := at0
      have b1 : atI [V.str "set", y1, y2] 1 = some y1 := at1
      cases pl with
      | par kk =>
        obtain ⟨a2, rfl, hS2⟩ := Th.inv_par h1
        have c0 : atI [V.str "par", .int (kk : Int)] 0 = some (.str "par") := at0
        have c1 : atI [V.str "par", .int (kk : Int)] 1 = some (.int (kk : Int)) := at1
        unfold hndS at e lhs
        have lys : ys.length ≤ 300 := by omega
        walk_at "rd"
        refine r_andP (a := true) (b := true) (fun R hr => by walk_at "rd"; exact hr) (fun _ R hr => by walk_at "rd"; exact hr) ?_
        walk_at "rd"
        intro tp H2 ntp htp k2
        have h' := k2 _ _ h (by simp)
        walk_at "rd"
        intro H3 h3' k3
        have t3 : Tst H2 H3 := k3.ts fun x hx => by cases List.mem_singleton.mp hx; exact .inl ⟨_, h'⟩
        have hS3 := t3.sqT ((kts0 k2).sqT hS)
        walk_at "rd"
        refine ⟨p, _, _, _, _, rfl, np, (k.trans k2).fresh1 k3 np, h3', (r.ts ((kts0 k2).trans t3)).app (HRel.one (h := (kk, none)) (t3.sqT (SqT.of htp))), ?_, okr, mbr⟩
        rw [List.append_assoc]
        exact e
      | num kk =>
        obtain ⟨a2, rfl, hS2⟩ := Th.inv_num h1
        have c0 : atI [V.str "num", .int (kk : Int)] 0 = some (.str "num") := at0
        unfold hndS at e
        walk_at "rd"
        refine r_andP (a := true) (b := false) (fun R hr => by walk_at "rd"; exact hr) (fun _ R hr => by walk_at "rd"; exact hr) ?_
        walk_at "rd"
        exact ⟨p, _, _, ys, hs, rfl, np, k, h, r, e, okr, mbr⟩
      | own kk =>
        obtain ⟨a2, rfl, hS2⟩ := Th.inv_own h1
        have c0 : atI [V.str "own", .int (kk : Int)] 0 = some (.str "own") := at0
        unfold hndS at e
        walk_at "rd"
        refine r_andP (a := true) (b := false) (fun R hr => by walk_at "rd"; exact hr) (fun _ R hr => by walk_at "rd"; exact hr) ?_
        walk_at "rd"
        exact ⟨p, _, _, ys, hs, rfl, np, k, h, r, e, okr, mbr⟩
      | cell uu =>
        obtain ⟨a2, z, rfl, hS2, _⟩ := Th.inv_cell h1
        have c0 : atI [V.str "cell", z] 0 = some (.str "cell") := at0
        unfold hndS at e
        walk_at "rd"
        refine r_andP (a := true) (b := false) (fun R hr => by walk_at "rd"; exact hr) (fun _ R hr => by walk_at "rd"; exact hr) ?_
        walk_at "rd"
        exact ⟨p, _, _, ys, hs, rfl, np, k, h, r, e, okr, mbr⟩
      | sum uu vv =>
        obtain ⟨a2, z1, z2, rfl, hS2, _, _⟩ := Th.inv_sum h1
        have c0 : atI [V.str "sum", z1, z2] 0 = some (.str "sum") := at0
        unfold hndS at e
        walk_at "rd"
        refine r_andP (a := true) (b := false) (fun R hr => by walk_at "rd"; exact hr) (fun _ R hr => by walk_at "rd"; exact hr) ?_
        walk_at "rd"
        exact ⟨p, _, _, ys, hs, rfl, np, k, h, r, e, okr, mbr⟩
    | say u =>
      obtain ⟨a, y1, rfl, hS, h1⟩ := St.inv_say rd'
      have b0 : atI [V.str "say", y1] 0 = some (.str "say") := at0
      unfold hndS at e
      walk_at "rd"
      refine r_andP (a := false) (b := false) (fun R hr => by walk_at "rd"; exact hr) (fun z => nomatch z) ?_
      walk_at "rd"
      exact ⟨p, _, _, ys, hs, rfl, np, k, h, r, e, okr, mbr⟩
    | ite u b1 b2 =>
      cases d with
      | zero => exact (by unfold St.ok at oks; exact oks : False).elim
      | succ d =>
        unfold St.ok at oks
        obtain ⟨a, y1, y2, y3, rfl, hS, h1, h2, h3'⟩ := St.inv_ite rd'
        have c0 : atI [V.str "if", y1, y2, y3] 0 = some (.str "if") := at0
        have c2 : atI [V.str "if", y1, y2, y3] 2 = some y2 := at2
        have c3 : atI [V.str "if", y1, y2, y3] 3 = some y3 := at3
        unfold hndS at e lhs
        unfold St.many at mbd
        rw [List.length_append] at lhs
        walk_at "rd"
        refine r_andP (a := false) (b := false) (fun R hr => by walk_at "rd"; exact hr) (fun z => nomatch z) ?_
        walk_at "rd"
        refine ask ⟨y2, b1, sh, i, d, rfl, h2, by omega, oks.2.1, h3, by omega, fun p1 H2 zs np1 k2 hp1 r1 => ?_⟩
        have h' := k2 _ _ h (by simp)
        have hS2 := (kts0 k2).sqT hS
        walk_at "rd"
        refine r_cat h' hp1 (small (by rw [r1.1]; omega)) ?_
        walk_at "rd"
        intro p2 H3 np2 hp2 k3
        have hS3 := (kts0 k3).sqT hS2
        walk_at "rd"
        refine ask ⟨y3, b2, sh, i, d, rfl, (h3'.ts (kts0 k2)).ts (kts0 k3), by omega, oks.2.2, h3, by omega, fun p3 H4 ws np3 k4 hp3 r3 => ?_⟩
        have hp2' := k4 _ _ hp2 (by simp)
        walk_at "rd"
        refine r_cat hp2' hp3 (small (by rw [List.length_append, r1.1, r3.1]; omega)) ?_
        walk_at "rd"
        intro p4 H5 np4 hp4 k5
        have k25 := ((k2.trans k3).trans k4)
        refine ⟨p4, _, _, _, _, rfl, free0 (k.trans k25) np4, (k.trans k25).trans k5, hp4, ((((r.ts (kts0 k2)).app r1).ts ((kts0 k3).trans (kts0 k4))).app r3).ts (kts0 k5), ?_, okr, mbr⟩
        rw [List.append_assoc, List.append_assoc, ← List.append_assoc (hndB b1)]
        exact e
    | call kk ts =>
      obtain ⟨a, y1, rfl, hS, h1⟩ := St.inv_call rd'
      have c0 : atI [V.str "call", .int (kk : Int), y1] 0 = some (.str "call") := at0
      have c1 : atI [V.str "call", .int (kk : Int), y1] 1 = some (.int (kk : Int)) := at1
      have c2 : atI [V.str "call", .int (kk : Int), y1] 2 = some y1 := at2
      unfold hndS at e lhs
      obtain ⟨ik, kl, lt, okt⟩ := St.ok_call' oks
      have h3k := h3 kk
      obtain ⟨tp, zs, rfl, hTz, hzs⟩ := h1.tup_inv
      have lzs : zs.length = ts.length := by rw [hzs.length, List.length_map]
      walk_at "rd"
      refine r_andP (a := false) (b := false) (fun R hr => by walk_at "rd"; exact hr) (fun z => nomatch z) ?_
      walk_at "rd"
      refine forR (fun m σ H2 => ∃ (x3 : Option V) (ys2 : List V) (hs2 : List Hn), σ = [some (.ref bp), some (.ref p), some (.ref a), x3] ∧ Keep [] H H2 ∧ Tst H' H2 ∧ H2 p = some (.lst ys2) ∧ HRel K H2 ys2 hs2 ∧ hs2 ++ hndT kk m (ts.drop m) = hs ++ hndT kk 0 ts) ⟨_, ys, hs, rfl, k, Tst.refl, h, r, by rw [List.drop_zero]⟩ (fun m σ H2 hm hp2 => ?_) (fun σ H2 hp2 => ?_)
      · obtain ⟨x3', ys2, hs2, rfl, k2, t2, h2, r2, e2⟩ := hp2
        have hm' : m < zs.length := by omega
        have hmt : m < ts.length := by omega
        have hS2 := t2.sqT hS
        have hTz2 := t2.sqT hTz
        obtain ⟨dz, edz, rz⟩ := hzs.get' (List.getElem?_eq_getElem hm')
        rw [List.getElem?_map, List.getElem?_eq_getElem hmt] at edz
        cases edz
        have am := atI_nat (List.getElem?_eq_getElem hm' : zs[m]? = some zs[m])
        have rz2 := rz.ts t2
        rw [List.drop_eq_getElem_cons hmt] at e2
        have l2 : ys2.length ≤ 1000 := by
          have := congrArg List.length e2
          rw [List.length_append, List.length_append] at this
          have := hndT_len (w := kk) (k := 0) (ts := ts)
          have := r.1
          rw [r2.1]
          omega
        generalize zs[m] = zm at am rz2
        generalize ts[m] = tm at e2 rz2
        cases tm with
        | par qq =>
          obtain ⟨a3, rfl, hS3⟩ := Th.inv_par rz2
          have g0 : atI [V.str "par", .int (qq : Int)] 0 = some (.str "par") := at0
          have g1 : atI [V.str "par", .int (qq : Int)] 1 = some (.int (qq : Int)) := at1
          rw [hndT_par] at e2
          walk_at "rd"
          intro tq H3 ntq htq k3
          have h3' := k3 _ _ h2 (by simp)
          walk_at "rd"
          intro H4 h4 k4
          have t4 : Tst H3 H4 := k4.ts fun x hx => by cases List.mem_singleton.mp hx; exact .inl ⟨_, h3'⟩
          refine ⟨_, _, _, rfl, (k2.trans k3).fresh1 k4 np, (t2.trans (kts0 k3)).trans t4, h4, (r2.ts ((kts0 k3).trans t4)).app (HRel.one (h := (qq, some (kk, m))) (t4.sqT (SqT.of htq))), ?_⟩
          rw [List.append_assoc]
          exact e2
        | num qq =>
          obtain ⟨a3, rfl, hS3⟩ := Th.inv_num rz2
          have g0 : atI [V.str "num", .int (qq : Int)] 0 = some (.str "num") := at0
          rw [hndT_num] at e2
          walk_at "rd"
          exact ⟨_, ys2, hs2, rfl, k2, t2, h2, r2, e2⟩
        | own qq =>
          obtain ⟨a3, rfl, hS3⟩ := Th.inv_own rz2
          have g0 : atI [V.str "own", .int (qq : Int)] 0 = some (.str "own") := at0
          rw [hndT_own] at e2
          walk_at "rd"
          exact ⟨_, ys2, hs2, rfl, k2, t2, h2, r2, e2⟩
        | cell qq =>
          obtain ⟨a3, z, rfl, hS3, _⟩ := Th.inv_cell rz2
          have g0 : atI [V.str "cell", z] 0 = some (.str "cell") := at0
          rw [hndT_cell] at e2
          walk_at "rd"
          exact ⟨_, ys2, hs2, rfl, k2, t2, h2, r2, e2⟩
        | sum qq rr =>
          obtain ⟨a3, z1, z2, rfl, hS3, _, _⟩ := Th.inv_sum rz2
          have g0 : atI [V.str "sum", z1, z2] 0 = some (.str "sum") := at0
          rw [hndT_sum] at e2
          walk_at "rd"
          exact ⟨_, ys2, hs2, rfl, k2, t2, h2, r2, e2⟩
      · obtain ⟨x3', ys2, hs2, rfl, k2, t2, h2, r2, e2⟩ := hp2
        rw [lzs, Int.toNat_natCast, List.drop_length] at e2
        have e2' : hs2 ++ ([] : List Hn) = hs ++ hndT kk 0 ts := e2
        rw [List.append_nil] at e2'
        have hS2 := t2.sqT hS
        walk_at "rd"
        refine ⟨p, _, _, ys2, hs2, rfl, np, k2, h2, r2, ?_, okr, mbr⟩
        rw [e2', List.append_assoc]
        exact e
  · obtain ⟨p, x2, x3, ys, hs, rfl, np, k, h, r, e, okd, mbd⟩ := hp
    have lv : xs.length = b.encs.length := hxs.length
    rw [lv, Sts.drop_all] at e
    have e' : hs ++ ([] : List Hn) = G := by rw [← e]; unfold hndB; rfl
    rw [List.append_nil] at e'
    subst e'
    walk_at "rd"
    exact q p H' ys np k h r
theorem okHandingss (D : DefAt K mg "_law_handings" sL_handings pL_handings) (T : Blt mg) : ∀ n, Callee P w K mg base "_law_handings" n pL_handings (spHandings K n)
  | 0 => D.none fun vs H Q E h => by
    obtain ⟨_, _, _, _, d, _, _, dn, _⟩ := h
    omega
  | n + 1 => okHandings D T (okHandingss D T n)
end
end Hw
namespace Hw
open PySem PySem.Spec PyProof.Rows L2
local macro_rules | `(tactic| walk_at "sz") => `(tactic| first | exact Nat.le_of_ble_eq_true rfl | exact small (by first | omega | (simp; done) | (simp; omega)))
local macro_rules | `(tactic| walk_at "szT") => `(tactic| first | exact Nat.lt_of_lt_of_le (Nat.lt_succ_self _) (Nat.le_of_ble_eq_true rfl) | exact smallT (by first | omega | (simp; done) | (simp; omega)))
local macro_rules | `(tactic| walk_at "cond") => `(tactic| first | decide | omega | (dsimp only; omega) | exact ⟨by omega, by omega⟩ | exact .inr ⟨by decide, by decide⟩)
local macro_rules | `(tactic| walk_at "sq") => `(tactic| first | assumption | exact SqL.of (by assumption) | exact SqT.of (by assumption))
local macro_rules | `(tactic| walk_at "ty") => `(tactic| first | (with_reducible assumption) | exact .base (.int _) | exact .base (.str _) | exact .base (.bl _) | exact .base .non | exact tyT (by walk_at "sq") | exact tyL (by walk_at "sq"))
local macro_rules | `(tactic| walk_at "rd1") => `(tactic| first
  | ((with_reducible apply r_seq))
  | ((with_reducible apply r_asg))
  | ((with_reducible apply r_name))
  | ((with_reducible apply r_op))
  | ((with_reducible apply r_var); exact rfl)
  | ((with_reducible apply r_c))
  | ((with_reducible apply r_ixT); (walk_at "sq"); first | exact rfl | assumption)
  | ((with_reducible apply r_ixL); (walk_at "sq"); first | exact rfl | assumption)
  | ((with_reducible apply r_ixA); (first | exact .inl (by walk_at "sq") | exact .inr (by walk_at "sq")); first | exact rfl | assumption)
  | ((with_reducible apply r_isi); (walk_at "ty"); (decide +kernel))
  | ((with_reducible apply r_isiT2); assumption; (walk_at "ty"); (decide +kernel); (decide +kernel))
  | ((with_reducible apply r_I0))
  | ((with_reducible apply r_I); (walk_at "cond"))
  | ((with_reducible apply r_eq); exact rfl)
  | ((with_reducible apply r_ne); exact rfl)
  | ((with_reducible apply r_test))
  | ((with_reducible apply r_bl))
  | ((with_reducible apply r_if))
  | ((with_reducible apply r_nil))
  | ((with_reducible apply r_cons))
  | ((with_reducible apply r_call))
  | ((with_reducible apply r_cb))
  | ((with_reducible apply r_tup))
  | ((with_reducible apply r_lst))
  | ((with_reducible apply new); (walk_at "sz"))
  | ((with_reducible apply r_ret))
  | ((with_reducible apply r_retN))
  | ((with_reducible apply r_next))
  | ((with_reducible apply r_drop))
  | ((with_reducible apply r_lenL); (walk_at "sq"))
  | ((with_reducible apply r_lenT); (walk_at "sq"))
  | ((with_reducible apply r_int))
  | ((with_reducible apply r_intB))
  | ((with_reducible apply r_isN))
  | ((with_reducible apply r_notN))
  | ((with_reducible apply r_B))
  | ((with_reducible apply r_not))
  | ((with_reducible apply r_notV))
  | ((with_reducible apply r_andV))
  | ((with_reducible apply r_orV))
  | ((with_reducible apply r_ifE))
  | ((with_reducible apply r_chain))
  | ((with_reducible apply ite_t); (first | (with_reducible exact nRN) | (with_reducible exact nIN) | (with_reducible exact dNN) | decide +kernel))
  | ((with_reducible apply ite_f); (first | (with_reducible exact dRN) | (with_reducible exact dIN) | (with_reducible exact nNN) | decide +kernel))
  | ((with_reducible apply r_in); (first | exact .inl (by walk_at "sq") | exact .inr (by walk_at "sq")); exact rfl; (first | exact nums_flat | exact rfl))
  | ((with_reducible apply turn))
  | ((with_reducible apply r_for))
  | ((with_reducible apply r_iRng1))
  | ((with_reducible apply r_rng); (first | decide | omega | (simp; omega)); (first | decide | omega | (simp; omega)))
  | ((with_reducible apply r_iList))
  | ((with_reducible apply r_iTup))
  | ((with_reducible apply r_overL); (walk_at "sq"))
  | ((with_reducible apply r_overT); (walk_at "sq"))
  | ((with_reducible apply r_lc))
  | ((with_reducible apply acc); assumption; (walk_at "szT"))
  | ((with_reducible apply r_sub))
  | ((with_reducible apply r_setL); assumption; exact rfl)
  | ((with_reducible apply r_gtup); (walk_at "sq"); rfl)
  | ((with_reducible apply r_gnil))
  | ((with_reducible apply r_gcons))
  | ((with_reducible apply r_par))
  | ((with_reducible apply r_par2))
  | ((with_reducible apply r_sl))
  | ((with_reducible apply r_part))
  | ((with_reducible apply r_part1))
  | ((with_reducible apply r_noPart))
  | ((with_reducible apply r_slL); (walk_at "sq"))
  | ((with_reducible apply r_slA); (walk_at "sq"))
  | ((with_reducible apply r_tupL); (walk_at "sq"))
  | ((with_reducible apply r_tupT); (walk_at "sq"))
  | ((with_reducible apply r_lstL); (walk_at "sq"))
  | ((with_reducible apply r_lstT); (walk_at "sq"))
  | ((with_reducible apply r_append))
  | ((with_reducible apply r_isL); (walk_at "sq"))
  | ((with_reducible apply r_app); assumption; (walk_at "szT"))
  | ((with_reducible apply r_dget))
  | ((with_reducible apply r_dgetS); assumption; (walk_at "dk"))
  | ((with_reducible apply r_dput))
  | ((with_reducible apply r_dputS); assumption; (walk_at "szT"))
  | ((with_reducible apply r_disp))
  | ((with_reducible apply r_pnil))
  | ((with_reducible apply r_pcons))
  | ((with_reducible apply r_fld))
  | ((with_reducible apply r_fld1); assumption; assumption; assumption; (first | exact rfl | assumption))
  | ((with_reducible apply r_sfld))
  | ((with_reducible apply r_sfld1); assumption; assumption; assumption; exact (by decide)))
local macro_rules | `(tactic| walk_at "rd") => `(tactic| repeat walk_at "rd1")
local macro_rules | `(tactic| walk_at "lk") => `(tactic| first | (with_reducible exact cell_number) | (with_reducible exact cell_loans) | (with_reducible exact frame_owns) | (with_reducible exact frame_handed) | (with_reducible exact frame_roads) | (with_reducible exact want_thing) | (with_reducible exact want_frame) | (with_reducible exact run_program) | (with_reducible exact run_ways) | (with_reducible exact run_commons) | (with_reducible exact run_said) | (with_reducible exact run_lent) | (with_reducible exact run_mixed))
local macro_rules | `(tactic| walk_at "rd1") => `(tactic| first
  | ((with_reducible apply r_enumT))
  | ((with_reducible apply r_overE); (walk_at "sq"))
  | ((with_reducible apply r_zipA))
  | ((with_reducible apply r_zipT); (walk_at "sq"); (walk_at "sq"))
  | ((with_reducible apply r_zip3))
  | ((with_reducible apply r_overZ3); (walk_at "sq"); (walk_at "sq"); (walk_at "sq"))
  | ((with_reducible apply r_make))
  | ((with_reducible apply r_isiC); assumption; assumption; assumption)
  | ((with_reducible apply r_popM))
  | ((with_reducible apply r_pop); assumption)
  | ((with_reducible apply r_tru))
  | ((with_reducible apply r_truL); (walk_at "sq"))
  | ((with_reducible apply r_fld1); assumption; assumption; assumption; (walk_at "lk"))
  | ((with_reducible apply r_sfld1); assumption; assumption; assumption; exact Nat.le_of_ble_eq_true rfl))
local macro_rules | `(tactic| walk_at "rd1") => `(tactic| first
  | ((with_reducible apply r_revR))
  | ((with_reducible apply r_revOf); (first | omega | decide))
  | ((with_reducible apply r_zipT3))
  | ((with_reducible apply r_overZT3); (walk_at "sq"); (walk_at "sq"); (walk_at "sq"))
  | ((with_reducible apply r_rep1); assumption; (first | omega | (simp; omega))))
section
variable {P : Program} {w : World} {K : PySem.W.Frag} {mg : Str → Option Value} {base : Heap}
/-! ### the law of who may set what: its own answer -/
def pdN (x : Nat × Nat) : PyData := .tuple [.int (x.1 : Int), .int (x.2 : Int)]
def PRel (K : PySem.W.Frag) (H : Hp) (xs : List V) (g : List (Nat × Nat)) : Prop := xs.length = g.length ∧ ∀ (j : Nat) (x : Nat × Nat), g[j]? = some x → ∃ a, xs[j]? = some (.ref a) ∧ SqT K H a [.int (x.1 : Int), .int (x.2 : Int)]
theorem PRel.ts {H H1 : Hp} {xs : List V} {g : List (Nat × Nat)} (r : PRel K H xs g) (t : Tst H H1) : PRel K H1 xs g := ⟨r.1, fun j h e => by
  obtain ⟨a, h1, h2⟩ := r.2 j h e
  exact ⟨a, h1, t.sqT h2⟩⟩
theorem PRel.snoc {H : Hp} {xs : List V} {g : List (Nat × Nat)} {a : Addr} {x : Nat × Nat} (r : PRel K H xs g) (s : SqT K H a [.int (x.1 : Int), .int (x.2 : Int)]) : PRel K H (xs ++ [.ref a]) (g ++ [x]) := by
  refine ⟨by rw [List.length_append, List.length_append, r.1]; rfl, fun j h e => ?_⟩
  by_cases c : j < g.length
  · rw [List.getElem?_append_left c] at e
    rw [List.getElem?_append_left (by rw [r.1]; exact c)]
    exact r.2 j h e
  · rw [List.getElem?_append_right (by omega)] at e
    rw [List.getElem?_append_right (by rw [r.1]; omega), r.1]
    cases hj : j - g.length with
    | zero =>
      rw [hj] at e
      cases e
      exact ⟨a, rfl, s⟩
    | succ n =>
      rw [hj] at e
      simp at e
theorem PRel.dp {H : Hp} : ∀ {xs : List V} {g : List (Nat × Nat)}, PRel K H xs g → DpAll K H xs (g.map pdN)
  | [], [], _ => .nil
  | v :: xs, x :: g, r => by
    obtain ⟨a, h1, h2⟩ := r.2 0 x rfl
    cases h1
    exact .cons (.tup h2 (.cons (.int _) (.cons (.int _) .nil))) (PRel.dp ⟨Nat.succ.inj r.1, fun k bs e => r.2 (k + 1) bs e⟩)
  | [], _ :: _, r => by cases r.1
  | _ :: _, [], r => by cases r.1
theorem eqv_pdN {x y : Nat × Nat} : PyData.eqv (pdN x) (pdN y) = decide (x = y) := by
  obtain ⟨a, b⟩ := x
  obtain ⟨c, d⟩ := y
  show (((a : Int) == (c : Int)) && (((b : Int) == (d : Int)) && true)) = decide ((a, b) = (c, d))
  rw [Bool.and_true, Bool.eq_iff_iff, Bool.and_eq_true, beq_iff_eq, beq_iff_eq, decide_eq_true_eq]
  constructor
  · rintro ⟨h1, h2⟩
    have e1 : a = c := by omega
    have e2 : b = d := by omega
    rw [e1, e2]
  · intro h
    cases h
    exact ⟨rfl, rfl⟩
theorem any_pdN {g : List (Nat × Nat)} {x : Nat × Nat} : ((g.map pdN).any fun z => PyData.eqv z (pdN x)) = decide (x ∈ g) := by
  rw [List.any_map, Bool.eq_iff_iff, List.any_eq_true, decide_eq_true_eq]
  constructor
  · rintro ⟨y, hy, e⟩
    have e' : PyData.eqv (pdN y) (pdN x) = true := e
    rw [eqv_pdN] at e'
    rw [← of_decide_eq_true e']
    exact hy
  · intro h
    exact ⟨x, h, by show PyData.eqv (pdN x) (pdN x) = true; rw [eqv_pdN]; exact decide_eq_true rfl⟩
theorem pdN_shaped {x : Nat × Nat} : SeqAt.shaped (pdN x) = true := by
  unfold SeqAt.shaped
  rw [Bool.and_eq_true_iff]
  exact ⟨rfl, decide_eq_true (by show max 0 (max 0 0) + 1 ≤ 64; omega)⟩
theorem pdNs_lay : ∀ {g : List (Nat × Nat)}, PyData.canLayAll0 (g.map pdN) = true
  | [] => rfl
  | x :: g => by
    show (PyData.canLay0 (pdN x) && PyData.canLayAll0 (g.map pdN)) = true
    rw [pdNs_lay]
    rfl
theorem pdNs_depth : ∀ {g : List (Nat × Nat)}, PyData.depthAll (g.map pdN) ≤ 1
  | [] => by show 0 ≤ 1; omega
  | x :: g => by
    have := pdNs_depth (g := g)
    show max (PyData.depth (pdN x)) (PyData.depthAll (g.map pdN)) ≤ 1
    have e : PyData.depth (pdN x) = 1 := rfl
    omega
theorem pdNs_shaped {g : List (Nat × Nat)} : SeqAt.shaped (.list (g.map pdN)) = true := by
  unfold SeqAt.shaped
  rw [Bool.and_eq_true_iff]
  refine ⟨pdNs_lay, decide_eq_true ?_⟩
  have := pdNs_depth (g := g)
  show PyData.depthAll (g.map pdN) + 1 ≤ 64
  omega
/-- a test that is known, whatever it makes beside -/
theorem known {σ : L2.St} {H : Hp} {QT : Bool → Hp → Prop} {t : TT} (b : Bool) (h : ∀ R : Bool → Hp → Prop, (∀ H1, Keep [] H H1 → R b H1) → t σ H R) (q : ∀ H1, Keep [] H H1 → QT b H1) : t σ H QT := h QT q
theorem goH_len {W : List (List Str)} {i : Nat} : ∀ {hs : List Hn} {g : List (Nat × Nat)}, (goH W i hs g).length ≤ g.length + hs.length
  | [], g => by unfold goH; exact Nat.le_refl _
  | h :: r, g => by
    rw [goH]
    have := goH_len (W := W) (i := i) (hs := r) (g := if hitB W g h = true then g ++ [(i, h.1)] else g)
    rw [List.length_cons]
    split at this
    · rw [List.length_append, List.length_singleton] at this
      rw [if_pos (by assumption)]
      omega
    · rw [if_neg (by assumption)]
      omega
def spLawMaySet (K : PySem.W.Frag) : Sp := fun vs H Q _ => ∃ (vp vw : V) (PP : List Wk) (W : List (List Str)) (mm : Nat), vs = [vp, vw] ∧ Rp K H vp (encP PP) ∧ Rp K H vw (encW W) ∧ Good PP mm ∧ mm ≤ 70 ∧ WaysOk PP W ways4 ∧
  ∀ (v : V) (H' : Hp), Keep [] H H' → Rp K H' v (encB (lawSet PP W (PP.length + 1))) → Q v H'
theorem good_hnd {PP : List Wk} {W : List (List Str)} {mm : Nat} (gd : Good PP mm) (wo : WaysOk PP W ways4) : Later PP ∧ ∀ (i : Nat) (wk : Wk) (h : Hn) (w k : Nat), PP[i]? = some wk → h ∈ hndB wk.body → h.2 = some (w, k) → k < (W.getD w []).length := by
  have T : ∀ {p o : Nat} {ts : List Th} {w k0 : Nat} {h : Hn}, (∀ t ∈ ts, Th.ok p o 4 t) → h ∈ hndT w k0 ts → h.1 < p ∧ ∃ k, h.2 = some (w, k) ∧ k < k0 + ts.length := by
    intro p o ts
    induction ts with
    | nil => intro w k0 h _ m; unfold hndT at m; cases m
    | cons t ts ih =>
      intro w k0 h ht m
      have ih' := fun m => ih (w := w) (k0 := k0 + 1) (h := h) (fun u hu => ht u (List.mem_cons_of_mem _ hu)) m
      have fin : h ∈ hndT w (k0 + 1) ts → h.1 < p ∧ ∃ k, h.2 = some (w, k) ∧ k < k0 + (t :: ts).length := fun m => by
        obtain ⟨h1, k, h2, h3⟩ := ih' m
        exact ⟨h1, k, h2, by rw [List.length_cons]; omega⟩
      cases t with
      | par q =>
        rw [hndT_par] at m
        rcases List.mem_cons.mp m with rfl | m
        · exact ⟨Th.ok_par_lt (ht _ List.mem_cons_self), k0, rfl, by rw [List.length_cons]; omega⟩
        · exact fin m
      | num _ => rw [hndT_num] at m; exact fin m
      | sum _ _ => rw [hndT_sum] at m; exact fin m
      | cell _ => rw [hndT_cell] at m; exact fin m
      | own _ => rw [hndT_own] at m; exact fin m
  have B : ∀ {sh : List (Nat × Nat)} {i : Nat}, (∀ {s : St} {d : Nat} {h : Hn}, St.ok sh i d s → h ∈ hndS s → h.1 < (sh.getD i (0, 0)).1 ∧ ∀ w k, h.2 = some (w, k) → i < w ∧ w < sh.length ∧ k < (sh.getD w (0, 0)).1) ∧ ∀ {b : Sts} {d : Nat} {h : Hn}, Sts.ok sh i d b → h ∈ hndB b → h.1 < (sh.getD i (0, 0)).1 ∧ ∀ w k, h.2 = some (w, k) → i < w ∧ w < sh.length ∧ k < (sh.getD w (0, 0)).1 := by
    intro sh i
    have step : ∀ (n : Nat), (∀ {s : St} {d : Nat} {h : Hn}, d < n → St.ok sh i d s → h ∈ hndS s → h.1 < (sh.getD i (0, 0)).1 ∧ ∀ w k, h.2 = some (w, k) → i < w ∧ w < sh.length ∧ k < (sh.getD w (0, 0)).1) ∧ ∀ {b : Sts} {d : Nat} {h : Hn}, d < n → Sts.ok sh i d b → h ∈ hndB b → h.1 < (sh.getD i (0, 0)).1 ∧ ∀ w k, h.2 = some (w, k) → i < w ∧ w < sh.length ∧ k < (sh.getD w (0, 0)).1 := by
      intro n
      induction n with
      | zero => exact ⟨fun dn => by omega, fun dn => by omega⟩
      | succ n ih =>
        have S : ∀ {s : St} {d : Nat} {h : Hn}, d < n + 1 → St.ok sh i d s → h ∈ hndS s → h.1 < (sh.getD i (0, 0)).1 ∧ ∀ w k, h.2 = some (w, k) → i < w ∧ w < sh.length ∧ k < (sh.getD w (0, 0)).1 := by
          intro s d h dn ok m
          cases s with
          | set p t =>
            obtain ⟨_, okp, _⟩ := St.ok_set' ok
            cases p with
            | par k =>
              unfold hndS at m
              cases List.mem_singleton.mp m
              exact ⟨Th.ok_par_lt okp, fun w k z => by cases z⟩
            | num _ => unfold hndS at m; cases m
            | sum _ _ => unfold hndS at m; cases m
            | cell _ => unfold hndS at m; cases m
            | own _ => unfold hndS at m; cases m
          | say t => unfold hndS at m; cases m
          | ite t a b =>
            cases d with
            | zero => unfold St.ok at ok; exact ok.elim
            | succ d =>
              unfold St.ok at ok
              unfold hndS at m
              rcases List.mem_append.mp m with m | m
              · exact ih.2 (by omega) ok.2.1 m
              · exact ih.2 (by omega) ok.2.2 m
          | call w ts =>
            obtain ⟨iw, wl, lt, okt⟩ := St.ok_call' ok
            unfold hndS at m
            obtain ⟨h1, k, h2, h3⟩ := T okt m
            refine ⟨h1, fun w' k' z => ?_⟩
            rw [h2] at z
            cases z
            exact ⟨iw, wl, by omega⟩
        refine ⟨S, ?_⟩
        intro b
        induction b using Sts.rec (motive_1 := fun _ => True) with
        | nil => intro d h _ _ m; unfold hndB at m; cases m
        | cons s r _ ihr =>
          intro d h dn ok m
          unfold Sts.ok at ok
          rw [hndB] at m
          rcases List.mem_append.mp m with m | m
          · exact S dn ok.1 m
          · exact ihr dn ok.2 m
        | _ => trivial
    exact ⟨fun {s d h} ok m => (step (d + 1)).1 (by omega) ok m, fun {b d h} ok m => (step (d + 1)).2 (by omega) ok m⟩
  have lsh : (shapes PP).length = PP.length := by unfold shapes; exact List.length_map _
  refine ⟨fun i wk h e m => ?_, fun i wk h w k e m z => ?_⟩
  · obtain ⟨h1, h2⟩ := (B (sh := shapes PP) (i := i)).2 (gd.body i wk e) m
    rw [shapes_at e] at h1
    refine ⟨h1, fun w k z => ?_⟩
    have := h2 w k z
    omega
  · obtain ⟨h1, h2⟩ := (B (sh := shapes PP) (i := i)).2 (gd.body i wk e) m
    obtain ⟨iw, wl, kl⟩ := h2 w k z
    rw [lsh] at wl
    have ew := List.getElem?_eq_getElem wl
    have hwW : w < W.length := by rw [wo.1]; exact wl
    have eW := List.getElem?_eq_getElem hwW
    rw [shapes_at ew] at kl
    rw [List.getD_eq_getElem?_getD, eW]
    show k < W[w].length
    rw [(wo.2 w _ _ ew eW).1]
    exact kl
abbrev sL_may_set : Stmt := top 41
abbrev nL_may_set : List Str := ["_law_program_here", "_law_ways_here", "_law_good", "_law_turn", "_law_at", "_law_param", "_law_work", "_law_k", "_law_found"]
abbrev pL_may_set : List Str := ["_law_program_here", "_law_ways_here"]
theorem scL_may_set : FnScope nL_may_set pL_may_set (defScope sL_may_set) := ⟨rfl, rfl, rfl, by decide +kernel, rfl, by decide +kernel, by decide +kernel⟩
abbrev slaw : Stmt := top 42
abbrev nlaw : List Str := ["_law_script", "_law_row", "_law_turn", "_law_program_here", "_law_ways_here", "_law_plain", "_law_some"]
abbrev plaw : List Str := ["_law_script"]
theorem sclaw : FnScope nlaw plaw (defScope slaw) := ⟨rfl, rfl, rfl, by decide +kernel, rfl, by decide +kernel, by decide +kernel⟩
theorem okLawMaySet (D : DefAt K mg "_law_may_set" sL_may_set pL_may_set) (T : Blt mg) (C_law_handings : Callee P w K mg base "_law_handings" 3 pL_handings (spHandings K 3)) : Callee P w K mg base "_law_may_set" 4 pL_may_set (spLawMaySet K) := by
  refine D.ok scL_may_set (fun vs H Q E h => ?_) (fun f cdv A outer s H vs Q E hr h => ?_)
  · obtain ⟨vp, vw, PP, W, mm, rfl, _⟩ := h
    rfl
  obtain ⟨vp, vw, PP, W, mm, rfl, hp, hw, gd, m1, wo, q⟩ := h
  obtain ⟨L, hW⟩ := good_hnd gd wo
  have few := gd.few
  have sh3 : ∀ w, ((shapes PP).getD w (0, 0)).1 ≤ 3 := fun w => by
    rw [shapes_params]
    rw [List.getD_eq_getElem?_getD]
    cases e : PP[w]? with
    | none => show 0 ≤ 3; omega
    | some wk => exact gd.params wk (List.mem_of_getElem? e)
  obtain ⟨a1, xs1, rfl, hT, hl1, hat⟩ := encP_at hp
  obtain ⟨wp, zs, rfl, hTz, hzs⟩ := hw.tup_inv
  refine ⟨_, (pss_cons (ps_set (i := 2) scL_may_set.nd rfl (Or.inr rfl) (pe_lst pa_nil))
  (pss_cons (ps_for PassesOwn.never rfl (pi_range1 rfl T.range (pa_cons (pe_op op_add (pe_callB (cLen (K := K)) (by rfl) T.len PySem.boot_len (pa_cons (pv 0) pa_nil)) pe_int) pa_nil)) (pg_name (i := 3) scL_may_set.nd rfl (Or.inl rfl))
   (pss_one (ps_for PassesOwn.never rfl (pi_range1 rfl T.range (pa_cons (pe_callB (cLen (K := K)) (by rfl) T.len PySem.boot_len (pa_cons (pv 0) pa_nil)) pa_nil)) (pg_name (i := 4) scL_may_set.nd rfl (Or.inr rfl))
   (pss_one (ps_for PassesOwn.never rfl (piList (K := K) (pcall C_law_handings (hr.mono (by omega)) rfl (pa_cons (pe_ix (ixT (K := K)) (pe_ix (ixT (K := K)) (pv 0) (pv 4) (fun _ _ => rfl)) pe_int (fun _ _ => rfl)) pa_nil))) (pgTup (K := K) (by rfl) (pgs_cons (pg_name (i := 5) scL_may_set.nd rfl (Or.inl rfl)) (pgs_cons (pg_name (i := 6) scL_may_set.nd rfl (Or.inl rfl)) (pgs_cons (pg_name (i := 7) scL_may_set.nd rfl (Or.inl rfl)) pgs_nil))))
   (pss_one (ps_if (PW.pt (pw_or (pt_cmpR op_isN1 (pv 6) pe_non (nomark _)) (pw_or1 (PW.pt (pw_and (pt_cmpR (opInD (K := K) (units65 hr)) (pe_tup (pa_cons (pv 6) (pa_cons (pv 7) pa_nil))) (pv 2) (by with_unfolding_all rfl)) (pw_and1 (pt_cmpR op_ne (pe_ix (ixT (K := K)) (pe_ix (ixT (K := K)) (pv 1) (pv 6) (fun _ _ => rfl)) (pv 7) (fun _ _ => rfl)) pe_str (nomark _)))))))) (pss_one (ps_expr (peApp (K := K) (pv 2) (pe_tup (pa_cons (pv 4) (pa_cons (pv 5) pa_nil)))))) pss_nil)))))))
  (pss_cons (ps_set (i := 8) scL_may_set.nd rfl (Or.inl rfl) (pe_lst pa_nil))
  (pss_cons (ps_for PassesOwn.never rfl (pi_range1 rfl T.range (pa_cons (pe_callB (cLen (K := K)) (by rfl) T.len PySem.boot_len (pa_cons (pv 0) pa_nil)) pa_nil)) (pg_name (i := 4) scL_may_set.nd rfl (Or.inr rfl))
   (pss_one (ps_expr (peApp (K := K) (pv 8) (pe_callTy (cTuple (K := K)) (by rfl) T.tuple (by decide +kernel) (pa_cons (pe_lc (own := [("_law_param", 5)]) (g := gName 5) (by rfl) scL_may_set.nd (pi_range1 rfl T.range (pa_cons (pe_ix (ixT (K := K)) (pe_ix (ixT (K := K)) (pv 0) (pv 4) (fun _ _ => rfl)) pe_int (fun _ _ => rfl)) pa_nil)) (blkOk_by (own := [("_law_param", 5)]) (N := nL_may_set) (sc := defScope sL_may_set) (by decide +kernel)) (fun _ _ _ _ _ => (pg_name (i := 5) scL_may_set.nd rfl (Or.inl rfl))) (fun _ _ _ _ _ => pts_nil) (fun _ _ _ _ _ => (pe_cmpR (opInD (K := K) (units65 hr)) (pe_tup (pa_cons (pv 4) (pa_cons (pv 5) pa_nil))) (pv 2) (by with_unfolding_all rfl)))) pa_nil))))))
  (pss_one (ps_ret (pe_callTy (cTuple (K := K)) (by rfl) T.tuple (by decide +kernel) (pa_cons (pv 8) pa_nil)))))))), ?_⟩
  walk_at "rd"
  intro gl H1 ngl hgl k1
  have hT1 := (kts0 k1).sqT hT
  walk_at "rd"
  refine forR (fun t σ H' => ∃ (x3 x4 x5 x6 x7 x8 : Option V) (ys : List V), σ = [some (.ref a1), some (.ref wp), some (.ref gl), x3, x4, x5, x6, x7, x8] ∧ Keep [] H H' ∧ H' gl = some (.lst ys) ∧ PRel K H' ys (goT PP W t) ∧ (goT PP W t).length ≤ 1000 * t) ⟨_, _, _, _, _, _, [], rfl, k1, hgl, ⟨rfl, fun j x e => by simp [goT] at e⟩, Nat.zero_le _⟩ (fun t σ H2 ht hp2 => ?_) (fun σ H2 hp2 => ?_)
  · obtain ⟨x3, x4, x5, x6, x7, x8, ys, rfl, k2, h2, r2, l2⟩ := hp2
    have ht5 : t ≤ 5 := by omega
    have hT2 := (kts0 k2).sqT hT
    have eG : goW W 0 (PP.drop 0) (goT PP W t) = goT PP W (t + 1) := by rw [List.drop_zero, goT]
    generalize goT PP W t = g0 at r2 l2 eG
    generalize goT PP W (t + 1) = G at eG
    walk_at "rd"
    refine forR (fun i σ H' => ∃ (x4 x5 x6 x7 x8 : Option V) (ys : List V) (g : List (Nat × Nat)), σ = [some (.ref a1), some (.ref wp), some (.ref gl), some (.int (t : Int)), x4, x5, x6, x7, x8] ∧ Keep [] H H' ∧ H' gl = some (.lst ys) ∧ PRel K H' ys g ∧ goW W i (PP.drop i) g = G ∧ g.length ≤ 1000 * t + 210 * i) ⟨_, _, _, _, _, ys, g0, rfl, k2, h2, r2, eG, by omega⟩ (fun i σ H3 hi hp3 => ?_) (fun σ H3 hp3 => ?_)
    · obtain ⟨x4, x5, x6, x7, x8, ys, g, rfl, k3, h3, r3, e3, l3⟩ := hp3
      have hiP : i < PP.length := by omega
      have ei : PP[i]? = some PP[i] := List.getElem?_eq_getElem hiP
      rw [List.drop_eq_getElem_cons hiP, goW] at e3
      obtain ⟨wq, vb, ap, hWq, hB⟩ := hat i PP[i] ei
      have hT3 := (kts0 k3).sqT hT
      have hW3 := (kts0 k3).sqT hWq
      have b2 : atI [V.int (PP[i].params : Int), .int (PP[i].owns : Int), vb] 2 = some vb := at2
      have mb := gd.many _ (List.getElem_mem hiP)
      walk_at "rd"
      refine ask ⟨vb, PP[i].body, shapes PP, i, 2, rfl, hB.ts (kts0 k3), by omega, gd.body i _ ei, sh3, by omega, fun hl H4 xs nhl k4 hhl r4 => ?_⟩
      have k04 := k3.trans k4
      have h4 := k4 _ _ h3 (by simp)
      have nhg : gl ≠ hl := fun z => by rw [← z, h3] at nhl; cases nhl
      have lhs : (hndB PP[i].body).length ≤ 210 := by
        have := hndB_len sh3 (gd.body i _ ei)
        omega
      have hms : ∀ h ∈ hndB PP[i].body, h ∈ hndB PP[i].body := fun h hh => hh
      generalize ehs : hndB PP[i].body = hs at r4 e3 lhs hms
      generalize eG2 : goH W i hs g = G2 at e3
      have eG2' : goH W i (hs.drop 0) g = G2 := by rw [List.drop_zero]; exact eG2
      walk_at "rd"
      refine forL (xs := xs) (fun j σ H' => ∃ (x5 x6 x7 x8 : Option V) (ys : List V) (g' : List (Nat × Nat)), σ = [some (.ref a1), some (.ref wp), some (.ref gl), some (.int (t : Int)), some (.int (i : Int)), x5, x6, x7, x8] ∧ Keep [gl] H4 H' ∧ H' gl = some (.lst ys) ∧ PRel K H' ys g' ∧ goH W i (hs.drop j) g' = G2 ∧ g'.length ≤ 1000 * t + 210 * i + j) ⟨_, _, _, _, ys, g, rfl, Keep.refl, h4, r3.ts (kts0 k4), eG2', by omega⟩ (fun j σ H5 _ hp5 => ?_) (fun j x σ H5 hx hp5 => ?_) (fun σ H5 hp5 => ?_)
      · obtain ⟨x5, x6, x7, x8, ys, g', rfl, k5, h5, r5, e5, l5⟩ := hp5
        exact SqL.of (k5 _ _ hhl (by simpa using Ne.symm nhg))
      · obtain ⟨x5, x6, x7, x8, ys, g', rfl, k5, h5, r5, e5, l5⟩ := hp5
        have t5 : Tst H4 H5 := keep_mark k5 h4
        have hjl : j < hs.length := by
          have := (List.getElem?_eq_some_iff.mp hx).1
          rw [r4.1] at this
          exact this
        have ej : hs[j]? = some hs[j] := List.getElem?_eq_getElem hjl
        obtain ⟨ta, eta, hta⟩ := r4.2 j _ ej
        rw [hx] at eta
        cases eta
        have hm : hs[j] ∈ hndB PP[i].body := by rw [ehs]; exact List.getElem_mem hjl
        rw [List.drop_eq_getElem_cons hjl, goH] at e5
        have hta5 := t5.sqT hta
        have hhit := hitB_sound (g := g') hW ei hm
        have lyy : ys.length ≤ 10000 := by rw [r5.1]; omega
        generalize hs[j] = hh at hta5 e5 hhit hm
        obtain ⟨pp, oo⟩ := hh
        -- behind the test
        cases oo with
        | none =>
          have hta5' : SqT K H5 ta [.int (pp : Int), .non, .non] := hta5
          have hh : hitB W g' (pp, none) = true := rfl
          rw [if_pos hh] at e5
          walk_at "rd"
          refine known true (fun R hR => ?_) (fun H6 k6 => ?_)
          · refine r_or ?_
            walk_at "rd"
            exact hR _ Keep.refl
          have h6 := k6 _ _ h5 (by simp)
          walk_at "rd"
          intro tn H7 ntn htn k7
          have h7 := k7 _ _ h6 (by simp)
          walk_at "rd"
          intro H8 h8 k8
          have t8 := keep_mark k8 h7
          exact ⟨_, _, _, _, _, _, rfl, ((k5.by0 k6).by0 k7).trans k8, h8, ((r5.ts (kts0 (k6.trans k7))).ts t8).snoc (x := (i, pp)) (t8.sqT (SqT.of htn)), e5, by rw [List.length_append, List.length_singleton]; omega⟩
        | some wk2 =>
          obtain ⟨w2, kk2⟩ := wk2
          have hta5' : SqT K H5 ta [.int (pp : Int), .int (w2 : Int), .int (kk2 : Int)] := hta5
          have hkl := hW i _ _ w2 kk2 ei hm rfl
          have hwl : w2 < W.length := by
            by_cases c : w2 < W.length
            · exact c
            · rw [List.getD_eq_getElem?_getD, List.getElem?_eq_none (by omega)] at hkl
              exact absurd hkl (Nat.not_lt_zero _)
          have eW : W[w2]? = some W[w2] := List.getElem?_eq_getElem hwl
          have gW : W.getD w2 [] = W[w2] := by rw [List.getD_eq_getElem?_getD, eW]; rfl
          rw [gW] at hkl
          obtain ⟨v1, ev1, rv1⟩ := hzs.get (i := w2) (d := .tuple (W[w2].map PyData.str)) (by rw [List.getElem?_map, eW]; rfl)
          obtain ⟨ra, us, rfl, hTu, hus⟩ := rv1.tup_inv
          have eus := rps_strs hus
          subst eus
          have d1 := atI_nat ev1
          have d2 : atI (W[w2].map V.str) (kk2 : Int) = some (.str W[w2][kk2]) := atI_nat (by rw [List.getElem?_map, List.getElem?_eq_getElem hkl]; rfl)
          have eh : hitB W g' (pp, some (w2, kk2)) = (decide ((w2, kk2) ∈ g') && !decide (W[w2][kk2] = "copy")) := by
            show (decide ((w2, kk2) ∈ g') && !decide ((W.getD w2 []).getD kk2 "" = "copy")) = _
            rw [gW, List.getD_eq_getElem?_getD, List.getElem?_eq_getElem hkl]
            rfl
          have t05 := (kts0 k04).trans t5
          have hTz5 := t05.sqT hTz
          have hTu5 := t05.sqT hTu
          rw [eh] at e5
          walk_at "rd"
          refine known (decide ((w2, kk2) ∈ g') && !decide (W[w2][kk2] = "copy")) (fun R hR => ?_) (fun H6 k6 => ?_)
          · refine r_or ?_
            walk_at "rd"
            refine r_and ?_
            walk_at "rd"
            intro tq H6 ntq htq k6
            have h6 := k6 _ _ h5 (by simp)
            have dp6 : Dp K H6 (.ref gl) (.list (g'.map pdN)) := .lst (SqL.of h6) (r5.ts (kts0 k6)).dp
            have dq6 : Dp K H6 (.ref tq) (pdN (w2, kk2)) := .tup (SqT.of htq) (.cons (.int _) (.cons (.int _) .nil))
            walk_at "rd"
            refine r_inD dq6 dp6 pdN_shaped pdNs_shaped ?_
            rw [any_pdN]
            have hTz6 := (kts0 k6).sqT hTz5
            have hTu6 := (kts0 k6).sqT hTu5
            walk_at "rd"
            refine cases_b (decide ((w2, kk2) ∈ g')) (fun c => ?_) (fun c => ?_)
            · rw [if_pos c]
              walk_at "rd"
              have e : (decide ((w2, kk2) ∈ g') && !decide (W[w2][kk2] = "copy")) = !decide (V.str W[w2][kk2] = V.str "copy") := by
                rw [c, Bool.true_and]
                congr 1
                exact decide_eq_decide.mpr ⟨fun h => by rw [h], fun h => by injection h⟩
              rw [← e]
              exact hR _ k6
            · rw [if_neg (by rw [c]; exact Bool.false_ne_true)]
              have e : (decide ((w2, kk2) ∈ g') && !decide (W[w2][kk2] = "copy")) = false := by rw [c, Bool.false_and]
              rw [← e]
              exact hR _ k6
          have h6 := k6 _ _ h5 (by simp)
          refine cases_b (decide ((w2, kk2) ∈ g') && !decide (W[w2][kk2] = "copy")) (fun c => ?_) (fun c => ?_)
          · rw [if_pos c] at e5 ⊢
            walk_at "rd"
            intro tn H7 ntn htn k7
            have h7 := k7 _ _ h6 (by simp)
            walk_at "rd"
            intro H8 h8 k8
            have t8 := keep_mark k8 h7
            exact ⟨_, _, _, _, _, _, rfl, ((k5.by0 k6).by0 k7).trans k8, h8, ((r5.ts (kts0 (k6.trans k7))).ts t8).snoc (x := (i, pp)) (t8.sqT (SqT.of htn)), e5, by rw [List.length_append, List.length_singleton]; omega⟩
          · rw [if_neg (by rw [c]; exact Bool.false_ne_true)] at e5 ⊢
            walk_at "rd"
            exact ⟨_, _, _, _, _, _, rfl, k5.by0 k6, h6, r5.ts (kts0 k6), e5, by omega⟩
      · obtain ⟨x5, x6, x7, x8, ys, g', rfl, k5, h5, r5, e5, l5⟩ := hp5
        rw [r4.1, List.drop_length, goH] at e5
        subst e5
        refine ⟨_, _, _, _, _, ys, g', rfl, k04.fresh1 k5 ngl, h5, r5, e3, ?_⟩
        rw [r4.1] at l5
        omega
    · obtain ⟨x4, x5, x6, x7, x8, ys, g, rfl, k3, h3, r3, e3, l3⟩ := hp3
      rw [Int.toNat_natCast, hl1, List.drop_length, goW] at e3
      rw [Int.toNat_natCast, hl1] at l3
      subst e3
      refine ⟨_, _, _, _, _, _, ys, rfl, k3, h3, r3, by omega⟩
  · obtain ⟨x3, x4, x5, x6, x7, x8, ys, rfl, k2, h2, r2, l2⟩ := hp2
    have et : ((xs1.length : Int) + 1).toNat = PP.length + 1 := by omega
    rw [et] at r2 l2
    have hl6 : (goT PP W (PP.length + 1)).length ≤ 6000 := by omega
    have hT2 := (kts0 k2).sqT hT
    walk_at "rd"
    intro fl H3 nfl hfl k3
    have h3 := k3 _ _ h2 (by simp)
    have hT3 := (kts0 k3).sqT hT2
    have n03 : H fl = none := free0 k2 nfl
    walk_at "rd"
    refine forR (fun i σ H' => ∃ (x3 x4 x5 x6 x7 : Option V) (tv : List V), σ = [some (.ref a1), some (.ref wp), some (.ref gl), x3, x4, x5, x6, x7, some (.ref fl)] ∧ Keep [] H H' ∧ Tst H3 H' ∧ H' gl = some (.lst ys) ∧ H' fl = some (.lst tv) ∧ TRel K H' tv ((lawSet PP W (PP.length + 1)).take i)) ⟨_, _, _, _, _, [], rfl, k2.trans k3, Tst.refl, h3, hfl, ⟨by rw [List.take_zero]; rfl, fun k bs e => by rw [List.take_zero] at e; simp at e⟩⟩ (fun i σ H4 hi hp4 => ?_) (fun σ H4 hp4 => ?_)
    · obtain ⟨x3, x4, x5, x6, x7, tv, rfl, k4, t4, h4, f4, r4⟩ := hp4
      have hiP : i < PP.length := by omega
      have ei : PP[i]? = some PP[i] := List.getElem?_eq_getElem hiP
      obtain ⟨wq, vb, ap, hWq, hB⟩ := hat i PP[i] ei
      have hT4 := (kts0 k4).sqT hT
      have hW4 := (kts0 k4).sqT hWq
      have b0 : atI [V.int (PP[i].params : Int), .int (PP[i].owns : Int), vb] 0 = some (.int (PP[i].params : Int)) := at0
      have p3 := gd.params _ (List.getElem_mem hiP)
      have gf : gl ≠ fl := fun z => by rw [z] at h2; rw [h2] at nfl; cases nfl
      walk_at "rd"
      refine lcR (fun E p H' => H4 E = none ∧ Keep [] H4 H' ∧ H' E = some (.lst (bools ((List.range p).map fun p => decide ((i, p) ∈ goT PP W (PP.length + 1)))))) (fun E H5 nE e5 k5 => ⟨nE, k5, e5⟩) (fun E p H5 hpp hp5 => ?_) (fun E H5 hp5 => ?_)
      · obtain ⟨nE, k5, e5⟩ := hp5
        have h5 := k5 _ _ h4 (by simp)
        have hp3 : p ≤ 3 := by omega
        walk_at "rd"
        refine ⟨rfl, ?_⟩
        walk_at "rd"
        intro tq H6 ntq htq k6
        have h6 := k6 _ _ h5 (by simp)
        have dp6 : Dp K H6 (.ref gl) (.list ((goT PP W (PP.length + 1)).map pdN)) := .lst (SqL.of h6) (r2.ts ((kts0 k3).trans (t4.trans (kts0 (k5.trans k6))))).dp
        have dq6 : Dp K H6 (.ref tq) (pdN (i, p)) := .tup (SqT.of htq) (.cons (.int _) (.cons (.int _) .nil))
        walk_at "rd"
        refine r_inD dq6 dp6 pdN_shaped pdNs_shaped ?_
        rw [any_pdN]
        have e6 := k6 _ _ e5 (by simp)
        have lbb : (bools ((List.range p).map fun p => decide ((i, p) ∈ goT PP W (PP.length + 1)))).length ≤ 1000 := by rw [bools_len, List.length_map, List.length_range]; omega
        walk_at "rd"
        intro H7 h7 k7
        refine ⟨nE, (k5.trans k6).fresh1 k7 nE, ?_⟩
        rw [h7, List.range_succ, List.map_append]
        unfold bools
        rw [List.map_append]
        rfl
      · obtain ⟨nE, k5, e5⟩ := hp5
        walk_at "rd"
        intro tq H6 ntq htq k6
        have k46 := k5.trans k6
        have f6 := k46 _ _ f4 (by simp)
        have ltv : tv.length ≤ 1000 := by rw [r4.1, List.length_take]; omega
        walk_at "rd"
        intro H7 h7 k7
        have t67 := keep_mark k7 f6
        have t47 := (kts0 k46).trans t67
        refine ⟨_, _, _, _, _, _, rfl, (k4.trans k46).fresh1 k7 n03, t4.trans t47, k7 _ _ (k46 _ _ h4 (by simp)) (by simpa using gf), h7, ?_⟩
        have el : (lawSet PP W (PP.length + 1))[i]? = some ((List.range PP[i].params).map fun p => decide ((i, p) ∈ goT PP W (PP.length + 1))) := by
          unfold lawSet
          rw [List.getElem?_map, List.getElem?_range hiP]
          show some ((List.range (PP.getD i ⟨0, 0, .nil⟩).params).map fun p => decide ((i, p) ∈ goT PP W (PP.length + 1))) = some _
          rw [List.getD_eq_getElem?_getD, ei]
          rfl
        rw [List.take_add_one, el]
        rw [Int.toNat_natCast] at htq
        have r7 := r4.ts t47
        refine ⟨by rw [List.length_append, List.length_append, r7.1]; rfl, fun k bs e => ?_⟩
        have ll := r7.1
        by_cases c : k < ((lawSet PP W (PP.length + 1)).take i).length
        · rw [List.getElem?_append_left c] at e
          rw [List.getElem?_append_left (by omega)]
          exact r7.2 k bs e
        · rw [List.getElem?_append_right (by omega)] at e
          rw [List.getElem?_append_right (by omega), ll]
          cases hj : k - ((lawSet PP W (PP.length + 1)).take i).length with
          | zero =>
            rw [hj] at e
            cases e
            exact ⟨tq, rfl, t67.sqT (SqT.of htq)⟩
          | succ n =>
            rw [hj] at e
            simp at e
    · obtain ⟨x3, x4, x5, x6, x7, tv, rfl, k4, t4, h4, f4, r4⟩ := hp4
      have ell : ((lawSet PP W (PP.length + 1)).take (xs1.length : Int).toNat) = lawSet PP W (PP.length + 1) := List.take_of_length_le (by
        unfold lawSet
        rw [List.length_map, List.length_range, Int.toNat_natCast]
        omega)
      rw [ell] at r4
      walk_at "rd"
      intro tr H5 ntr htr k5
      exact q _ H5 (k4.trans k5) (.tup (SqT.of htr) (r4.ts (kts0 k5)).rps)
end
end Hw
namespace Hw
open PySem PySem.Spec PyProof.Rows L2
local macro_rules | `(tactic| walk_at "sz") => `(tactic| first | exact Nat.le_of_ble_eq_true rfl | exact small (by first | omega | (simp; done) | (simp; omega)))
local macro_rules | `(tactic| walk_at "szT") => `(tactic| first | exact Nat.lt_of_lt_of_le (Nat.lt_succ_self _) (Nat.le_of_ble_eq_true rfl) | exact smallT (by first | omega | (simp; done) | (simp; omega)))
local macro_rules | `(tactic| walk_at "cond") => `(tactic| first | decide | omega | (dsimp only; omega) | exact ⟨by omega, by omega⟩ | exact .inr ⟨by decide, by decide⟩)
local macro_rules | `(tactic| walk_at "sq") => `(tactic| first | assumption | exact SqL.of (by assumption) | exact SqT.of (by assumption))
local macro_rules | `(tactic| walk_at "ty") => `(tactic| first | (with_reducible assumption) | exact .base (.int _) | exact .base (.str _) | exact .base (.bl _) | exact .base .non | exact tyT (by walk_at "sq") | exact tyL (by walk_at "sq"))
local macro_rules | `(tactic| walk_at "rd1") => `(tactic| first
  | ((with_reducible apply r_seq))
  | ((with_reducible apply r_asg))
  | ((with_reducible apply r_name))
  | ((with_reducible apply r_op))
  | ((with_reducible apply r_var); exact rfl)
  | ((with_reducible apply r_c))
  | ((with_reducible apply r_ixT); (walk_at "sq"); first | exact rfl | assumption)
  | ((with_reducible apply r_ixL); (walk_at "sq"); first | exact rfl | assumption)
  | ((with_reducible apply r_ixA); (first | exact .inl (by walk_at "sq") | exact .inr (by walk_at "sq")); first | exact rfl | assumption)
  | ((with_reducible apply r_isi); (walk_at "ty"); (decide +kernel))
  | ((with_reducible apply r_isiT2); assumption; (walk_at "ty"); (decide +kernel); (decide +kernel))
  | ((with_reducible apply r_I0))
  | ((with_reducible apply r_I); (walk_at "cond"))
  | ((with_reducible apply r_eq); exact rfl)
  | ((with_reducible apply r_ne); exact rfl)
  | ((with_reducible apply r_test))
  | ((with_reducible apply r_bl))
  | ((with_reducible apply r_if))
  | ((with_reducible apply r_nil))
  | ((with_reducible apply r_cons))
  | ((with_reducible apply r_call))
  | ((with_reducible apply r_cb))
  | ((with_reducible apply r_tup))
  | ((with_reducible apply r_lst))
  | ((with_reducible apply new); (walk_at "sz"))
  | ((with_reducible apply r_ret))
  | ((with_reducible apply r_retN))
  | ((with_reducible apply r_next))
  | ((with_reducible apply r_drop))
  | ((with_reducible apply r_lenL); (walk_at "sq"))
  | ((with_reducible apply r_lenT); (walk_at "sq"))
  | ((with_reducible apply r_int))
  | ((with_reducible apply r_intB))
  | ((with_reducible apply r_isN))
  | ((with_reducible apply r_notN))
  | ((with_reducible apply r_B))
  | ((with_reducible apply r_not))
  | ((with_reducible apply r_notV))
  | ((with_reducible apply r_andV))
  | ((with_reducible apply r_orV))
  | ((with_reducible apply r_ifE))
  | ((with_reducible apply r_chain))
  | ((with_reducible apply ite_t); (first | (with_reducible exact nRN) | (with_reducible exact nIN) | (with_reducible exact dNN) | decide +kernel))
  | ((with_reducible apply ite_f); (first | (with_reducible exact dRN) | (with_reducible exact dIN) | (with_reducible exact nNN) | decide +kernel))
  | ((with_reducible apply r_in); (first | exact .inl (by walk_at "sq") | exact .inr (by walk_at "sq")); exact rfl; (first | exact nums_flat | exact rfl))
  | ((with_reducible apply turn))
  | ((with_reducible apply r_for))
  | ((with_reducible apply r_iRng1))
  | ((with_reducible apply r_rng); (first | decide | omega | (simp; omega)); (first | decide | omega | (simp; omega)))
  | ((with_reducible apply r_iList))
  | ((with_reducible apply r_iTup))
  | ((with_reducible apply r_overL); (walk_at "sq"))
  | ((with_reducible apply r_overT); (walk_at "sq"))
  | ((with_reducible apply r_lc))
  | ((with_reducible apply acc); assumption; (walk_at "szT"))
  | ((with_reducible apply r_sub))
  | ((with_reducible apply r_setL); assumption; exact rfl)
  | ((with_reducible apply r_gtup); (walk_at "sq"); rfl)
  | ((with_reducible apply r_gnil))
  | ((with_reducible apply r_gcons))
  | ((with_reducible apply r_par))
  | ((with_reducible apply r_par2))
  | ((with_reducible apply r_sl))
  | ((with_reducible apply r_part))
  | ((with_reducible apply r_part1))
  | ((with_reducible apply r_noPart))
  | ((with_reducible apply r_slL); (walk_at "sq"))
  | ((with_reducible apply r_slA); (walk_at "sq"))
  | ((with_reducible apply r_tupL); (walk_at "sq"))
  | ((with_reducible apply r_tupT); (walk_at "sq"))
  | ((with_reducible apply r_lstL); (walk_at "sq"))
  | ((with_reducible apply r_lstT); (walk_at "sq"))
  | ((with_reducible apply r_append))
  | ((with_reducible apply r_isL); (walk_at "sq"))
  | ((with_reducible apply r_app); assumption; (walk_at "szT"))
  | ((with_reducible apply r_dget))
  | ((with_reducible apply r_dgetS); assumption; (walk_at "dk"))
  | ((with_reducible apply r_dput))
  | ((with_reducible apply r_dputS); assumption; (walk_at "szT"))
  | ((with_reducible apply r_disp))
  | ((with_reducible apply r_pnil))
  | ((with_reducible apply r_pcons))
  | ((with_reducible apply r_fld))
  | ((with_reducible apply r_fld1); assumption; assumption; assumption; (first | exact rfl | assumption))
  | ((with_reducible apply r_sfld))
  | ((with_reducible apply r_sfld1); assumption; assumption; assumption; exact (by decide)))
local macro_rules | `(tactic| walk_at "rd") => `(tactic| repeat walk_at "rd1")
local macro_rules | `(tactic| walk_at "lk") => `(tactic| first | (with_reducible exact cell_number) | (with_reducible exact cell_loans) | (with_reducible exact frame_owns) | (with_reducible exact frame_handed) | (with_reducible exact frame_roads) | (with_reducible exact want_thing) | (with_reducible exact want_frame) | (with_reducible exact run_program) | (with_reducible exact run_ways) | (with_reducible exact run_commons) | (with_reducible exact run_said) | (with_reducible exact run_lent) | (with_reducible exact run_mixed))
local macro_rules | `(tactic| walk_at "rd1") => `(tactic| first
  | ((with_reducible apply r_enumT))
  | ((with_reducible apply r_overE); (walk_at "sq"))
  | ((with_reducible apply r_zipA))
  | ((with_reducible apply r_zipT); (walk_at "sq"); (walk_at "sq"))
  | ((with_reducible apply r_zip3))
  | ((with_reducible apply r_overZ3); (walk_at "sq"); (walk_at "sq"); (walk_at "sq"))
  | ((with_reducible apply r_make))
  | ((with_reducible apply r_isiC); assumption; assumption; assumption)
  | ((with_reducible apply r_popM))
  | ((with_reducible apply r_pop); assumption)
  | ((with_reducible apply r_tru))
  | ((with_reducible apply r_truL); (walk_at "sq"))
  | ((with_reducible apply r_fld1); assumption; assumption; assumption; (walk_at "lk"))
  | ((with_reducible apply r_sfld1); assumption; assumption; assumption; exact Nat.le_of_ble_eq_true rfl))
local macro_rules | `(tactic| walk_at "rd1") => `(tactic| first
  | ((with_reducible apply r_revR))
  | ((with_reducible apply r_revOf); (first | omega | decide))
  | ((with_reducible apply r_zipT3))
  | ((with_reducible apply r_overZT3); (walk_at "sq"); (walk_at "sq"); (walk_at "sq"))
  | ((with_reducible apply r_rep1); assumption; (first | omega | (simp; omega))))
section
variable {P : Program} {w : World} {K : PySem.W.Frag} {mg : Str → Option Value} {base : Heap}
/-! ### the law of who may set what: the law itself -/
def spLaw (K : PySem.W.Frag) : Sp := fun vs H Q _ => ∃ (a : Addr) (ns : List Int), vs = [.ref a] ∧ Scr K H a ns ∧ ∀ H', Q (.bl true) H'
theorem encB_plain {PP : List Wk} {W : List (List Str)} (l : PP.length ≤ 4) (p3 : ∀ i, (PP.getD i ⟨0, 0, .nil⟩).params ≤ 3) : plain 4 (encB (maySet PP W)) := by
  unfold encB plain
  have ll := toldF_len (P := PP) (W := W) PP.length
  refine ⟨by rw [List.length_map]; unfold maySet; omega, fun e he => ?_⟩
  obtain ⟨bs, hbs, rfl⟩ := List.mem_map.mp he
  obtain ⟨i, hi⟩ := List.mem_iff_getElem?.mp hbs
  have hil : i < PP.length := by
    have := (List.getElem?_eq_some_iff.mp hi).1
    unfold maySet at this
    omega
  have := toldF_row (P := PP) (W := W) PP.length i (Nat.le_refl _) (by omega) hil
  have e2 : (toldF PP W PP.length).getD i [] = bs := by rw [List.getD_eq_getElem?_getD]; unfold maySet at hi; rw [hi]; rfl
  rw [e2] at this
  have := p3 i
  unfold plain
  refine ⟨by rw [List.length_map]; omega, fun e he => ?_⟩
  obtain ⟨b, _, rfl⟩ := List.mem_map.mp he
  unfold plain
  trivial
theorem okLaw (D : DefAt K mg "law" slaw plaw) (T : Blt mg) (C_law_taken : Callee P w K mg base "_law_taken" 1 pL_taken (spTaken K)) (C_law_program : Callee P w K mg base "_law_program" 15 pL_program (spProgram K)) (C_law_ways : Callee P w K mg base "_law_ways" 2 pL_ways (spWays K))
    (C_law_may_set : Callee P w K mg base "_law_may_set" 4 pL_may_set (spLawMaySet K)) (C_may_set : Callee P w K mg base "may_set" 20 pmay_set (spMaySet K)) (C_law_alike : Callee P w K mg base "_law_alike" 5 pL_alike (spAlike K 4)) : Callee P w K mg base "law" 130 plaw (spLaw K) := by
  refine D.ok sclaw (fun vs H Q E h => ?_) (fun f cdv A outer s H vs Q E hr h => ?_)
  · obtain ⟨a, ns, rfl, _⟩ := h
    rfl
  obtain ⟨a, ns, rfl, hS, q⟩ := h
  refine ⟨_, (pss_cons (ps_set (i := 1) sclaw.nd rfl (Or.inl rfl) (pe_lst (pa_cons (pv 0) (pa_cons pe_int (pa_cons pe_int (pa_cons pe_int pa_nil))))))
  (pss_cons (ps_for PassesOwn.never rfl (pi_range1 rfl T.range (pa_cons pe_int pa_nil)) (pg_name (i := 2) sclaw.nd rfl (Or.inl rfl))
   (pss_cons (ps_set (i := 3) sclaw.nd rfl (Or.inl rfl) (pcall C_law_program (hr.mono (by omega)) rfl (pa_cons (pv 1) (pa_cons pe_int pa_nil))))
  (pss_cons (ps_set (i := 4) sclaw.nd rfl (Or.inl rfl) (pcall C_law_ways (hr.mono (by omega)) rfl (pa_cons (pv 1) (pa_cons (pv 3) (pa_cons (pe_lst (pa_cons pe_str (pa_cons pe_str (pa_cons pe_str (pa_cons pe_str pa_nil))))) pa_nil)))))
  (pss_cons (ps_set (i := 5) sclaw.nd rfl (Or.inl rfl) (pcall C_law_ways (hr.mono (by omega)) rfl (pa_cons (pv 1) (pa_cons (pv 3) (pa_cons (pe_lst (pa_cons pe_str pa_nil)) pa_nil)))))
  (pss_one (ps_for PassesOwn.never rfl (piList (K := K) (pe_lst (pa_cons (pv 4) (pa_cons (pv 5) (pa_cons (pv 4) pa_nil))))) (pg_name (i := 6) sclaw.nd rfl (Or.inl rfl))
   (pss_one (ps_if (pt_not (pt_val (pcall C_law_alike (hr.mono (by omega)) rfl (pa_cons (pcall C_may_set (hr.mono (by omega)) rfl (pa_cons (pv 3) (pa_cons (pv 6) pa_nil))) (pa_cons (pcall C_law_may_set (hr.mono (by omega)) rfl (pa_cons (pv 3) (pa_cons (pv 6) pa_nil))) pa_nil))))) (pss_one (ps_ret pe_bl)) pss_nil))))))))
  (pss_one (ps_ret pe_bl)))), ?_⟩
  walk_at "rd"
  intro r H1 nr h1 k1
  have R1 : Row K H1 r := ⟨a, ns, 0, 0, 0, h1, hS.ts (kts0 k1), by omega⟩
  walk_at "rd"
  refine forR (fun i σ H' => ∃ x2 x3 x4 x5 x6 : Option V, σ = [some (.ref a), some (.ref r), x2, x3, x4, x5, x6] ∧ Row K H' r) ⟨_, _, _, _, _, rfl, R1⟩ (fun i σ H0 hi hp => ?_) (fun σ H' hp => ?_)
  · obtain ⟨x2, x3, x4, x5, x6, rfl, R0⟩ := hp
    walk_at "rd"
    refine ask ⟨r, 8, rfl, by omega, by omega, R0, fun v PP H2 hv gd k2 R2 => ?_⟩
    walk_at "rd"
    intro p3 H3 n3 h3 k3
    have R3 := R2.keep0 k3
    have p3r : p3 ≠ r := fun z => R2.ne (z ▸ n3)
    have hv3 := hv.ts (kts0 k3)
    walk_at "rd"
    refine ask ⟨r, p3, v, PP, ways4, rfl, R3, hv3, gd.few, gd.params, h3, by decide, by decide, p3r, fun u1 W1 H4 hu1 wo1 k4 R4 => ?_⟩
    have hv4 := hv3.ts (R3.ts k4)
    walk_at "rd"
    intro p5 H5 n5 h5 k5
    have R5 := R4.keep0 k5
    have p5r : p5 ≠ r := fun z => R4.ne (z ▸ n5)
    have hv5 := hv4.ts (kts0 k5)
    have hu15 := hu1.ts (kts0 k5)
    walk_at "rd"
    refine ask ⟨r, p5, v, PP, ["copy"], rfl, R5, hv5, gd.few, gd.params, h5, by decide, by decide, p5r, fun u2 W2 H6 hu2 wo2 k6 R6 => ?_⟩
    have wo2' : WaysOk PP W2 ways4 := ⟨wo2.1, fun i w ws e1 e2 => ⟨(wo2.2 i w ws e1 e2).1, fun x hx => by
      cases List.mem_singleton.mp ((wo2.2 i w ws e1 e2).2 x hx)
      exact List.mem_cons_self⟩⟩
    have hv6 := hv5.ts (R5.ts k6)
    have hu16 := hu15.ts (R5.ts k6)
    walk_at "rd"
    intro pl H7 npl hpl k7
    have R7 := R6.keep0 k7
    have hv7 := hv6.ts (kts0 k7)
    have some_ : ∀ (j : Nat) (x : V), [u1, u2, u1][j]? = some x → ∃ W, Rp K H7 x (encW W) ∧ WaysOk PP W ways4 := fun j x e => by
      rcases j with _ | _ | _ | j
      · cases e; exact ⟨W1, hu16.ts (kts0 k7), wo1⟩
      · cases e; exact ⟨W2, hu2.ts (kts0 k7), wo2'⟩
      · cases e; exact ⟨W1, hu16.ts (kts0 k7), wo1⟩
      · cases e
    walk_at "rd"
    refine forL (xs := [u1, u2, u1]) (fun j σ H' => ∃ x6 : Option V, σ = [some (.ref a), some (.ref r), some (.int (i : Int)), some v, some u1, some u2, x6] ∧ Keep [] H7 H') ⟨_, rfl, Keep.refl⟩ (fun j σ H' _ hp => ?_) (fun j x σ H8 hx hp => ?_) (fun σ H' hp => ?_)
    · obtain ⟨x6, rfl, k8⟩ := hp
      exact SqL.of (k8 _ _ hpl (by simp))
    · obtain ⟨x6, rfl, k8⟩ := hp
      obtain ⟨W, hx7, wo⟩ := some_ j x hx
      have few := gd.few
      have p3' : ∀ i, (PP.getD i ⟨0, 0, .nil⟩).params ≤ 3 := fun i => by
        rw [List.getD_eq_getElem?_getD]
        cases e : PP[i]? with
        | none => show 0 ≤ 3; omega
        | some wk => exact gd.params wk (List.mem_of_getElem? e)
      walk_at "rd"
      refine ask ⟨v, x, PP, W, 8 + 2, rfl, hv7.ts (kts0 k8), hx7.ts (kts0 k8), gd, by omega, wo, fun y H9 k9 ry => ?_⟩
      have k89 := k8.trans k9
      walk_at "rd"
      refine ask ⟨v, x, PP, W, 8 + 2, rfl, hv7.ts (kts0 k89), hx7.ts (kts0 k89), gd, by omega, wo, fun z H10 k10 rz => ?_⟩
      obtain ⟨L, hW⟩ := good_hnd gd wo
      rw [lawSet_eq L hW (Nat.le_succ _)] at rz
      walk_at "rd"
      refine ask ⟨y, z, _, rfl, (ry.ts (kts0 k10)).dp, rz.dp, encB_plain few p3', fun H11 k11 => ?_⟩
      walk_at "rd"
      exact ⟨_, rfl, (k89.trans k10).trans k11⟩
    · obtain ⟨x6, rfl, k8⟩ := hp
      exact ⟨_, _, _, _, _, rfl, R7.keep0 k8⟩
  · obtain ⟨x2, x3, x4, x5, x6, rfl, R0⟩ := hp
    walk_at "rd"
    exact q _
end
end Hw
namespace Hw
open PySem PySem.Spec PyProof.Rows L2
theorem Callee.at_ {P : Program} {w : World} {K : PySem.W.Frag} {mg : Str → Option Value} {base : Heap} {x : Str} {k : Nat} {ps : List Str} {sp : Sp} {f : Addr} {fd : FuncData} {oc : Value} {od : Option Addr} {osl : Array (Option Value)} (C : Callee P w K mg base x k ps sp) (m : mg x = some (.ref f)) (l : K.lookup f = some ⟨oc, od, .func fd, osl⟩) :
    FnOk P w K mg base CX0 k f fd ps sp := by
  obtain ⟨f', fd', F, m', kp, b, oc', od', osl', lk⟩ := C.ex
  rw [m] at m'
  cases m'
  rw [l] at lk
  cases lk
  exact F
theorem scr_of {K : PySem.W.Frag} {H : Hp} {a : Addr} {ns : List Int} (o : Only H) (h : SqL K H a (ns.map V.int)) : Scr K H a ns := by
  rcases h with (h | ⟨ob, h⟩) | h
  · rcases o a with q | ⟨ob, xs, q⟩
    · rw [q] at h; cases h
    · rw [q] at h; cases h
  · exact .inl ⟨ob, h⟩
  · exact .inr ⟨rfl, .inr h⟩
theorem kit_self {K : PySem.W.Frag} {C : Addr} : PySem.W.kitOne K (.ref C) (.ref C) = some true := by
  unfold PySem.W.kitOne
  rw [if_pos (beq_self_eq_true _)]
theorem kit_no {K : PySem.W.Frag} {C D : Addr} (n : C ≠ D) (h1 : PySem.W.isClsIn K D = true) (h2 : PySem.W.typeIn K (.ref D) = some (.type "type")) (h3 : PySem.W.subIn K (.ref C) (.ref D) = some false) : PySem.W.kitOne K (.ref C) (.ref D) = some false := by
  unfold PySem.W.kitOne PySem.W.kitCls
  rw [if_neg (by rw [beq_eq_false_iff_ne.mpr fun z => n (Value.ref.inj z)]; exact Bool.false_ne_true)]
  unfold PySem.W.isClsIn at h1
  show (if ((PySem.W.clsIn K D).isSome && PySem.W.typeIn K (.ref D) == some (.type "type")) = true then PySem.W.subIn K (.ref C) (.ref D) else none) = some false
  rw [if_pos (by rw [h1, h2]; exact beq_self_eq_true _), h3]
theorem lawOk {P : Program} {w : World} {K : PySem.W.Frag} {mg : Str → Option Value} {base : Heap} {tk : Nat → Tok} {aP aW : Addr} (T : Cst K tk aP aW mg) (T2 : Blt2 mg)
    (D_is_below : DefAt K mg "is_below" sis_below pis_below)
    (D_is_number : DefAt K mg "is_number" sis_number pis_number)
    (D_is_shaped : DefAt K mg "is_shaped" sis_shaped pis_shaped)
    (D_need_program : DefAt K mg "need_program" sneed_program pneed_program)
    (D_need_head : DefAt K mg "need_head" sneed_head pneed_head)
    (D_need_body : DefAt K mg "need_body" sneed_body pneed_body)
    (D_need_step : DefAt K mg "need_step" sneed_step pneed_step)
    (D_need_call : DefAt K mg "need_call" sneed_call pneed_call)
    (D_need_place : DefAt K mg "need_place" sneed_place pneed_place)
    (D_need_thing : DefAt K mg "need_thing" sneed_thing pneed_thing)
    (D_is_plain : DefAt K mg "is_plain" sis_plain pis_plain)
    (D_need_ways : DefAt K mg "need_ways" sneed_ways pneed_ways)
    (D_may_set : DefAt K mg "may_set" smay_set pmay_set)
    (D_mark_body : DefAt K mg "mark_body" smark_body pmark_body)
    (D_mark_handed : DefAt K mg "mark_handed" smark_handed pmark_handed)
    (D_mark : DefAt K mg "mark" smark pmark)
    (D__law_taken : DefAt K mg "_law_taken" sL_taken pL_taken)
    (D__law_alike : DefAt K mg "_law_alike" sL_alike pL_alike)
    (D__law_thing : DefAt K mg "_law_thing" sL_thing pL_thing)
    (D__law_place : DefAt K mg "_law_place" sL_place pL_place)
    (D__law_step : DefAt K mg "_law_step" sL_step pL_step)
    (D__law_body : DefAt K mg "_law_body" sL_body pL_body)
    (D__law_program : DefAt K mg "_law_program" sL_program pL_program)
    (D__law_ways : DefAt K mg "_law_ways" sL_ways pL_ways)
    (D__law_handings : DefAt K mg "_law_handings" sL_handings pL_handings)
    (D__law_may_set : DefAt K mg "_law_may_set" sL_may_set pL_may_set)
    (D_law : DefAt K mg "law" slaw plaw) :
    Callee P w K mg base "law" 130 plaw (spLaw K) := by
  have B : Blt mg := T.toBlt
  have tn := T.toNrs
  have tc := T
  have taken := okTaken (P := P) (w := w) (base := base) D__law_taken B
  have thing := okThing D__law_thing B taken 3
  have place := okPlace D__law_place B thing
  have steps := okSteps D__law_step D__law_body B taken thing place 3
  have program := okProgram D__law_program B taken place steps.2
  have ways := okWays D__law_ways B taken
  have alike := okAlike (P := P) (w := w) (base := base) D__law_alike B 4
  have below := okIsBelow (P := P) (w := w) (base := base) D_is_below B
  have number := okIsNumber D_is_number tn below
  have shaped := okIsShaped (P := P) (w := w) (base := base) D_is_shaped B
  have plain := okIsPlain D_is_plain B below number shaped
  have nthing := okNeedThing D_need_thing tn shaped plain 5
  have nplace := okNeedPlace D_need_place tc nthing
  have ncall := okNeedCall D_need_call tc below nthing
  have nbody := okNeedBodies D_need_body D_need_step tc shaped nthing nplace ncall 3
  have nhead := okNeedHead D_need_head tn below
  have nprogram := okNeedProgram D_need_program tc nhead nbody
  have nways := okNeedWays D_need_ways tc nprogram
  have mark := okMark (P := P) (w := w) (base := base) D_mark
  have handed := okMarkHanded D_mark_handed B mark
  have bodies := okMarkBodies D_mark_body mark handed 3
  have mayset := okMaySet D_may_set B T2 nways bodies
  have hnds := okHandingss (P := P) (w := w) (base := base) D__law_handings B 3
  have lawset := okLawMaySet D__law_may_set B hnds
  exact okLaw D_law B taken program ways lawset mayset alike
theorem all_mk {l : PySem.W.OpenLaw} {w : World} {K : PySem.W.Frag} {h : Heap} {mg : Str → Option Value} {fa aP aW f0 f1 f2 f3 f4 f5 f6 f7 f8 f9 f10 f11 f12 f13 f14 f15 f16 f17 f18 f19 f20 f21 f22 f23 f24 f25 f26 : Addr} (X : K.In h) (G : h.Ns mainGlobals mg) (hfa : mg "law" = some (.ref fa))
    {od0 od1 od2 od3 od4 od5 od6 od7 od8 od9 od10 od11 od12 od13 od14 od15 od16 od17 od18 od19 od20 od21 od22 od23 od24 od25 od26 an0 an1 an2 an3 an4 an5 an6 an7 an8 an9 an10 an11 an12 an13 an14 an15 an16 an17 an18 an19 an20 an21 an22 an23 an24 an25 an26 odTP odTW : Option Addr} {sl0 sl1 sl2 sl3 sl4 sl5 sl6 sl7 sl8 sl9 sl10 sl11 sl12 sl13 sl14 sl15 sl16 sl17 sl18 sl19 sl20 sl21 sl22 sl23 sl24 sl25 sl26 slTP slTW : Array (Option Value)} {oc0 oc1 oc2 oc3 oc4 oc5 oc6 oc7 oc8 oc9 oc10 oc11 oc12 oc13 oc14 oc15 oc16 oc17 oc18 oc19 oc20 oc21 oc22 oc23 oc24 oc25 oc26 kV0 kV1 kV2 kV3 kV4 kV5 kV6 kV7 kV8 kV9 kV10 kV11 kV12 kV13 kV14 kV15 kV16 kV17 kV18 kV19 kV20 kV21 kV22 kV23 kV24 kV25 kV26 dc0 dc1 dc2 dc3 dc4 dc5 dc6 dc7 dc8 dc9 dc10 dc11 dc12 dc13 dc14 dc15 dc16 dc17 dc18 dc19 dc20 dc21 dc22 dc23 dc24 dc25 dc26 pm0 pm1 pm2 pm3 pm4 pm5 pm6 pm7 pm8 pm9 pm10 pm11 pm12 pm13 pm14 pm15 pm16 pm17 pm18 pm19 pm20 pm21 pm22 pm23 pm24 pm25 pm26 cd0 cd1 cd2 cd3 cd4 cd5 cd6 cd7 cd8 cd9 cd10 cd11 cd12 cd13 cd14 cd15 cd16 cd17 cd18 cd19 cd20 cd21 cd22 cd23 cd24 cd25 cd26 ct0 ct1 ct2 ct3 ct4 ct5 ct6 ct7 ct8 ct9 ct10 ct11 ct12 ct13 ct14 ct15 ct16 ct17 ct18 ct19 ct20 ct21 ct22 ct23 ct24 ct25 ct26 : Value} {t0 t1 t2 t3 t4 t5 uP0 uP1 uP2 uW0 uW1 uW2 uW3 : Tok} {nTP nTW : Nat}
    (a0 : PySem.W.nsIn K mainGlobals "is_below" = some (some (.ref f0)))
    (l0 : K.lookup f0 = some ⟨oc0, od0, .func (PySem.W.fnOf "is_below" "is_below" (defArgs sis_below) (defBody sis_below) (defScope sis_below) .none kV0 dc0 pm0 an0 cd0 ct0), sl0⟩)
    (c0 : PySem.W.codeIn K cd0 "is_below" = true)
    (k0 : PySem.W.keepIn K (.ref f0) = true)
    (a1 : PySem.W.nsIn K mainGlobals "is_number" = some (some (.ref f1)))
    (l1 : K.lookup f1 = some ⟨oc1, od1, .func (PySem.W.fnOf "is_number" "is_number" (defArgs sis_number) (defBody sis_number) (defScope sis_number) .none kV1 dc1 pm1 an1 cd1 ct1), sl1⟩)
    (c1 : PySem.W.codeIn K cd1 "is_number" = true)
    (k1 : PySem.W.keepIn K (.ref f1) = true)
    (a2 : PySem.W.nsIn K mainGlobals "is_shaped" = some (some (.ref f2)))
    (l2 : K.lookup f2 = some ⟨oc2, od2, .func (PySem.W.fnOf "is_shaped" "is_shaped" (defArgs sis_shaped) (defBody sis_shaped) (defScope sis_shaped) .none kV2 dc2 pm2 an2 cd2 ct2), sl2⟩)
    (c2 : PySem.W.codeIn K cd2 "is_shaped" = true)
    (k2 : PySem.W.keepIn K (.ref f2) = true)
    (a3 : PySem.W.nsIn K mainGlobals "need_program" = some (some (.ref f3)))
    (l3 : K.lookup f3 = some ⟨oc3, od3, .func (PySem.W.fnOf "need_program" "need_program" (defArgs sneed_program) (defBody sneed_program) (defScope sneed_program) .none kV3 dc3 pm3 an3 cd3 ct3), sl3⟩)
    (c3 : PySem.W.codeIn K cd3 "need_program" = true)
    (k3 : PySem.W.keepIn K (.ref f3) = true)
    (a4 : PySem.W.nsIn K mainGlobals "need_head" = some (some (.ref f4)))
    (l4 : K.lookup f4 = some ⟨oc4, od4, .func (PySem.W.fnOf "need_head" "need_head" (defArgs sneed_head) (defBody sneed_head) (defScope sneed_head) .none kV4 dc4 pm4 an4 cd4 ct4), sl4⟩)
    (c4 : PySem.W.codeIn K cd4 "need_head" = true)
    (k4 : PySem.W.keepIn K (.ref f4) = true)
    (a5 : PySem.W.nsIn K mainGlobals "need_body" = some (some (.ref f5)))
    (l5 : K.lookup f5 = some ⟨oc5, od5, .func (PySem.W.fnOf "need_body" "need_body" (defArgs sneed_body) (defBody sneed_body) (defScope sneed_body) .none kV5 dc5 pm5 an5 cd5 ct5), sl5⟩)
    (c5 : PySem.W.codeIn K cd5 "need_body" = true)
    (k5 : PySem.W.keepIn K (.ref f5) = true)
    (a6 : PySem.W.nsIn K mainGlobals "need_step" = some (some (.ref f6)))
    (l6 : K.lookup f6 = some ⟨oc6, od6, .func (PySem.W.fnOf "need_step" "need_step" (defArgs sneed_step) (defBody sneed_step) (defScope sneed_step) .none kV6 dc6 pm6 an6 cd6 ct6), sl6⟩)
    (c6 : PySem.W.codeIn K cd6 "need_step" = true)
    (k6 : PySem.W.keepIn K (.ref f6) = true)
    (a7 : PySem.W.nsIn K mainGlobals "need_call" = some (some (.ref f7)))
    (l7 : K.lookup f7 = some ⟨oc7, od7, .func (PySem.W.fnOf "need_call" "need_call" (defArgs sneed_call) (defBody sneed_call) (defScope sneed_call) .none kV7 dc7 pm7 an7 cd7 ct7), sl7⟩)
    (c7 : PySem.W.codeIn K cd7 "need_call" = true)
    (k7 : PySem.W.keepIn K (.ref f7) = true)
    (a8 : PySem.W.nsIn K mainGlobals "need_place" = some (some (.ref f8)))
    (l8 : K.lookup f8 = some ⟨oc8, od8, .func (PySem.W.fnOf "need_place" "need_place" (defArgs sneed_place) (defBody sneed_place) (defScope sneed_place) .none kV8 dc8 pm8 an8 cd8 ct8), sl8⟩)
    (c8 : PySem.W.codeIn K cd8 "need_place" = true)
    (k8 : PySem.W.keepIn K (.ref f8) = true)
    (a9 : PySem.W.nsIn K mainGlobals "need_thing" = some (some (.ref f9)))
    (l9 : K.lookup f9 = some ⟨oc9, od9, .func (PySem.W.fnOf "need_thing" "need_thing" (defArgs sneed_thing) (defBody sneed_thing) (defScope sneed_thing) .none kV9 dc9 pm9 an9 cd9 ct9), sl9⟩)
    (c9 : PySem.W.codeIn K cd9 "need_thing" = true)
    (k9 : PySem.W.keepIn K (.ref f9) = true)
    (a10 : PySem.W.nsIn K mainGlobals "is_plain" = some (some (.ref f10)))
    (l10 : K.lookup f10 = some ⟨oc10, od10, .func (PySem.W.fnOf "is_plain" "is_plain" (defArgs sis_plain) (defBody sis_plain) (defScope sis_plain) .none kV10 dc10 pm10 an10 cd10 ct10), sl10⟩)
    (c10 : PySem.W.codeIn K cd10 "is_plain" = true)
    (k10 : PySem.W.keepIn K (.ref f10) = true)
    (a11 : PySem.W.nsIn K mainGlobals "need_ways" = some (some (.ref f11)))
    (l11 : K.lookup f11 = some ⟨oc11, od11, .func (PySem.W.fnOf "need_ways" "need_ways" (defArgs sneed_ways) (defBody sneed_ways) (defScope sneed_ways) .none kV11 dc11 pm11 an11 cd11 ct11), sl11⟩)
    (c11 : PySem.W.codeIn K cd11 "need_ways" = true)
    (k11 : PySem.W.keepIn K (.ref f11) = true)
    (a12 : PySem.W.nsIn K mainGlobals "may_set" = some (some (.ref f12)))
    (l12 : K.lookup f12 = some ⟨oc12, od12, .func (PySem.W.fnOf "may_set" "may_set" (defArgs smay_set) (defBody smay_set) (defScope smay_set) .none kV12 dc12 pm12 an12 cd12 ct12), sl12⟩)
    (c12 : PySem.W.codeIn K cd12 "may_set" = true)
    (k12 : PySem.W.keepIn K (.ref f12) = true)
    (a13 : PySem.W.nsIn K mainGlobals "mark_body" = some (some (.ref f13)))
    (l13 : K.lookup f13 = some ⟨oc13, od13, .func (PySem.W.fnOf "mark_body" "mark_body" (defArgs smark_body) (defBody smark_body) (defScope smark_body) .none kV13 dc13 pm13 an13 cd13 ct13), sl13⟩)
    (c13 : PySem.W.codeIn K cd13 "mark_body" = true)
    (k13 : PySem.W.keepIn K (.ref f13) = true)
    (a14 : PySem.W.nsIn K mainGlobals "mark_handed" = some (some (.ref f14)))
    (l14 : K.lookup f14 = some ⟨oc14, od14, .func (PySem.W.fnOf "mark_handed" "mark_handed" (defArgs smark_handed) (defBody smark_handed) (defScope smark_handed) .none kV14 dc14 pm14 an14 cd14 ct14), sl14⟩)
    (c14 : PySem.W.codeIn K cd14 "mark_handed" = true)
    (k14 : PySem.W.keepIn K (.ref f14) = true)
    (a15 : PySem.W.nsIn K mainGlobals "mark" = some (some (.ref f15)))
    (l15 : K.lookup f15 = some ⟨oc15, od15, .func (PySem.W.fnOf "mark" "mark" (defArgs smark) (defBody smark) (defScope smark) .none kV15 dc15 pm15 an15 cd15 ct15), sl15⟩)
    (c15 : PySem.W.codeIn K cd15 "mark" = true)
    (k15 : PySem.W.keepIn K (.ref f15) = true)
    (a16 : PySem.W.nsIn K mainGlobals "_law_taken" = some (some (.ref f16)))
    (l16 : K.lookup f16 = some ⟨oc16, od16, .func (PySem.W.fnOf "_law_taken" "_law_taken" (defArgs sL_taken) (defBody sL_taken) (defScope sL_taken) .none kV16 dc16 pm16 an16 cd16 ct16), sl16⟩)
    (c16 : PySem.W.codeIn K cd16 "_law_taken" = true)
    (k16 : PySem.W.keepIn K (.ref f16) = true)
    (a17 : PySem.W.nsIn K mainGlobals "_law_alike" = some (some (.ref f17)))
    (l17 : K.lookup f17 = some ⟨oc17, od17, .func (PySem.W.fnOf "_law_alike" "_law_alike" (defArgs sL_alike) (defBody sL_alike) (defScope sL_alike) .none kV17 dc17 pm17 an17 cd17 ct17), sl17⟩)
    (c17 : PySem.W.codeIn K cd17 "_law_alike" = true)
    (k17 : PySem.W.keepIn K (.ref f17) = true)
    (a18 : PySem.W.nsIn K mainGlobals "_law_thing" = some (some (.ref f18)))
    (l18 : K.lookup f18 = some ⟨oc18, od18, .func (PySem.W.fnOf "_law_thing" "_law_thing" (defArgs sL_thing) (defBody sL_thing) (defScope sL_thing) .none kV18 dc18 pm18 an18 cd18 ct18), sl18⟩)
    (c18 : PySem.W.codeIn K cd18 "_law_thing" = true)
    (k18 : PySem.W.keepIn K (.ref f18) = true)
    (a19 : PySem.W.nsIn K mainGlobals "_law_place" = some (some (.ref f19)))
    (l19 : K.lookup f19 = some ⟨oc19, od19, .func (PySem.W.fnOf "_law_place" "_law_place" (defArgs sL_place) (defBody sL_place) (defScope sL_place) .none kV19 dc19 pm19 an19 cd19 ct19), sl19⟩)
    (c19 : PySem.W.codeIn K cd19 "_law_place" = true)
    (k19 : PySem.W.keepIn K (.ref f19) = true)
    (a20 : PySem.W.nsIn K mainGlobals "_law_step" = some (some (.ref f20)))
    (l20 : K.lookup f20 = some ⟨oc20, od20, .func (PySem.W.fnOf "_law_step" "_law_step" (defArgs sL_step) (defBody sL_step) (defScope sL_step) .none kV20 dc20 pm20 an20 cd20 ct20), sl20⟩)
    (c20 : PySem.W.codeIn K cd20 "_law_step" = true)
    (k20 : PySem.W.keepIn K (.ref f20) = true)
    (a21 : PySem.W.nsIn K mainGlobals "_law_body" = some (some (.ref f21)))
    (l21 : K.lookup f21 = some ⟨oc21, od21, .func (PySem.W.fnOf "_law_body" "_law_body" (defArgs sL_body) (defBody sL_body) (defScope sL_body) .none kV21 dc21 pm21 an21 cd21 ct21), sl21⟩)
    (c21 : PySem.W.codeIn K cd21 "_law_body" = true)
    (k21 : PySem.W.keepIn K (.ref f21) = true)
    (a22 : PySem.W.nsIn K mainGlobals "_law_program" = some (some (.ref f22)))
    (l22 : K.lookup f22 = some ⟨oc22, od22, .func (PySem.W.fnOf "_law_program" "_law_program" (defArgs sL_program) (defBody sL_program) (defScope sL_program) .none kV22 dc22 pm22 an22 cd22 ct22), sl22⟩)
    (c22 : PySem.W.codeIn K cd22 "_law_program" = true)
    (k22 : PySem.W.keepIn K (.ref f22) = true)
    (a23 : PySem.W.nsIn K mainGlobals "_law_ways" = some (some (.ref f23)))
    (l23 : K.lookup f23 = some ⟨oc23, od23, .func (PySem.W.fnOf "_law_ways" "_law_ways" (defArgs sL_ways) (defBody sL_ways) (defScope sL_ways) .none kV23 dc23 pm23 an23 cd23 ct23), sl23⟩)
    (c23 : PySem.W.codeIn K cd23 "_law_ways" = true)
    (k23 : PySem.W.keepIn K (.ref f23) = true)
    (a24 : PySem.W.nsIn K mainGlobals "_law_handings" = some (some (.ref f24)))
    (l24 : K.lookup f24 = some ⟨oc24, od24, .func (PySem.W.fnOf "_law_handings" "_law_handings" (defArgs sL_handings) (defBody sL_handings) (defScope sL_handings) .none kV24 dc24 pm24 an24 cd24 ct24), sl24⟩)
    (c24 : PySem.W.codeIn K cd24 "_law_handings" = true)
    (k24 : PySem.W.keepIn K (.ref f24) = true)
    (a25 : PySem.W.nsIn K mainGlobals "_law_may_set" = some (some (.ref f25)))
    (l25 : K.lookup f25 = some ⟨oc25, od25, .func (PySem.W.fnOf "_law_may_set" "_law_may_set" (defArgs sL_may_set) (defBody sL_may_set) (defScope sL_may_set) .none kV25 dc25 pm25 an25 cd25 ct25), sl25⟩)
    (c25 : PySem.W.codeIn K cd25 "_law_may_set" = true)
    (k25 : PySem.W.keepIn K (.ref f25) = true)
    (a26 : PySem.W.nsIn K mainGlobals "law" = some (some (.ref f26)))
    (l26 : K.lookup f26 = some ⟨oc26, od26, .func (PySem.W.fnOf "law" "law" (defArgs slaw) (defBody slaw) (defScope slaw) .none kV26 dc26 pm26 an26 cd26 ct26), sl26⟩)
    (c26 : PySem.W.codeIn K cd26 "law" = true)
    (k26 : PySem.W.keepIn K (.ref f26) = true)
    (i_NUMBERS : PySem.W.nsIn K mainGlobals "NUMBERS" = some (some (.int 3 t0)))
    (i_MOST_WORKS : PySem.W.nsIn K mainGlobals "MOST_WORKS" = some (some (.int 4 t1)))
    (i_MOST_PARAMS : PySem.W.nsIn K mainGlobals "MOST_PARAMS" = some (some (.int 3 t2)))
    (i_MOST_OWNS : PySem.W.nsIn K mainGlobals "MOST_OWNS" = some (some (.int 99 t3)))
    (i_MOST_STEPS : PySem.W.nsIn K mainGlobals "MOST_STEPS" = some (some (.int 100 t4)))
    (i_MOST_OTHERS : PySem.W.nsIn K mainGlobals "MOST_OTHERS" = some (some (.int 4 t5)))
    (t_PLACES : PySem.W.nsIn K mainGlobals "PLACES" = some (some (.ref aP)))
    (u_PLACES : K.lookup aP = some ⟨.type "tuple", odTP, .seq #[.str "cell" uP0, .str "own" uP1, .str "par" uP2] nTP, slTP⟩)
    (t_WAYS : PySem.W.nsIn K mainGlobals "WAYS" = some (some (.ref aW)))
    (u_WAYS : K.lookup aW = some ⟨.type "tuple", odTW, .seq #[.str "copy" uW0, .str "place" uW1, .str "back" uW2, .str "want" uW3] nTW, slTW⟩)
    (z_len : PySem.W.nsIn K mainGlobals "len" = some none)
    (z_int : PySem.W.nsIn K mainGlobals "int" = some none)
    (z_range : PySem.W.nsIn K mainGlobals "range" = some none)
    (z_isinstance : PySem.W.nsIn K mainGlobals "isinstance" = some none)
    (z_tuple : PySem.W.nsIn K mainGlobals "tuple" = some none)
    (z_list : PySem.W.nsIn K mainGlobals "list" = some none)
    (z_bool : PySem.W.nsIn K mainGlobals "bool" = some none)
    (z_str : PySem.W.nsIn K mainGlobals "str" = some none)
    (z_zip : PySem.W.nsIn K mainGlobals "zip" = some none)
    (z_enumerate : PySem.W.nsIn K mainGlobals "enumerate" = some none)
    (z_reversed : PySem.W.nsIn K mainGlobals "reversed" = some none) :
    ∃ fd : FuncData, (∀ (s : Shared) (v : Value), BindsTo s fd ⟨[v], []⟩ [("_law_script", v)]) ∧ ∀ base : Heap, K.In base → base.Ns mainGlobals mg → FnOk l.prog w K mg base CX0 130 fa fd ["_law_script"] (spLaw K) := by
  have e := hfa.symm.trans (PySem.W.mg_of X G a26)
  cases e
  have F0 := fun_mk (st := sis_below) l0 c0 k0
  have D0 : DefAt K mg "is_below" sis_below pis_below := ⟨_, _, F0, PySem.W.mg_of X G a0, F0.binds (ps := pis_below) fun _ _ _ _ _ _ us hl => match us, hl with | [_, _], _ => rfl⟩
  have F1 := fun_mk (st := sis_number) l1 c1 k1
  have D1 : DefAt K mg "is_number" sis_number pis_number := ⟨_, _, F1, PySem.W.mg_of X G a1, F1.binds (ps := pis_number) fun _ _ _ _ _ _ us hl => match us, hl with | [_], _ => rfl⟩
  have F2 := fun_mk (st := sis_shaped) l2 c2 k2
  have D2 : DefAt K mg "is_shaped" sis_shaped pis_shaped := ⟨_, _, F2, PySem.W.mg_of X G a2, F2.binds (ps := pis_shaped) fun _ _ _ _ _ _ us hl => match us, hl with | [_, _, _], _ => rfl⟩
  have F3 := fun_mk (st := sneed_program) l3 c3 k3
  have D3 : DefAt K mg "need_program" sneed_program pneed_program := ⟨_, _, F3, PySem.W.mg_of X G a3, F3.binds (ps := pneed_program) fun _ _ _ _ _ _ us hl => match us, hl with | [_], _ => rfl⟩
  have F4 := fun_mk (st := sneed_head) l4 c4 k4
  have D4 : DefAt K mg "need_head" sneed_head pneed_head := ⟨_, _, F4, PySem.W.mg_of X G a4, F4.binds (ps := pneed_head) fun _ _ _ _ _ _ us hl => match us, hl with | [_, _], _ => rfl⟩
  have F5 := fun_mk (st := sneed_body) l5 c5 k5
  have D5 : DefAt K mg "need_body" sneed_body pneed_body := ⟨_, _, F5, PySem.W.mg_of X G a5, F5.binds (ps := pneed_body) fun _ _ _ _ _ _ us hl => match us, hl with | [_, _, _, _, _], _ => rfl⟩
  have F6 := fun_mk (st := sneed_step) l6 c6 k6
  have D6 : DefAt K mg "need_step" sneed_step pneed_step := ⟨_, _, F6, PySem.W.mg_of X G a6, F6.binds (ps := pneed_step) fun _ _ _ _ _ _ us hl => match us, hl with | [_, _, _, _, _], _ => rfl⟩
  have F7 := fun_mk (st := sneed_call) l7 c7 k7
  have D7 : DefAt K mg "need_call" sneed_call pneed_call := ⟨_, _, F7, PySem.W.mg_of X G a7, F7.binds (ps := pneed_call) fun _ _ _ _ _ _ us hl => match us, hl with | [_, _, _, _], _ => rfl⟩
  have F8 := fun_mk (st := sneed_place) l8 c8 k8
  have D8 : DefAt K mg "need_place" sneed_place pneed_place := ⟨_, _, F8, PySem.W.mg_of X G a8, F8.binds (ps := pneed_place) fun _ _ _ _ _ _ us hl => match us, hl with | [_, _], _ => rfl⟩
  have F9 := fun_mk (st := sneed_thing) l9 c9 k9
  have D9 : DefAt K mg "need_thing" sneed_thing pneed_thing := ⟨_, _, F9, PySem.W.mg_of X G a9, F9.binds (ps := pneed_thing) fun _ _ _ _ _ _ us hl => match us, hl with | [_, _, _], _ => rfl⟩
  have F10 := fun_mk (st := sis_plain) l10 c10 k10
  have D10 : DefAt K mg "is_plain" sis_plain pis_plain := ⟨_, _, F10, PySem.W.mg_of X G a10, F10.binds (ps := pis_plain) fun _ _ _ _ _ _ us hl => match us, hl with | [_, _], _ => rfl⟩
  have F11 := fun_mk (st := sneed_ways) l11 c11 k11
  have D11 : DefAt K mg "need_ways" sneed_ways pneed_ways := ⟨_, _, F11, PySem.W.mg_of X G a11, F11.binds (ps := pneed_ways) fun _ _ _ _ _ _ us hl => match us, hl with | [_, _], _ => rfl⟩
  have F12 := fun_mk (st := smay_set) l12 c12 k12
  have D12 : DefAt K mg "may_set" smay_set pmay_set := ⟨_, _, F12, PySem.W.mg_of X G a12, F12.binds (ps := pmay_set) fun _ _ _ _ _ _ us hl => match us, hl with | [_, _], _ => rfl⟩
  have F13 := fun_mk (st := smark_body) l13 c13 k13
  have D13 : DefAt K mg "mark_body" smark_body pmark_body := ⟨_, _, F13, PySem.W.mg_of X G a13, F13.binds (ps := pmark_body) fun _ _ _ _ _ _ us hl => match us, hl with | [_, _, _, _], _ => rfl⟩
  have F14 := fun_mk (st := smark_handed) l14 c14 k14
  have D14 : DefAt K mg "mark_handed" smark_handed pmark_handed := ⟨_, _, F14, PySem.W.mg_of X G a14, F14.binds (ps := pmark_handed) fun _ _ _ _ _ _ us hl => match us, hl with | [_, _, _, _], _ => rfl⟩
  have F15 := fun_mk (st := smark) l15 c15 k15
  have D15 : DefAt K mg "mark" smark pmark := ⟨_, _, F15, PySem.W.mg_of X G a15, F15.binds (ps := pmark) fun _ _ _ _ _ _ us hl => match us, hl with | [_, _], _ => rfl⟩
  have F16 := fun_mk (st := sL_taken) l16 c16 k16
  have D16 : DefAt K mg "_law_taken" sL_taken pL_taken := ⟨_, _, F16, PySem.W.mg_of X G a16, F16.binds (ps := pL_taken) fun _ _ _ _ _ _ us hl => match us, hl with | [_, _], _ => rfl⟩
  have F17 := fun_mk (st := sL_alike) l17 c17 k17
  have D17 : DefAt K mg "_law_alike" sL_alike pL_alike := ⟨_, _, F17, PySem.W.mg_of X G a17, F17.binds (ps := pL_alike) fun _ _ _ _ _ _ us hl => match us, hl with | [_, _], _ => rfl⟩
  have F18 := fun_mk (st := sL_thing) l18 c18 k18
  have D18 : DefAt K mg "_law_thing" sL_thing pL_thing := ⟨_, _, F18, PySem.W.mg_of X G a18, F18.binds (ps := pL_thing) fun _ _ _ _ _ _ us hl => match us, hl with | [_, _, _], _ => rfl⟩
  have F19 := fun_mk (st := sL_place) l19 c19 k19
  have D19 : DefAt K mg "_law_place" sL_place pL_place := ⟨_, _, F19, PySem.W.mg_of X G a19, F19.binds (ps := pL_place) fun _ _ _ _ _ _ us hl => match us, hl with | [_, _, _], _ => rfl⟩
  have F20 := fun_mk (st := sL_step) l20 c20 k20
  have D20 : DefAt K mg "_law_step" sL_step pL_step := ⟨_, _, F20, PySem.W.mg_of X G a20, F20.binds (ps := pL_step) fun _ _ _ _ _ _ us hl => match us, hl with | [_, _, _, _, _], _ => rfl⟩
  have F21 := fun_mk (st := sL_body) l21 c21 k21
  have D21 : DefAt K mg "_law_body" sL_body pL_body := ⟨_, _, F21, PySem.W.mg_of X G a21, F21.binds (ps := pL_body) fun _ _ _ _ _ _ us hl => match us, hl with | [_, _, _, _, _], _ => rfl⟩
  have F22 := fun_mk (st := sL_program) l22 c22 k22
  have D22 : DefAt K mg "_law_program" sL_program pL_program := ⟨_, _, F22, PySem.W.mg_of X G a22, F22.binds (ps := pL_program) fun _ _ _ _ _ _ us hl => match us, hl with | [_, _], _ => rfl⟩
  have F23 := fun_mk (st := sL_ways) l23 c23 k23
  have D23 : DefAt K mg "_law_ways" sL_ways pL_ways := ⟨_, _, F23, PySem.W.mg_of X G a23, F23.binds (ps := pL_ways) fun _ _ _ _ _ _ us hl => match us, hl with | [_, _, _], _ => rfl⟩
  have F24 := fun_mk (st := sL_handings) l24 c24 k24
  have D24 : DefAt K mg "_law_handings" sL_handings pL_handings := ⟨_, _, F24, PySem.W.mg_of X G a24, F24.binds (ps := pL_handings) fun _ _ _ _ _ _ us hl => match us, hl with | [_], _ => rfl⟩
  have F25 := fun_mk (st := sL_may_set) l25 c25 k25
  have D25 : DefAt K mg "_law_may_set" sL_may_set pL_may_set := ⟨_, _, F25, PySem.W.mg_of X G a25, F25.binds (ps := pL_may_set) fun _ _ _ _ _ _ us hl => match us, hl with | [_, _], _ => rfl⟩
  have F26 := fun_mk (st := slaw) l26 c26 k26
  have D26 : DefAt K mg "law" slaw plaw := ⟨_, _, F26, PySem.W.mg_of X G a26, F26.binds (ps := plaw) fun _ _ _ _ _ _ us hl => match us, hl with | [_], _ => rfl⟩
  have B : Blt mg := ⟨PySem.W.mg_none_of X G z_len, PySem.W.mg_none_of X G z_int, PySem.W.mg_none_of X G z_range, PySem.W.mg_none_of X G z_isinstance, PySem.W.mg_none_of X G z_tuple, PySem.W.mg_none_of X G z_list, PySem.W.mg_none_of X G z_bool, PySem.W.mg_none_of X G z_str, PySem.W.mg_none_of X G z_zip, PySem.W.mg_none_of X G z_enumerate⟩
  have T : Cst K (fun i => match i with | 0 => t0 | 1 => t1 | 2 => t2 | 3 => t3 | 4 => t4 | 5 => t5 | _ => t5) aP aW mg := ⟨⟨B, PySem.W.mg_of X G i_NUMBERS, PySem.W.mg_of X G i_MOST_WORKS, PySem.W.mg_of X G i_MOST_PARAMS, PySem.W.mg_of X G i_MOST_OWNS, PySem.W.mg_of X G i_MOST_STEPS, PySem.W.mg_of X G i_MOST_OTHERS⟩, PySem.W.mg_of X G t_PLACES, PySem.W.mg_of X G t_WAYS, .inr ⟨_, _, _, u_PLACES, rfl, rfl, (by show 3 ≤ sizeLine; decide), .cons ⟨_, rfl⟩ (.cons ⟨_, rfl⟩ (.cons ⟨_, rfl⟩ .nil))⟩, .inr ⟨_, _, _, u_WAYS, rfl, rfl, (by show 4 ≤ sizeLine; decide), .cons ⟨_, rfl⟩ (.cons ⟨_, rfl⟩ (.cons ⟨_, rfl⟩ (.cons ⟨_, rfl⟩ .nil)))⟩⟩
  have T2 : Blt2 mg := ⟨PySem.W.mg_none_of X G z_reversed⟩
  refine ⟨PySem.W.fnOf "law" "law" (defArgs slaw) (defBody slaw) (defScope slaw) .none kV26 dc26 pm26 an26 cd26 ct26, fun s v => .of_eq rfl, fun base _ _ => ?_⟩
  exact (lawOk (P := l.prog) (w := w) (base := base) T T2 D0 D1 D2 D3 D4 D5 D6 D7 D8 D9 D10 D11 D12 D13 D14 D15 D16 D17 D18 D19 D20 D21 D22 D23 D24 D25 D26).at_ (PySem.W.mg_of X G a26) l26
theorem walk {l : PySem.W.OpenLaw} {q : Program} {loose : List Str} {XP : (Str → Option Value) → Heap → Prop} {YP : World → Heap → Prop} {d : DefRec} {K : Params → PySem.W.Frag} (hn : l.most = some 63) (hdf : d.params.defaults = [])
    (hY : ∀ (w : World) (h : Heap), YP w h → (K w.params).In h)
    (F : ∀ (w : World) (mg : Str → Option Value) (fa : Addr) (h : Heap), (K w.params).In h → h.Ns mainGlobals mg → mg d.name = some (.ref fa) →
      ∃ fd : FuncData, (∀ (s : Shared) (u : Value), BindsTo s fd ⟨[u], []⟩ [("_law_script", u)]) ∧ ∀ base : Heap, (K w.params).In base → base.Ns mainGlobals mg → FnOk l.prog w (K w.params) mg base CX0 130 fa fd ["_law_script"] (spLaw (K w.params))) :
    PySem.W.WalkO q loose XP YP l.row.toRowW d [] (fun f vs => PySem.call f vs) :=
  L2.walk_of (n := 63) (k := 130) (x := "_law_script") (CX := fun _ => CX0) (sp := fun w => spLaw (K w.params)) hn (by decide) hdf ⟨rfl, by decide, by decide⟩ hY F (fun _ _ a ns _ o hS => ⟨a, ns, rfl, scr_of o hS, fun _ => rfl⟩) fun _ _ _ _ _ z => z
end Hw
open PySem PySem.W PyProof.Rows
set_option maxRecDepth 100000 in
set_option maxHeartbeats 0 in
theorem PySem.Challenge.cw_handways_k06_who_may_set_what_holds : PySem.Challenge.rw_handways_k06_who_may_set_what.Holds := by
  w_on; o_law; k_head; (case hw => w_witness2)
  k_fill
  refine Hw.walk (l := PySem.Challenge.rw_handways_k06_who_may_set_what) rfl rfl (fun w h Y => PySem.W.kIn_of Y) ?F
  case F =>
    intro w mg fa h KX G hmg
    refine' Hw.all_mk KX G hmg ?a0 ?l0 ?c0 ?k0 ?a1 ?l1 ?c1 ?k1 ?a2 ?l2 ?c2 ?k2 ?a3 ?l3 ?c3 ?k3 ?a4 ?l4 ?c4 ?k4 ?a5 ?l5 ?c5 ?k5 ?a6 ?l6 ?c6 ?k6 ?a7 ?l7 ?c7 ?k7 ?a8 ?l8 ?c8 ?k8 ?a9 ?l9 ?c9 ?k9 ?a10 ?l10 ?c10 ?k10 ?a11 ?l11 ?c11 ?k11 ?a12 ?l12 ?c12 ?k12 ?a13 ?l13 ?c13 ?k13 ?a14 ?l14 ?c14 ?k14 ?a15 ?l15 ?c15 ?k15 ?a16 ?l16 ?c16 ?k16 ?a17 ?l17 ?c17 ?k17 ?a18 ?l18 ?c18 ?k18 ?a19 ?l19 ?c19 ?k19 ?a20 ?l20 ?c20 ?k20 ?a21 ?l21 ?c21 ?k21 ?a22 ?l22 ?c22 ?k22 ?a23 ?l23 ?c23 ?k23 ?a24 ?l24 ?c24 ?k24 ?a25 ?l25 ?c25 ?k25 ?a26 ?l26 ?c26 ?k26 ?i_NUMBERS ?i_MOST_WORKS ?i_MOST_PARAMS ?i_MOST_OWNS ?i_MOST_STEPS ?i_MOST_OTHERS ?t_PLACES ?u_PLACES ?t_WAYS ?u_WAYS ?z_len ?z_int ?z_range ?z_isinstance ?z_tuple ?z_list ?z_bool ?z_str ?z_zip ?z_enumerate ?z_reversed
    (case a0 => k_is)
    (case l0 => k_is)
    (case c0 => k_is)
    (case k0 => k_is)
    (case a1 => k_is)
    (case l1 => k_is)
    (case c1 => k_is)
    (case k1 => k_is)
    (case a2 => k_is)
    (case l2 => k_is)
    (case c2 => k_is)
    (case k2 => k_is)
    (case a3 => k_is)
    (case l3 => k_is)
    (case c3 => k_is)
    (case k3 => k_is)
    (case a4 => k_is)
    (case l4 => k_is)
    (case c4 => k_is)
    (case k4 => k_is)
    (case a5 => k_is)
    (case l5 => k_is)
    (case c5 => k_is)
    (case k5 => k_is)
    (case a6 => k_is)
    (case l6 => k_is)
    (case c6 => k_is)
    (case k6 => k_is)
    (case a7 => k_is)
    (case l7 => k_is)
    (case c7 => k_is)
    (case k7 => k_is)
    (case a8 => k_is)
    (case l8 => k_is)
    (case c8 => k_is)
    (case k8 => k_is)
    (case a9 => k_is)
    (case l9 => k_is)
    (case c9 => k_is)
    (case k9 => k_is)
    (case a10 => k_is)
    (case l10 => k_is)
    (case c10 => k_is)
    (case k10 => k_is)
    (case a11 => k_is)
    (case l11 => k_is)
    (case c11 => k_is)
    (case k11 => k_is)
    (case a12 => k_is)
    (case l12 => k_is)
    (case c12 => k_is)
    (case k12 => k_is)
    (case a13 => k_is)
    (case l13 => k_is)
    (case c13 => k_is)
    (case k13 => k_is)
    (case a14 => k_is)
    (case l14 => k_is)
    (case c14 => k_is)
    (case k14 => k_is)
    (case a15 => k_is)
    (case l15 => k_is)
    (case c15 => k_is)
    (case k15 => k_is)
    (case a16 => k_is)
    (case l16 => k_is)
    (case c16 => k_is)
    (case k16 => k_is)
    (case a17 => k_is)
    (case l17 => k_is)
    (case c17 => k_is)
    (case k17 => k_is)
    (case a18 => k_is)
    (case l18 => k_is)
    (case c18 => k_is)
    (case k18 => k_is)
    (case a19 => k_is)
    (case l19 => k_is)
    (case c19 => k_is)
    (case k19 => k_is)
    (case a20 => k_is)
    (case l20 => k_is)
    (case c20 => k_is)
    (case k20 => k_is)
    (case a21 => k_is)
    (case l21 => k_is)
    (case c21 => k_is)
    (case k21 => k_is)
    (case a22 => k_is)
    (case l22 => k_is)
    (case c22 => k_is)
    (case k22 => k_is)
    (case a23 => k_is)
    (case l23 => k_is)
    (case c23 => k_is)
    (case k23 => k_is)
    (case a24 => k_is)
    (case l24 => k_is)
    (case c24 => k_is)
    (case k24 => k_is)
    (case a25 => k_is)
    (case l25 => k_is)
    (case c25 => k_is)
    (case k25 => k_is)
    (case a26 => k_is)
    (case l26 => k_is)
    (case c26 => k_is)
    (case k26 => k_is)
    (case i_NUMBERS => k_is)
    (case i_MOST_WORKS => k_is)
    (case i_MOST_PARAMS => k_is)
    (case i_MOST_OWNS => k_is)
    (case i_MOST_STEPS => k_is)
    (case i_MOST_OTHERS => k_is)
    (case t_PLACES => k_is)
    (case u_PLACES => k_is)
    (case t_WAYS => k_is)
    (case u_WAYS => k_is)
    (case z_len => k_is)
    (case z_int => k_is)
    (case z_range => k_is)
    (case z_isinstance => k_is)
    (case z_tuple => k_is)
    (case z_list => k_is)
    (case z_bool => k_is)
    (case z_str => k_is)
    (case z_zip => k_is)
    (case z_enumerate => k_is)
    (case z_reversed => k_is)
